import PyProof.Rows.All
import Wide.All
import OpenK.AllK
import Wide.FinOn
import Lean
import PyProof.EqAt
import PyProof.EqKinds
import PyProof.TupleCall
import PyProof.StrLawsChain
import PyProof.StrLawsFirst
import PyProof.Rows.StrNews2
import OpenK.AllK
import PySem.SetOps
import OpenK.AllK
import PyProof.DictItems
import OpenK.AllK
import PyProof.DictValues
import PyProof.ZipIter
import PyProof.ReprBulk
import PySem.Challenge.RW_primer_k15_what_is_a_knot
set_option Elab.async false
set_option linter.all false
set_option maxRecDepth 100000
set_option maxHeartbeats 4000000
set_option genInjectivity false
set_option genSizeOf false
namespace L2
open PySem PySem.Spec PyProof.Rows
noncomputable abbrev Key:=Sum Int Str
noncomputable def kn:Key->Value->Bool
 |.inl k,v=>Value.isInt k v
 |.inr x,v=>Value.isStrOf x v
noncomputable def Br(w:World):Key->Int
 |.inl k=>hashInt k
 |.inr x=>hashStr w x
theorem bw:∀{k:Key}{v:Value},kn k v=true->(∃i t,k=Sum.inl i/\v=Value.int i t)\/(∃x t,k=Sum.inr x/\v=Value.str x t)
 |.inl i,v,h=>by
  obtain⟨t,e⟩:=Value.isInt_shape (k:=i) (v:=v) h;exact .inl ⟨i,t,rfl,e⟩
 |.inr x,v,h=>by
  obtain⟨t,e⟩:=Value.isStrOf_shape (x:=x) (v:=v) h;exact .inr ⟨x,t,rfl,e⟩
theorem q9(i:Int)(t:Tok):kn (.inl i) (.int i t)=true:=by simp[kn,Value.isInt]
theorem q_(x:Str)(t:Tok):kn (.inr x) (.str x t)=true:=by simp[kn,Value.isStrOf]
theorem ye(a b:Int):decide ((Sum.inl a:Key)=Sum.inl b)=(a==b):=by
 by_cases e:a=b
 ·subst e;simp
 ·have h:¬(Sum.inl a:Key)=Sum.inl b:=fun q=>e (Sum.inl.inj q);rw[decide_eq_false h];exact(beq_eq_false_iff_ne.mpr e).symm
theorem yf(a b:Str):decide ((Sum.inr a:Key)=Sum.inr b)=decide (a=b):=by
 by_cases e:a=b
 ·subst e;simp
 ·have h:¬(Sum.inr a:Key)=Sum.inr b:=fun q=>e (Sum.inr.inj q);rw[decide_eq_false h,decide_eq_false e]
theorem yg(a:Int)(b:Str):decide ((Sum.inl a:Key)=Sum.inr b)=false:=decide_eq_false (fun q=>nomatch q)
theorem yh(a:Str)(b:Int):decide ((Sum.inr a:Key)=Sum.inl b)=false:=decide_eq_false (fun q=>nomatch q)
noncomputable def bL(prog:Program)(w:World):PySem.KeyKind prog w Key where
 is:=kn
 hash:=Br w
 inj:=fun v a b ha hb=>by
  rcases bw ha with⟨i,t,rfl,rfl⟩|⟨x,t,rfl,rfl⟩
  ·rcases bw hb with⟨j,u,rfl,e⟩|⟨y,u,rfl,e⟩
   ·injection e with e1 _;rw[e1]
   ·exact nomatch e
  ·rcases bw hb with⟨j,u,rfl,e⟩|⟨y,u,rfl,e⟩
   ·exact nomatch e
   ·injection e with e1 _;rw[e1]
 byValue:=fun k v h=>by
  rcases bw h with⟨i,t,rfl,rfl⟩|⟨x,t,rfl,rfl⟩<;>rfl
 pyHash:=fun hv h=>by
  rcases bw hv with⟨i,t,rfl,rfl⟩|⟨x,t,rfl,rfl⟩
  ·exact wpAny_pyHash_int h
  ·exact wpAny_pyHash_str h
 eqBool:=fun hu hv h=>by
  rcases bw hu with⟨i,t,rfl,rfl⟩|⟨x,t,rfl,rfl⟩
  ·rcases bw hv with⟨j,u,rfl,rfl⟩|⟨y,u,rfl,rfl⟩
   ·rw[ye]at h;exact wpAny_eqBool_int h
   ·rw[yg]at h;exact SeqAt.EqAt.int_str i t y u _ _ _ _ h
  ·rcases bw hv with⟨j,u,rfl,rfl⟩|⟨y,u,rfl,rfl⟩
   ·rw[yh]at h;exact SeqAt.EqAt.str_int x t j u _ _ _ _ h
   ·rw[yf]at h;exact wpAny_eqBool_str h
 «strs»:=fun k x t v h=>by
  rcases bw h with⟨i,u,rfl,e⟩|⟨y,u,rfl,e⟩
  ·exact nomatch e
  ·injection e with e1 _
   subst e1;cases v<;>rfl
theorem mQ(prog:Program)(w:World)(i:Int)(t:Tok):(bL prog w).is (.inl i) (.int i t)=true:=q9 i t
theorem mR(prog:Program)(w:World)(x:Str)(t:Tok):(bL prog w).is (.inr x) (.str x t)=true:=q_ x t
end L2
namespace L2
open PySem PySem.Spec PyProof.Rows
inductive V where
 |non|bl (b:Bool)|int (i:Int)|str (x:Str)|byt (b:Array UInt8)|flt (b:UInt64)|ref (a:Addr)|ty (n:String)
 deriving DecidableEq
noncomputable def RelV:V->Value->Prop
 |.non,u=>u=Value.none
 |.bl b,u=>u=Value.bool b
 |.int i,u=>∃t,u=Value.int i t
 |.str x,u=>∃t,u=Value.str x t
 |.byt b,u=>∃t,u=Value.bytes b t
 |.flt b,u=>∃t,u=Value.float b t
 |.ref a,u=>u=Value.ref a
 |.ty n,u=>u=Value.type n
noncomputable abbrev Vals:List V->List Value->Prop:=Paired RelV
theorem Vals.length{xs:List V}{us:List Value}(r:Vals xs us):xs.length=us.length:=Paired.length r
theorem Vals.get:∀{xs:List V}{us:List Value}{i:Nat}{x:V},Vals xs us->xs[i]?=some x->∃u,us[i]?=some u/\RelV x u
 |_,_,_,_,.nil,e=>by simp at e
 |_,_,0,_,.cons r _,e=>by simp at e;subst e;exact⟨_,rfl,r⟩
 |_,_,i+1,x,.cons _ t,e=>by
  obtain⟨u,h1,h2⟩:=Vals.get (i:=i) (x:=x) t (by simpa using e);exact⟨u,by simpa using h1,h2⟩
theorem Vals.set{x:V}{u:Value}(r:RelV x u):∀{xs:List V}{us:List Value} (i:Nat),Vals xs us->Vals (xs.set i x) (us.set i u)
 |_,_,_,.nil=>.nil
 |_,_,0,.cons _ t=>.cons r t
 |_,_,i+1,.cons q t=>.cons q (Vals.set r i t)
theorem Vals.append:∀{xs ys:List V}{us ws:List Value},Vals xs us->Vals ys ws->Vals (xs++ys) (us++ws)
 |_,_,_,_,.nil,s=>s
 |_,_,_,_,.cons r t,s=>.cons r (Vals.append t s)
theorem Vals.take:∀{xs:List V}{us:List Value} (n:Nat),Vals xs us->Vals (xs.take n) (us.take n)
 |_,_,0,_=>.nil
 |_,_,_+1,.nil=>.nil
 |_,_,n+1,.cons r t=>.cons r (Vals.take n t)
theorem Vals.drop:∀{xs:List V}{us:List Value} (n:Nat),Vals xs us->Vals (xs.drop n) (us.drop n)
 |_,_,0,r=>r
 |_,_,_+1,.nil=>.nil
 |_,_,n+1,.cons _ t=>Vals.drop n t
noncomputable def rf:Option V->Option Value->Prop
 |some v,some u=>RelV v u
 |none,none=>True
 |_,_=>False
noncomputable def KV{κ:Type}:List (κ×V)->List (κ×Value)->Prop:=Paired fun(p:κ×V) (q:κ×Value)=>p.1=q.1/\RelV p.2 q.2
noncomputable def kV:Key->V
 |.inl i=>.int i
 |.inr x=>.str x
inductive HO where
 |lst (xs:List V)
 |tup (xs:List V)
 |dK (kvs:List (Key×V))|dT (kvs:List (List Key×V))
 |set (S:Int->Bool) (n:Nat)
 |ins (C dx:Addr) (fs:List (Str×V))
 |own (x:Addr)
 |xd (fs:List (Str×V))
 |met (f x:Addr)
 |rng (lo hi:Int)
 |frz (o:Obj) (u:HO)
 |tbl (ps:Array Value)
 |ext (φ:Heap->Prop)
noncomputable abbrev Hp:=Addr->Option HO
noncomputable def upd(H:Hp)(a:Addr)(o:HO):Hp:=fun b=>if b=a then some o else H b
theorem aS{H:Hp}{a:Addr}{o:HO}:upd H a o a=some o:=by unfold upd;rw[if_pos rfl]
theorem aG{H:Hp}{a b:Addr}{o:HO}(h:b≠a):upd H a o b=H b:=by unfold upd;rw[if_neg h]
theorem sF{H:Hp}{a b:Addr}{o u:HO}(h:H a=some o)(h':H b=some u)(d:o≠u):a≠b:=by
 intro e;subst e;rw[h]at h';exact d (Option.some.inj h')
theorem bx{H:Hp}{a b:Addr}{o:HO}(h:H a=some o)(h':H b=none):a≠b:=by
 intro e;subst e;rw[h]at h';cases h'
section
variable(P:Program)(w:World)
noncomputable def bI(H:Hp)(h:Heap)(a:Addr):HO->Prop
 |.lst xs=>xs.length<=sizeLine/\∃(its:List Value) (n:Nat),Vals xs its/\h.get? a=some {cls:=.type "list",data:=.seq its.toArray n}
 |.tup xs=>xs.length<=sizeLine/\∃its:List Value,Vals xs its/\IsTup h a its.toArray
 |.dK kvs=>kvs.length<=sizeLine/\(a==sysModules)=false/\∃vs,KV kvs vs/\h.DictOf (bL P w) a vs
 |.dT kvs=>kvs.length<=sizeLine/\(a==sysModules)=false/\∃xs:List (List Key×Addr×Value),
   Paired (fun(p:List Key×V) (q:List Key×Addr×Value)=>p.1=q.1/\H q.2.1=some (.tup (p.1.map kV))/\RelV p.2 q.2.2) kvs xs /\
   ∃o es ep,h.get? a=some o/\o.ExactDict/\o.data=.dict es ep/\es.toList=xs.map (entryOfKey (tupleKind (bL P w)))/\(xs.map (·.1)).Nodup
 |.set S n=>h.SetOf (intKind P w) a S n
 |.ins C dx fs=>H dx=some (.own a)/\fs.length<=1000/\dx≠a/\h.get? a=some (PySem.W.instObj C dx) /\
   ∃mA,h.Ns1 dx mA/\(∀f,rf (fs.lookup f) (mA f))/\PySem.Within mA (fs.map (·.1))
 |.own _=>∃o,h.get? a=some o
 |.xd fs=>∃mA,h.Ns1 a mA/\∀f,rf (fs.lookup f) (mA f)
 |.rng lo hi=>∃t u v,h.get? a=some {cls:=.type "range",data:=.fields #[.int lo t,.int hi u,.int 1 v]}
 |.frz o u=>h.get? a=some o/\bI H h a u
 |.tbl ps=>h.get? a=some {cls:=.none,data:=.fields ps}
 |.met f x=>h.get? a=some (PySem.W.methodObj (.ref f) (.ref x))
 |.ext φ=>φ h/\(∃o,h.get? a=some o)/\∀h1 h2:Heap,φ h1->(∀o,h1.get? a=some o->h2.get? a=some o)->φ h2
noncomputable def HOk(H:Hp)(h:Heap):Prop:=∀a o,H a=some o->bI P w H h a o
end
section
variable{P:Program}{w:World}{H H':Hp}{h h':Heap}{a:Addr}{o:HO}
theorem bI.lt(x:bI P w H h a o):a<h.objs.size:=by
 cases o with
 |lst xs=>obtain⟨_,_,_,_,e⟩:=x;exact Heap.lt_size e
 |tup xs=>obtain⟨_,_,_,p⟩:=x;exact p.lt
 |dK kvs=>obtain⟨_,_,_,_,o,_,_,e,_⟩:=x;exact Heap.lt_size e
 |dT kvs=>obtain⟨_,_,_,_,o,_,_,e,_⟩:=x;exact Heap.lt_size e
 |set S n=>obtain⟨o,_,_,_,e,_⟩:=x;exact Heap.lt_size e
 |ins C dx fs=>obtain⟨_,_,_,e,_⟩:=x;exact Heap.lt_size e
 |own y=>obtain⟨_,e⟩:=x;exact Heap.lt_size e
 |xd fs=>obtain⟨_,⟨_,_,_,e,_⟩,_⟩:=x;exact Heap.lt_size e
 |rng lo hi=>obtain⟨_,_,_,e⟩:=x;exact Heap.lt_size e
 |frz ob u=>obtain⟨e,_⟩:=x;exact Heap.lt_size e
 |tbl ps=>exact Heap.lt_size (show h.get? a=some _ from x)
 |met f y=>exact Heap.lt_size (show h.get? a=some _ from x)
 |ext φ=>obtain⟨_,⟨_,e⟩,_⟩:=x;exact Heap.lt_size e
theorem Paired.yi{α β:Type}{F G:α->β->Prop}:∀{l₁:List α}{l₂:List β},Paired F l₁ l₂->(∀a b,F a b->G a b)->Paired G l₁ l₂
 |_,_,.nil,_=>.nil
 |_,_,.cons r t,f=>.cons (f _ _ r) (Paired.yi t f)
theorem bI.gM(x:bI P w H h a o)(k:∀b u,(b=a\/H b=some (.own a))->h.get? b=some u->h'.get? b=some u)
  (ho:∀b,H b=some (.own a)->H' b=some (.own a)) (ht:∀b xs,H b=some (.tup xs)->H' b=some (.tup xs)):bI P w H' h' a o:=by
 induction o with
 |lst xs=>obtain⟨z,its,n,r,e⟩:=x;exact⟨z,its,n,r,k _ _ (.inl rfl) e⟩
 |tup xs=>obtain⟨z,its,r,ob,e,c⟩:=x;exact⟨z,its,r,ob,k _ _ (.inl rfl) e,c⟩
 |dK kvs=>obtain⟨z,y,vs,r,ob,es,ep,e,c⟩:=x;exact⟨z,y,vs,r,ob,es,ep,k _ _ (.inl rfl) e,c⟩
 |dT kvs =>
  obtain⟨z,y,xs,r,ob,es,ep,e,c⟩:=x;exact⟨z,y,xs,Paired.yi r fun p q z=>⟨z.1,ht _ _ z.2.1,z.2.2⟩,ob,es,ep,k _ _ (.inl rfl) e,c⟩
 |set S n=>obtain⟨ob,es,ep,t,e,c⟩:=x;exact⟨ob,es,ep,t,k _ _ (.inl rfl) e,c⟩
 |ins C dx fs =>
  obtain⟨d,z,ne,e,mA,⟨od,es,ep,e2,c⟩,r⟩:=x;exact⟨ho _ d,z,ne,k _ _ (.inl rfl) e,mA,⟨od,es,ep,k _ _ (.inr d) e2,c⟩,r⟩
 |own y=>obtain⟨ob,e⟩:=x;exact⟨ob,k _ _ (.inl rfl) e⟩
 |xd fs=>obtain⟨mA,⟨od,es,ep,e,c⟩,r⟩:=x;exact⟨mA,⟨od,es,ep,k _ _ (.inl rfl) e,c⟩,r⟩
 |rng lo hi=>obtain⟨t,u,v,e⟩:=x;exact⟨t,u,v,k _ _ (.inl rfl) e⟩
 |frz ob u ih=>obtain⟨e,q⟩:=x;exact⟨k _ _ (.inl rfl) e,ih q⟩
 |tbl ps =>
  have e:h.get? a=some {cls:=.none,data:=.fields ps}:=x;show h'.get? a=some {cls:=.none,data:=.fields ps};exact k a _ (.inl rfl) e
 |met f y =>
  have e:h.get? a=some (PySem.W.methodObj (.ref f) (.ref y)):=x;show h'.get? a=some (PySem.W.methodObj (.ref f) (.ref y));exact k a _ (.inl rfl) e
 |ext φ=>obtain⟨p,⟨o,e⟩,st⟩:=x;exact⟨st _ _ p fun o q=>k _ _ (.inl rfl) q,⟨o,k _ _ (.inl rfl) e⟩,st⟩
theorem HOk.lt(x:HOk P w H h)(e:H a=some o):a<h.objs.size:=(x a o e).lt
theorem HOk.fresh(x:HOk P w H h)(e:h.objs.size<=a):H a=none:=by
 cases q:H a with
 |none=>rfl
 |some u=>exact absurd (Nat.lt_of_lt_of_le (x.lt q) e) (Nat.lt_irrefl _)
theorem HOk.kept(x:HOk P w H h)(k:∀b u,h.get? b=some u->h'.get? b=some u):HOk P w H h':=fun a o e =>
 (x a o e).gM (fun b u _ q=>k b u q) (fun _ q=>q) fun _ _ q=>q
theorem HOk.laid(x:HOk P w H h)(k:∀b u,h.get? b=some u->h'.get? b=some u)(hp:h.objs.size<=a)(new:bI P w (upd H a o) h' a o):HOk P w (upd H a o) h':=fun b u e=>by
 have hn:=x.fresh hp;by_cases hb:b=a
 ·subst hb;rw[aS]at e;cases e;exact new
 ·rw[aG hb]at e;exact(x b u e).gM (fun c v _ q=>k c v q) (fun c q=>by rw[aG (bx q hn)];exact q) fun c xs q=>by rw[aG (bx q hn)];exact q
end
noncomputable def Rd(H:Hp)(a:Addr)(u:HO):Prop:=H a=some u\/∃o,H a=some (.frz o u)
theorem Rd.ok{P:Program}{w:World}{H:Hp}{h:Heap}{a:Addr}{u:HO}(r:Rd H a u)(x:HOk P w H h):bI P w H h a u:=by
 rcases r with r|⟨o,r⟩
 ·exact x a u r
 ·obtain⟨_,q⟩:=x a _ r;exact q
noncomputable def Mut:Option HO->Prop
 |some (.lst _)=>True
 |some (.dK _)=>True
 |some (.dT _)=>True
 |some (.set _ _)=>True
 |some (.ins _ _ _)=>True
 |some (.ext _)=>True
 |_=>False
section
variable{P:Program}{w:World}{H:Hp}{h h':Heap}{x e:Addr}{o':HO}
theorem HOk.write(ok:HOk P w H h)(mu:Mut (H x))(he:e=x\/H e=some (.own x))(k:∀b u,b≠e->h.get? b=some u->h'.get? b=some u)(heo:∃u,h'.get? e=some u)
  (new:bI P w (upd H x o') h' x o'):HOk P w (upd H x o') h':=fun b u q=>by
 have nown:∀c y,H c=some (.own y)->c≠x:=fun c y r z=>by subst z;rw[r]at mu;exact mu
 have ntup:∀c xs,H c=some (.tup xs)->c≠x:=fun c xs r z=>by subst z;rw[r]at mu;exact mu
 by_cases hb:b=x
 ·subst hb;rw[aS]at q;cases q;exact new
 ·rw[aG hb]at q;by_cases hbe:b=e
  ·have q':H b=some (.own x):=by
    rcases he with z|z
    ·exact absurd (hbe.trans z) hb
    ·rw[hbe];exact z
   rw[q]at q';cases q';obtain⟨v,hv⟩:=heo;exact⟨v,by rw[hbe];exact hv⟩
  ·refine(ok b u q).gM (fun c v hc r=>k c v ?_ r) (fun c r=>by rw[aG (nown c b r)];exact r) fun c xs r=>by rw[aG (ntup c xs r)];exact r
   rcases hc with rfl|hc
   ·exact hbe
   ·rintro rfl;rcases he with z|z
    ·exact nown c b hc z
    ·rw[hc]at z;cases z;exact hb rfl
end
structure Un(fs ex:List Addr)(H H':Hp)(h h':Heap):Prop where
 keep:∀b o,h.get? b=some o->H b=none->b∉fs->b∉ex->h'.get? b=some o
 slot:∀b o,h.get? b=some o->H b=none->b∈fs->b∉ex->∃sl,h'.get? b=some {o with slots:=sl}
 free:∀b o,h.get? b=some o->H b=none->b∉ex->H' b=none
 there:∀b o,h.get? b=some o->b∉ex->∃o',h'.get? b=some o'
 iC:∀b xs,H b=some (.tup xs)->H' b=some (.tup xs)
 frzs:∀b o u,H b=some (.frz o u)->H' b=some (.frz o u)
 tbls:∀b ps,H b=some (.tbl ps)->∃more,H' b=some (.tbl (ps++more))
section
variable{fs fs' ex ex':List Addr}{H H1 H2:Hp}{h h1 h2 h':Heap}{a x e:Addr}{o:HO}
theorem Un.any(u:Un fs ex H H1 h h1){b:Addr}{ob:Obj}(q:h.get? b=some ob)(n:H b=none)(hx:b∉ex):∃sl,h1.get? b=some {ob with slots:=sl}:=by
 by_cases hb:b∈fs
 ·exact u.slot b ob q n hb hx
 ·exact⟨ob.slots,u.keep b ob q n hb hx⟩
theorem Un.kept(k:∀b u,h.get? b=some u->h'.get? b=some u):Un fs ex H H h h' :=
 ⟨fun b ob q _ _ _=>k b ob q,fun b ob q _ _ _=>⟨ob.slots,k b ob q⟩,fun _ _ _ n _=>n,fun b ob q _=>⟨ob,k b ob q⟩,fun _ _ q=>q,fun _ _ _ q=>q,fun _ ps q=>⟨#[],by rw[q];simp⟩⟩
theorem Un.refl:Un fs ex H H h h:=Un.kept fun _ _ q=>q
theorem Un.laid(k:∀b u,h.get? b=some u->h'.get? b=some u)(hp:h.objs.size<=a)(hn:H a=none):Un fs ex H (upd H a o) h h' where
 keep:=fun b u q _ _ _=>k b u q
 slot:=fun b u q _ _ _=>⟨u.slots,k b u q⟩
 free:=fun b u q n _=>by rw[aG (Nat.ne_of_lt (Nat.lt_of_lt_of_le (Heap.lt_size q) hp))];exact n
 there:=fun b u q _=>⟨u,k b u q⟩
 iC:=fun b xs q=>by rw[aG (bx q hn)];exact q
 frzs:=fun b u xs q=>by rw[aG (bx q hn)];exact q
 tbls:=fun b ps q=>⟨#[],by rw[aG (bx q hn),q];simp⟩
theorem Un.write(mu:Mut (H x))(he:e=x\/H e=some (.own x))(k:∀b u,b≠e->h.get? b=some u->h'.get? b=some u)(heo:∃u,h'.get? e=some u):Un fs ex H (upd H x o) h h':=by
 have hx:∀b,H b=none->b≠x:=fun b n z=>by subst z;rw[n]at mu;exact mu
 have hb:∀b,H b=none->b≠e:=fun b n z=>by
  subst z;rcases he with r|r
  ·exact hx b n r
  ·rw[n]at r;cases r
 have hm:∀b u,H b=some u->¬Mut (some u)->b≠x:=fun b u q nm z=>by subst z;rw[q]at mu;exact nm mu
 refine⟨fun b u q n _ _=>k b u (hb b n) q,fun b u q n _ _=>⟨u.slots,k b u (hb b n) q⟩,fun b u q n _=>by rw[aG (hx b n)];exact n,fun b u q _=>?_,
  fun b xs q=>by rw[aG (hm b _ q fun z=>z)];exact q,fun b u xs q=>by rw[aG (hm b _ q fun z=>z)];exact q,fun b ps q=>⟨#[],by rw[aG (hm b _ q fun z=>z),q];simp⟩⟩
 by_cases hbe:b=e
 ·subst hbe;exact heo
 ·exact⟨u,k b u hbe q⟩
end
noncomputable def trk(h:Heap)(H:Hp):List Addr:=(List.range h.objs.size).filter fun a=>(H a).isSome
noncomputable def ly(h:Heap)(H:Hp):Heap:=PySem.W.hideAll h (trk h H)
theorem rg(h:Heap)(H:Hp):(ly h H).objs.size=h.objs.size:=PySem.W.hideAll_size _ _
theorem sG{h:Heap}{H:Hp}{b:Addr}{o:Obj}(e:h.get? b=some o)(n:H b=none):(ly h H).get? b=some o :=
 PySem.W.hideAll_get _ e fun hm=>by
  have q:(H b).isSome=true:=(List.mem_filter.mp hm).2;rw[n]at q;simp at q
theorem vQ{h:Heap}{H:Hp}{b:Addr}{o:Obj}(e:(ly h H).get? b=some o):h.get? b=some o/\H b=none:=by
 have e':h.get? b=some o:=PySem.W.of_hideAll (trk h H) e;refine⟨e',?_⟩;cases q:H b with
 |none=>rfl
 |some x =>
  have hm:b∈trk h H:=List.mem_filter.mpr ⟨List.mem_range.mpr (Heap.lt_size e'),by simp[q]⟩;have z:(ly h H).get? b=none:=PySem.W.hideAll_none (trk h H) hm;rw[z]at e;cases e
end L2
namespace L2
open PySem PySem.Spec PyProof.Rows
structure Mod(K:PySem.W.Frag)(mg:Str->Option Value)(base:Heap):Prop where
 kin:K.In base
 glob:base.Ns mainGlobals mg
 blt:∃mb,base.Ns builtinsNs mb/\∀x:Str,x≠"__name__"->mb x=bootBuiltins x
 nolimit:base.NoLimit
structure Cx where
 prog:Program
 w:World
 K:PySem.W.Frag
 mg:Str->Option Value
 base:Heap
 A:Around
 N:List Str
 s₀:Shared
 H₀:Hp
 env:Env
 outer:List Env
 stack:List Env
 ex:List Addr
 fn:Str->Bool
 calm:Bool
 pn:List (Addr×Obj)
 xe:Value->Shared->Prop
noncomputable def frs(l:List Env):List Addr:=l.filterMap (·.frame)
noncomputable abbrev Cx.fs(X:Cx):List Addr:=frs X.outer
noncomputable def Vis(sc:Scope)(x:Str):Prop:=sc.names.lookup x=some .local\/sc.names.lookup x=some .cell\/sc.names.lookup x=some .free
noncomputable def Loc(sc:Scope)(x:Str):Prop:=sc.names.lookup x=some .local\/sc.names.lookup x=some .cell
noncomputable def Look(env:Env)(h:Heap)(m:Str->Option Value)(x:Str)(u:Value):Prop :=
 (env.kindOf x=some .local/\m x=some u)\/((env.kindOf x=some .cell\/env.kindOf x=some .free)/\∃c,env.cells.lookup x=some c/\h.IsCell c (some u))
structure Cx.Ok(X:Cx):Prop where
 mod:Mod X.K X.mg X.base
 kind:X.env.scope.kind=.function
 glob:X.env.globals=mainGlobals
 blt:X.env.builtins=builtinsNs
 above:X.s₀.heap.objs.size<=X.env.locals
 inj:∀x y c,X.env.cells.lookup x=some c->X.env.cells.lookup y=some c->x=y
 has:∀x,(X.env.kindOf x=some .cell\/X.env.kindOf x=some .free)->∃c,X.env.cells.lookup x=some c
 cab:∀x c,X.fn x=true->X.env.cells.lookup x=some c->X.s₀.heap.objs.size<=c
 hd:X.calm=true->X.A.handled=none
 frames:X.A.frames=some X.stack
 stk:X.stack=X.outer\/(X.stack=X.env::X.outer/\X.env.frame=some X.env.locals)
 exf:∀b∈X.ex,b≠X.env.locals/\∀x c,X.env.cells.lookup x=some c->c≠b
 bs:∀b o,X.base.get? b=some o->X.s₀.heap.get? b=some o/\X.H₀ b=none
 bsz:X.base.objs.size<=X.s₀.heap.objs.size
 noex:∀b o,X.base.get? b=some o->b∉X.ex
 exfs:∀b∈X.ex,b∉X.fs
 iS:X.s₀.heap.FunFrames X.base X.outer
 frf:∀b∈X.fs,X.H₀ b=none
structure Inv(X:Cx)(pins:List (Addr×Obj))(σ:List (Option V))(H:Hp)(s:Shared):Prop where
 ok:X.Ok
 os:s.os=X.s₀.os
 bare:AllBare s.gens
 base:Un X.fs X.ex X.H₀ H X.s₀.heap s.heap
 loc:∃m,s.heap.Ns X.env.locals m/\∀(i:Nat) (x:Str) (v:V),X.N[i]?=some x->σ[i]?=some (some v)->Vis X.env.scope x->∃u,RelV v u/\Look X.env s.heap m x u
 cell:∀x c,X.env.cells.lookup x=some c->∃v,s.heap.IsCell c v
 free:H X.env.locals=none
 freeC:∀x c,X.env.cells.lookup x=some c->H c=none
 pin:∀p∈X.pn++pins,s.heap.get? p.1=some p.2/\H p.1=none/\p.1≠X.env.locals/\p.1∉X.fs/\∀v,p.2.data≠.cell v
 hok:HOk X.prog X.w H s.heap
 len:σ.length=X.N.length
section
variable{X:Cx}{pins:List (Addr×Obj)}{σ:List (Option V)}{H H':Hp}{s:Shared}{h':Heap}
theorem Cx.Ok.Bs(ok:X.Ok){b:Addr}{o:Obj}(e:X.base.get? b=some o):b∉X.fs:=fun hb=>by
 have:=(ok.iS.mem hb).1;rw[e]at this;cases this
theorem Inv.bs(I:Inv X pins σ H s):∀b o,X.base.get? b=some o->s.heap.get? b=some o/\H b=none:=fun b o e =>
 ⟨I.base.keep b o (I.ok.bs b o e).1 (I.ok.bs b o e).2 (I.ok.Bs e) (I.ok.noex b o e),I.base.free b o (I.ok.bs b o e).1 (I.ok.bs b o e).2 (I.ok.noex b o e)⟩
theorem Inv.bk(I:Inv X pins σ H s):∀b o,X.base.get? b=some o->s.heap.get? b=some o:=fun b o e=>(I.bs b o e).1
theorem Inv.mod(I:Inv X pins σ H s):Mod X.K X.mg X.base:=I.ok.mod
theorem Inv.kIn(I:Inv X pins σ H s):X.K.In s.heap:=I.ok.mod.kin.keeps I.bk
theorem Inv.lt(I:Inv X pins σ H s):X.env.locals<s.heap.objs.size:=let ⟨_,hn,_⟩:=I.loc;hn.lt
theorem Inv.sz(I:Inv X pins σ H s):X.s₀.heap.objs.size<=s.heap.objs.size:=Nat.le_trans I.ok.above (Nat.le_of_lt I.lt)
theorem Inv.yj(I:Inv X pins σ H s){a:Addr}(h:s.heap.objs.size<=a):a∉X.fs:=fun hb=>by
 obtain⟨_,o,ho,_⟩:=I.ok.iS.mem hb;exact absurd (Nat.lt_of_lt_of_le (Heap.lt_size ho) (Nat.le_trans I.sz h)) (Nat.lt_irrefl _)
theorem Inv.cne(I:Inv X pins σ H s):∀x c,X.env.cells.lookup x=some c->c≠X.env.locals:=fun x c e z=>by
 obtain⟨v,o,ho,hd⟩:=I.cell x c e;obtain⟨m,⟨o',es,ep,ho',hd',_⟩,_⟩:=I.loc;rw[z,ho']at ho;cases ho;rw[hd']at hd;cases hd
theorem Inv.iS(I:Inv X pins σ H s):s.heap.FunFrames X.base X.outer:=by
 have all:∀(l:List Env),(∀b∈frs l,b∈X.fs)->X.s₀.heap.FunFrames X.base l->s.heap.FunFrames X.base l:=by
  intro l;induction l with
  |nil=>intro _ _;trivial
  |cons env r ih =>
   intro hs hl;obtain⟨hk,⟨L,o,hf,hn,ho,hd⟩,hr⟩:=hl;have hL:L∈X.fs:=hs L (by unfold frs;rw[List.filterMap_cons,hf];exact List.mem_cons_self);obtain⟨sl,e⟩:=I.base.slot L o ho (I.ok.frf L hL) hL fun z=>I.ok.exfs L z hL;exact⟨hk,⟨L,_,hf,hn,e,hd⟩,ih (fun b hb=>hs b (by unfold frs;rw[List.filterMap_cons,hf];exact List.mem_cons_of_mem _ hb)) hr⟩
 exact all X.outer (fun _ hb=>hb) I.ok.iS
theorem Inv.stack(I:Inv X pins σ H s):s.heap.FunFrames X.base X.stack:=by
 rcases I.ok.stk with e|⟨e,hf⟩
 ·rw[e];exact I.iS
 ·rw[e];obtain⟨m,hn,_⟩:=I.loc;refine .cons (by rw[I.ok.kind];decide) hf hn ?_ I.iS;exact Heap.get?_none_of_le (Nat.le_trans I.ok.bsz I.ok.above)
theorem Inv.iT(I:Inv X pins σ H s):∀b∈frs X.stack,b∈X.env.locals::X.fs:=fun b hb=>by
 rcases I.ok.stk with e|⟨e,hf⟩
 ·rw[e]at hb;exact List.mem_cons_of_mem _ hb
 ·rw[e]at hb;unfold frs at hb;rw[List.filterMap_cons,hf]at hb;exact hb
theorem Inv.p7(I:Inv X pins σ H s):∀b∈frs X.stack,H b=none:=fun b hb=>by
 rcases List.mem_cons.mp (I.iT b hb) with e|hb
 ·rw[e];exact I.free
 ·obtain⟨_,o,ho,_⟩:=I.ok.iS.mem hb;exact I.base.free b o ho (I.ok.frf b hb) fun z=>I.ok.exfs b z hb
theorem Inv.step{g':Array GenState}{t':Nat}{d':Drawn}{ch:List Addr}(I:Inv X pins σ H s)
  (hch:∀b∈ch,(b∈X.ex\/X.s₀.heap.objs.size<=b)/\b≠X.env.locals/\(∀x c,X.env.cells.lookup x=some c->c≠b)/\∀p∈X.pn++pins,p.1≠b)
  (keep:∀b o,b≠X.env.locals->b∉X.fs->b∉ch->s.heap.get? b=some o->H b=none->h'.get? b=some o)
  (slot:∀b o,b≠X.env.locals->b∈X.fs->b∉ch->s.heap.get? b=some o->H b=none->∃sl,h'.get? b=some {o with slots:=sl}) (free:∀b o,b∉ch->s.heap.get? b=some o->H b=none->H' b=none)
  (there:∀b o,b∉ch->s.heap.get? b=some o->∃o',h'.get? b=some o')
  (iC:∀b xs,H b=some (.tup xs)->H' b=some (.tup xs)) (frzs:∀b o u,H b=some (.frz o u)->H' b=some (.frz o u)) (tbls:∀b ps,H b=some (.tbl ps)->∃more,H' b=some (.tbl (ps++more)))
  (ns:∀m,s.heap.Ns X.env.locals m->h'.Ns X.env.locals m) (hok:HOk X.prog X.w H' h') (hg:AllBare g') :
  Inv X pins σ H' {s with heap:=h',gens:=g',drawn:=d',toks:=t' }:=by
 have neL:∀b o,X.s₀.heap.get? b=some o->b≠X.env.locals:=fun b o e=>Nat.ne_of_lt (Nat.lt_of_lt_of_le (Heap.lt_size e) I.ok.above);have neC:∀b o,X.s₀.heap.get? b=some o->b∉X.ex->b∉ch:=fun b o e hx hb=>by
  rcases(hch b hb).1 with z|z
  ·exact hx z
  ·exact absurd (Nat.lt_of_lt_of_le (Heap.lt_size e) z) (Nat.lt_irrefl _)
 have cellK:∀x c,X.env.cells.lookup x=some c->∀v,s.heap.IsCell c v->h'.IsCell c v:=fun x c e v hIx=>by
  obtain⟨o,ho,hd⟩:=hIx;have nch:c∉ch:=fun z=>(hch c z).2.2.1 x c e rfl;by_cases hc:c∈X.fs
  ·obtain⟨sl,q⟩:=slot c o (I.cne x c e) hc nch ho (I.freeC x c e);exact⟨_,q,hd⟩
  ·exact⟨o,keep c o (I.cne x c e) hc nch ho (I.freeC x c e),hd⟩
 refine⟨I.ok,I.os,hg,⟨fun b o e n hb hx=>?_,fun b o e n hb hx=>?_,fun b o e n hx=>?_,fun b o e hx=>?_,fun b xs e=>iC b xs (I.base.iC b xs e),fun b o xs e=>frzs b o xs (I.base.frzs b o xs e),fun b ps e=>?_⟩,?_,fun x c e=>?_,?_,fun x c e=>?_,fun p hp=>?_,hok,I.len⟩
 ·exact keep b o (neL b o e) hb (neC b o e hx) (I.base.keep b o e n hb hx) (I.base.free b o e n hx)
 ·obtain⟨sl,e1⟩:=I.base.slot b o e n hb hx;obtain⟨sl',e2⟩:=slot b _ (neL b o e) hb (neC b o e hx) e1 (I.base.free b o e n hx);exact⟨sl',e2⟩
 ·obtain⟨o',e1⟩:=I.base.there b o e hx;exact free b o' (neC b o e hx) e1 (I.base.free b o e n hx)
 ·obtain⟨o',e1⟩:=I.base.there b o e hx;exact there b o' (neC b o e hx) e1
 ·obtain⟨m1,e1⟩:=I.base.tbls b ps e;obtain⟨m2,e2⟩:=tbls b _ e1;exact⟨m1++m2,by rw[e2,Array.append_assoc]⟩
 ·obtain⟨m,hn,hl⟩:=I.loc;refine⟨m,ns m hn,fun i x v e1 e2 e3=>?_⟩;obtain⟨u,r,l⟩:=hl i x v e1 e2 e3;refine⟨u,r,?_⟩;rcases l with l|⟨k,c,e,z⟩
  ·exact .inl l
  ·exact .inr ⟨k,c,e,cellK x c e _ z⟩
 ·obtain⟨v,z⟩:=I.cell x c e;exact⟨v,cellK x c e v z⟩
 ·obtain⟨m,⟨o,_,_,ho,_⟩,_⟩:=I.loc;exact free _ o (fun z=>(hch _ z).2.1 rfl) ho I.free
 ·obtain⟨v,o,ho,hd⟩:=I.cell x c e;exact free c o (fun z=>(hch c z).2.2.1 x c e rfl) ho (I.freeC x c e)
 ·obtain⟨e,n,ne,nf,d⟩:=I.pin p hp;have nch:p.1∉ch:=fun z=>(hch p.1 z).2.2.2 p hp rfl;exact⟨keep p.1 p.2 ne nf nch e n,free p.1 p.2 nch e n,ne,nf,d⟩
theorem Inv.un{t':Nat}(I:Inv X pins σ H s)(u:Un X.fs [] H H' s.heap h')(hok:HOk X.prog X.w H' h'):Inv X pins σ H' {s with heap:=h',toks:=t' }:=by
 obtain⟨m,⟨o,es,ep,ho,r⟩,_⟩:=id I.loc;obtain⟨sl,hL⟩:=u.any ho I.free (by simp);exact I.step (g':=s.gens) (d':=s.drawn) (ch:=[]) (fun _ z=>nomatch z) (fun b o _ hb _ e n=>u.keep b o e n hb (by simp)) (fun b o _ hb _ e n=>u.slot b o e n hb (by simp)) (fun b o _ e n=>u.free b o e n (by simp)) (fun b o _ e=>u.there b o e (by simp)) u.iC u.frzs u.tbls (fun m' hm=>by
  obtain⟨o',es',ep',ho',r'⟩:=hm;rw[ho]at ho';cases ho';exact⟨_,es',ep',hL,r'⟩) hok I.bare
theorem Inv.call{g':Array GenState}{t':Nat}{d':Drawn}{ch:List Addr}(I:Inv X pins σ H s)(u:Un (frs X.stack) ch H H' s.heap h')(hok:HOk X.prog X.w H' h')(hg:AllBare g')
  (hch:∀b∈ch,(b∈X.ex\/X.s₀.heap.objs.size<=b)/\b≠X.env.locals/\(∀x c,X.env.cells.lookup x=some c->c≠b)/\∀p∈X.pn++pins,p.1≠b) :
  Inv X pins σ H' {s with heap:=h',gens:=g',drawn:=d',toks:=t' }:=by
 obtain⟨m,⟨o,es,ep,ho,r⟩,_⟩:=id I.loc;obtain⟨sl,hL⟩:=u.any ho I.free fun z=>(hch _ z).2.1 rfl;exact I.step (ch:=ch) hch (fun b o hL hb hc e n=>u.keep b o e n (fun z=>(List.mem_cons.mp (I.iT b z)).elim hL hb) hc) (fun b o _ _ hc e n=>u.any e n hc) (fun b o hc e n=>u.free b o e n hc) (fun b o hc e=>u.there b o e hc) u.iC u.frzs u.tbls (fun m' hm=>by
  obtain⟨o',es',ep',ho',r'⟩:=hm;rw[ho]at ho';cases ho';exact⟨_,es',ep',hL,r'⟩) hok hg
theorem Inv.turned{t':Nat}{it:Addr}(I:Inv X pins σ H s)(k:∀b o,b≠it->s.heap.get? b=some o->h'.get? b=some o)(hn:H it=none)(hL:it≠X.env.locals)
  (h1:it∈X.ex\/X.s₀.heap.objs.size<=it) (h2:∀x c,X.env.cells.lookup x=some c->c≠it) (h3:∀p∈X.pn++pins,p.1≠it):Inv X pins σ H {s with heap:=h',toks:=t' }:=by
 have nit:∀b u,H b=some u->b≠it:=fun b u e z=>by rw[z,hn]at e;cases e
 refine I.step (g':=s.gens) (d':=s.drawn) (ch:=[it]) (fun b hb=>?_) (fun b o _ _ hc e _=>k b o (fun z=>hc (by simp[z])) e) (fun b o _ _ hc e _=>⟨o.slots,k b o (fun z=>hc (by simp[z])) e⟩) (fun _ _ _ _ n=>n)
  (fun b o hc e=>⟨o,k b o (fun z=>hc (by simp[z])) e⟩) (fun _ _ e=>e) (fun _ _ _ e=>e) (fun b ps e=>⟨#[],by rw[e];simp⟩) (fun m hm=>?_) (fun b u e=>?_) I.bare
 ·have e:b=it:=by simpa using hb
  subst e;exact⟨h1,hL,h2,h3⟩
 ·obtain⟨o,es,ep,ho,r⟩:=hm;exact⟨o,es,ep,k _ o (Ne.symm hL) ho,r⟩
 ·refine(I.hok b u e).gM (fun c v hc q=>k c v ?_ q) (fun _ q=>q) fun _ _ q=>q;rcases hc with z|z
  ·rw[z];exact nit b u e
  ·exact nit c _ z
theorem Inv.tok(I:Inv X pins σ H s)(t:Nat):Inv X pins σ H {s with toks:=t}:=I.un (h':=s.heap) (t':=t) Un.refl I.hok
theorem Inv.kept{t':Nat}(I:Inv X pins σ H s)(k:∀b u,s.heap.get? b=some u->h'.get? b=some u):Inv X pins σ H {s with heap:=h',toks:=t' }:=I.un (Un.kept k) (I.hok.kept k)
theorem Inv.laid{a:Addr}{o:HO}{t':Nat}(I:Inv X pins σ H s)(k:∀b u,s.heap.get? b=some u->h'.get? b=some u)(hp:s.heap.objs.size<=a)(new:bI X.prog X.w (upd H a o) h' a o):
  Inv X pins σ (upd H a o) {s with heap:=h',toks:=t' }:=I.un (Un.laid k hp (I.hok.fresh hp)) (I.hok.laid k hp new)
theorem Inv.write{x e:Addr}{o:HO}{t':Nat}(I:Inv X pins σ H s)(mu:Mut (H x))(he:e=x\/H e=some (.own x))(k:∀b u,b≠e->s.heap.get? b=some u->h'.get? b=some u)(heo:∃u,h'.get? e=some u)
  (new:bI X.prog X.w (upd H x o) h' x o):Inv X pins σ (upd H x o) {s with heap:=h',toks:=t' }:=I.un (Un.write mu he k heo) (I.hok.write mu he k heo new)
theorem Inv.weak{σ':List (Option V)}(I:Inv X pins σ H s)(hl:σ'.length=σ.length)(w:∀(i:Nat) v,σ'[i]?=some (some v)->σ[i]?=some (some v)):Inv X pins σ' H s :=
 ⟨I.ok,I.os,I.bare,I.base,let ⟨m,hn,hl'⟩:=I.loc;⟨m,hn,fun i x v e1 e2 e3=>hl' i x v e1 (w i v e2) e3⟩,I.cell,I.free,I.freeC,I.pin,I.hok,hl.trans I.len⟩
theorem Inv.cY{pins':List (Addr×Obj)}(I:Inv X pins σ H s)(h:∀p∈pins',s.heap.get? p.1=some p.2/\H p.1=none/\p.1≠X.env.locals/\p.1∉X.fs/\∀v,p.2.data≠.cell v):Inv X pins' σ H s :=
 ⟨I.ok,I.os,I.bare,I.base,I.loc,I.cell,I.free,I.freeC,fun p hp=>(List.mem_append.mp hp).elim (fun z=>I.pin p (List.mem_append_left _ z)) (h p),I.hok,I.len⟩
theorem iU{N:List Str}(hN:N.Nodup){i j:Nat}{x:Str}(a:N[i]?=some x)(b:N[j]?=some x):i=j:=by
 obtain⟨h1,e1⟩:=List.getElem?_eq_some_iff.mp a;obtain⟨h2,e2⟩:=List.getElem?_eq_some_iff.mp b;exact(List.getElem_inj hN).mp (e1.trans e2.symm)
theorem kq{M:Model}{A:Around}{E:Value->Shared->Prop}{i:Nat}{x:Str}{v:V}{u:Value}{Q:Unit->Shared->Prop}(I:Inv X pins σ H s)(hN:X.N.Nodup)(hi:X.N[i]?=some x)(hx:Loc X.env.scope x)(r:RelV v u)
  (h:∀s',Inv X pins (σ.set i (some v)) H s'->(∃a,Heap.SameBut a s.heap s'.heap/\(a=X.env.locals\/X.env.cells.lookup x=some a))->Q () s') (hf:X.fn x=true\/X.env.scope.names.lookup x=some .local:=by first|exact .inl rfl|exact .inr rfl|assumption):wpAny M A (storeName X.env x u) Q E s:=by
 obtain⟨m,hn,hl⟩:=id I.loc;have hcls:(X.env.scope.kind==.class||(X.env.scope.kind==.module&&X.env.locals != X.env.globals))=false:=by rw[I.ok.kind];rfl
 have hiσ:i < σ.length:=by rw[I.len];exact(List.getElem?_eq_some_iff.mp hi).1
 have cne:=I.cne;have tracked:∀{a:Addr} {h':Heap},(∃o,s.heap.get? a=some o/\H a=none)->Heap.SameBut a s.heap h'->HOk X.prog X.w H h':=fun {a h'} ha hs b ob e=>by
  obtain⟨_,_,hfree⟩:=ha;refine(I.hok b ob e).gM (fun c w' hc q=>(hs.2 c ?_).trans q) (fun _ q=>q) fun _ _ q=>q;rintro rfl;rcases hc with rfl|hc
  ·rw[hfree]at e;cases e
  ·rw[hfree]at hc;cases hc
 rcases hx with hk|hk
 ·refine wpAny_storeName_local hk hn (fun h' hn' hs=>?_) hcls;obtain⟨oL,_,_,hoL,_⟩:=id hn;refine h _ ⟨I.ok,I.os,I.bare,⟨fun b o e n hb hx=>?_,fun b o e n hb hx=>?_,I.base.free,fun b o e hx=>?_,I.base.iC,I.base.frzs,I.base.tbls⟩,⟨_,hn',fun j y v' e1 e2 e3=>?_⟩,fun y c e=>?_,I.free,I.freeC,fun p hp=>?_,tracked ⟨oL,hoL,I.free⟩ hs,by simpa using I.len⟩ ⟨_,hs,.inl rfl⟩
  ·exact(hs.2 b (Nat.ne_of_lt (Nat.lt_of_lt_of_le (Heap.lt_size e) I.ok.above))).trans (I.base.keep b o e n hb hx)
  ·obtain⟨sl,e1⟩:=I.base.slot b o e n hb hx;exact⟨sl,(hs.2 b (Nat.ne_of_lt (Nat.lt_of_lt_of_le (Heap.lt_size e) I.ok.above))).trans e1⟩
  ·obtain⟨o',e1⟩:=I.base.there b o e hx;exact⟨o',(hs.2 b (Nat.ne_of_lt (Nat.lt_of_lt_of_le (Heap.lt_size e) I.ok.above))).trans e1⟩
  ·by_cases hj:j=i
   ·subst hj;rw[hi]at e1;cases e1;rw[List.getElem?_set_self hiσ]at e2;cases e2;exact⟨u,r,.inl ⟨hk,by simp⟩⟩
   ·rw[List.getElem?_set_ne (Ne.symm hj)]at e2;obtain⟨u',r',q⟩:=hl j y v' e1 e2 e3;refine⟨u',r',?_⟩;rcases q with⟨k,e⟩|⟨k,c,e,z⟩
    ·refine .inl ⟨k,?_⟩;have:y≠x:=fun e=>hj (iU hN e1 (e▸hi));simp[this,e]
    ·exact .inr ⟨k,c,e,z.sameBut hs (cne y c e)⟩
  ·obtain⟨w',z⟩:=I.cell y c e;exact⟨w',z.sameBut hs (cne y c e)⟩
  ·obtain⟨e,n,ne,nf,d⟩:=I.pin p hp;exact⟨(hs.2 p.1 ne).trans e,n,ne,nf,d⟩
 ·have hfn:X.fn x=true:=by
   rcases hf with z|z
   ·exact z
   ·rw[z]at hk;cases hk
  obtain⟨c,hc⟩:=I.ok.has x (.inl hk);obtain⟨w',z⟩:=I.cell x c hc;refine wpAny_storeName_cell I.ok.kind hk hc z (fun h' hc' hs=>?_);obtain⟨oc,hoc,hocd⟩:=id z;refine h {s with heap:=h' } ⟨I.ok,I.os,I.bare,⟨fun b o e n hb hx=>?_,fun b o e n hb hx=>?_,I.base.free,fun b o e hx=>?_,I.base.iC,I.base.frzs,I.base.tbls⟩,⟨m,hn.sameBut hs (Ne.symm (cne x c hc)),fun j y v' e1 e2 e3=>?_⟩,fun y c' e=>?_,I.free,I.freeC,fun p hp=>?_,tracked ⟨oc,hoc,I.freeC x c hc⟩ hs,by simpa using I.len⟩ ⟨c,hs,.inr hc⟩
  ·exact(hs.2 b (Nat.ne_of_lt (Nat.lt_of_lt_of_le (Heap.lt_size e) (I.ok.cab x c hfn hc)))).trans (I.base.keep b o e n hb hx)
  ·obtain⟨sl,e1⟩:=I.base.slot b o e n hb hx;exact⟨sl,(hs.2 b (Nat.ne_of_lt (Nat.lt_of_lt_of_le (Heap.lt_size e) (I.ok.cab x c hfn hc)))).trans e1⟩
  ·obtain⟨o',e1⟩:=I.base.there b o e hx;exact⟨o',(hs.2 b (Nat.ne_of_lt (Nat.lt_of_lt_of_le (Heap.lt_size e) (I.ok.cab x c hfn hc)))).trans e1⟩
  ·by_cases hj:j=i
   ·subst hj;rw[hi]at e1;cases e1;rw[List.getElem?_set_self hiσ]at e2;cases e2;exact⟨u,r,.inr ⟨.inl hk,c,hc,hc'⟩⟩
   ·rw[List.getElem?_set_ne (Ne.symm hj)]at e2;obtain⟨u',r',q⟩:=hl j y v' e1 e2 e3;refine⟨u',r',?_⟩;rcases q with q|⟨k,c',e,z'⟩
    ·exact .inl q
    ·refine .inr ⟨k,c',e,z'.sameBut hs ?_⟩;rintro rfl;exact hj (iU hN e1 (I.ok.inj _ _ _ e hc▸hi))
  ·by_cases hcc:c'=c
   ·subst hcc;exact⟨_,hc'⟩
   ·obtain⟨w2,z2⟩:=I.cell y c' e;exact⟨w2,z2.sameBut hs hcc⟩
  ·obtain⟨e,n,ne,nf,d⟩:=I.pin p hp;refine⟨(hs.2 p.1 ?_).trans e,n,ne,nf,d⟩;intro q;rw[q,hoc]at e;have q':oc=p.2:=Option.some.inj e;exact d w' (by rw[<-q'];exact hocd)
theorem mS{M:Model}{A:Around}{E:Value->Shared->Prop}{i:Nat}{x:Str}{v:V}{u:Value}{Q:Unit->Shared->Prop}(I:Inv X pins σ H s)(hN:X.N.Nodup)(hi:X.N[i]?=some x)(hx:Loc X.env.scope x)(r:RelV v u)
  (h:∀s',Inv X pins (σ.set i (some v)) H s'->Q () s') (hf:X.fn x=true\/X.env.scope.names.lookup x=some .local:=by first|exact .inl rfl|exact .inr rfl|assumption):wpAny M A (storeName X.env x u) Q E s :=
 kq I hN hi hx r (fun s' I' _=>h s' I') hf
theorem Inv.Ad{s':Shared}{ch:List Addr}(I:Inv X pins σ H s)(ho:s'.os=s.os)(u:Un (frs X.stack) ch H H' s.heap s'.heap)(hok:HOk X.prog X.w H' s'.heap)(hg:AllBare s'.gens)
  (hch:∀b∈ch,(b∈X.ex\/X.s₀.heap.objs.size<=b)/\b≠X.env.locals/\(∀x c,X.env.cells.lookup x=some c->c≠b)/\∀p∈X.pn++pins,p.1≠b):Inv X pins σ H' s':=by
 obtain⟨h',g',d',t',o'⟩:=s';have e:o'=s.os:=ho;subst e;exact I.call (g':=g') (t':=t') (d':=d') u hok hg hch
end
noncomputable abbrev XK:=Value->Option Addr->Hp->Prop
noncomputable abbrev St:=List (Option V)
noncomputable abbrev VK:=V->Hp->Prop
noncomputable abbrev TE:=St->Hp->VK->Prop
noncomputable abbrev TT:=St->Hp->(Bool->Hp->Prop)->Prop
noncomputable abbrev TA:=St->Hp->(List V->Hp->Prop)->Prop
structure Ends where
 nx:St->Hp->Prop
 rt:VK
 bk:St->Hp->Prop:=fun _ _=>False
 ct:St->Hp->Prop:=fun _ _=>False
noncomputable abbrev TS:=Ends->St->Hp->Prop
noncomputable def EP(X:Cx)(pins:List (Addr×Obj))(σ:St)(Q:VK)(u:Value)(s':Shared):Prop:=∃v H',Inv X pins σ H' s'/\RelV v u/\Q v H'
noncomputable def TP(X:Cx)(pins:List (Addr×Obj))(σ:St)(Q:Bool->Hp->Prop)(b:Bool)(s':Shared):Prop:=∃H',Inv X pins σ H' s'/\Q b H'
noncomputable def AP(X:Cx)(pins:List (Addr×Obj))(σ:St)(Q:List V->Hp->Prop)(us:List Value)(s':Shared):Prop:=∃vs H',Inv X pins σ H' s'/\Vals vs us/\Q vs H'
noncomputable def SP(X:Cx)(pins:List (Addr×Obj))(D:Ends)(f:Flow)(s':Shared):Prop :=
 match f with
 |.next=>∃σ' H',Inv X pins σ' H' s'/\D.nx σ' H'
 |.brk=>∃σ' H',Inv X pins σ' H' s'/\D.bk σ' H'
 |.cont=>∃σ' H',Inv X pins σ' H' s'/\D.ct σ' H'
 |.ret u=>∃v σ' H',Inv X pins σ' H' s'/\RelV v u/\D.rt v H'
noncomputable def PE(X:Cx)(e:Expr)(t:TE):Prop :=
 ∀(pins:List (Addr×Obj)) (s:Shared) (σ:St) (H:Hp) (Q:VK),Inv X pins σ H s->t σ H Q->wpAny (model X.prog X.w) X.A (eval e X.env) (EP X pins σ Q) X.xe s
noncomputable def PT(X:Cx)(e:Expr)(t:TT):Prop :=
 ∀(pins:List (Addr×Obj)) (s:Shared) (σ:St) (H:Hp) (Q:Bool->Hp->Prop),Inv X pins σ H s->t σ H Q->wpAny (model X.prog X.w) X.A (isTrue e X.env (eval e X.env)) (TP X pins σ Q) X.xe s
noncomputable def PW(X:Cx)(e:Expr)(t:TT):Prop :=
 ∀(whole:Sem Value) (pins:List (Addr×Obj)) (s:Shared) (σ:St) (H:Hp) (Q:Bool->Hp->Prop),Inv X pins σ H s->t σ H Q->wpAny (model X.prog X.w) X.A (isTrue e X.env whole) (TP X pins σ Q) X.xe s
theorem PW.pt{X:Cx}{e:Expr}{t:TT}(h:PW X e t):PT X e t:=h _
noncomputable def PA(X:Cx)(es:List Expr)(t:TA):Prop :=
 ∀(pos:Pos) (pins:List (Addr×Obj)) (s:Shared) (σ:St) (H:Hp) (Q:List V->Hp->Prop),Inv X pins σ H s->t σ H Q->wpAny (model X.prog X.w) X.A (spliced (backTo pos (starEach es X.env))) (AP X pins σ Q) X.xe s
noncomputable def PS(X:Cx)(st:Stmt)(t:TS):Prop :=
 ∀(pins:List (Addr×Obj)) (s:Shared) (σ:St) (H:Hp) (D:Ends),Inv X pins σ H s->t D σ H->wpAny (model X.prog X.w) X.A (exec st X.env) (SP X pins D) X.xe s
noncomputable def PSs(X:Cx)(st:List Stmt)(t:TS):Prop :=
 ∀(pins:List (Addr×Obj)) (s:Shared) (σ:St) (H:Hp) (D:Ends),Inv X pins σ H s->t D σ H->wpAny (model X.prog X.w) X.A (execs st X.env) (SP X pins D) X.xe s
theorem thn{α:Type}{t:Sem α}{Q Q':α->Shared->Prop}{M:Model}{A:Around}{E:Value->Shared->Prop}{s:Shared}(h:wpAny M A t Q E s)(hQ:∀a s,Q a s->Q' a s):wpAny M A t Q' E s:=wpAny_mono h hQ fun _ _ x=>x
end L2
namespace L2
open PySem PySem.Spec PyProof.Rows
section
variable{X:Cx}
noncomputable def Bt(i:Nat):TE:=fun σ H Q=>∃v,σ[i]?=some (some v)/\Q v H
noncomputable def tC(v:V):TE:=fun _ H Q=>Q v H
theorem lz{i:Nat}{x:Str}{pos:Pos}(hN:X.N[i]?=some x)(hv:Vis X.env.scope x)(hd:(x==("__debug__":Str))=false:=by decide)(hcd:(x==("__classdict__":Str))=false:=by decide):PE X (.Name x pos) (Bt i):=by
 intro pins s σ H Q I h;obtain⟨v,e,h⟩:=h;obtain⟨m,hn,hl⟩:=I.loc;obtain⟨u,r,l⟩:=hl i x v hN e hv;have fin:EP X pins σ Q u s:=⟨v,H,I,r,h⟩
 rcases l with⟨hk,hm⟩|⟨hk,c,hc,hcell⟩
 ·exact wpAny_Name (wpAny_loadName_local I.ok.kind hk hn hm fin) hd
 ·rcases hk with hk|hk
  ·exact wpAny_Name (wpAny_loadName_cell I.ok.kind hk hc hcell fin) hd
  ·exact wpAny_Name (wpAny_loadName_free I.ok.kind hk hc hcell fin hcd) hd
theorem sH{i j pos}:PE X (.Constant (.int i) j pos) (tC (.int i)):=fun _ _ _ H _ I h=>wpAny_Constant_int ⟨.int i,H,I.tok _,⟨_,rfl⟩,h⟩
theorem xK{b j pos}:PE X (.Constant (.bool b) j pos) (tC (.bl b)):=fun _ _ _ H _ I h=>Constant_bool ⟨.bl b,H,I,rfl,h⟩
theorem sI{j pos}:PE X (.Constant .none j pos) (tC .non):=fun _ _ _ H _ I h=>Constant_none ⟨.non,H,I,rfl,h⟩
theorem sJ{x j pos}:PE X (.Constant (.str x) j pos) (tC (.str x)):=fun _ _ _ H _ I h=>Calls.Constant_str ⟨.str x,H,I.tok _,⟨_,rfl⟩,h⟩
noncomputable def Gl(X:Cx)(x:Str):Prop:=X.env.kindOf x=some .globalImplicit
theorem p8{E:Value->Shared->Prop}{pins:List (Addr×Obj)}{s:Shared}{σ:St}{H:Hp}{x:Str}{u:Value}{pos:Pos}{Q:Value->Shared->Prop}(I:Inv X pins σ H s)(hg:Gl X x)(hm:X.mg x=some u)(h:Q u s)
  (hd:(x==("__debug__":Str))=false:=by decide):wpAny (model X.prog X.w) X.A (eval (.Name x pos) X.env) Q E s :=
 Calls.Name_function_global I.ok.kind hg (Calls.loadGlobal_global (by rw[I.ok.glob];exact I.mod.glob.keeps I.bk) hm h) hd
theorem dg{E:Value->Shared->Prop}{pins:List (Addr×Obj)}{s:Shared}{σ:St}{H:Hp}{x:Str}{u:Value}{pos:Pos}{Q:Value->Shared->Prop}(I:Inv X pins σ H s)(hg:Gl X x)(hm:X.mg x=none)(hv:bootBuiltins x=some u)(h:Q u s)
  (hn:x≠"__name__":=by decide) (hd:(x==("__debug__":Str))=false:=by decide):wpAny (model X.prog X.w) X.A (eval (.Name x pos) X.env) Q E s:=by
 obtain⟨mb,h1,h2⟩:=I.mod.blt;exact Calls.Name_function_global I.ok.kind hg (Calls.loadGlobal_builtin (by rw[I.ok.glob];exact I.mod.glob.keeps I.bk) hm (by rw[I.ok.blt];exact h1.keeps I.bk) ((h2 x hn).trans hv) h) hd
variable{a b:Expr}{ta tb:TE}{pos:Pos}
variable{tA tB':TT}{rest:List Expr}
noncomputable def Bu(t u:TT):TT:=fun σ H Q=>t σ H fun c H1=>if c=true then u σ H1 Q else Q false H1
noncomputable def tOr(t u:TT):TT:=fun σ H Q=>t σ H fun c H1=>if c=true then Q true H1 else u σ H1 Q
noncomputable def Bv(t:TT):TT:=fun σ H Q=>t σ H fun c H1=>Q (!c) H1
theorem vR(ha:PT X a tA):PW X (.BoolOp .And [a] pos) tA:=by
 intro wh pins s σ H Q I h;refine isTrue_and (thn (ha pins s σ H Q I h) fun c s1 e=>?_);cases c with
 |true=>exact isTrue_and_nil e
 |false=>exact e
theorem yk(ha:PT X a tA):PW X (.BoolOp .Or [a] pos) tA:=by
 intro wh pins s σ H Q I h;refine isTrue_or (thn (ha pins s σ H Q I h) fun c s1 e=>?_);cases c with
 |false=>exact isTrue_or_nil e
 |true=>exact e
theorem yl(ha:PT X a tA)(hb:PW X (.BoolOp .And (b::rest) pos) tB'):PW X (.BoolOp .And (a::b::rest) pos) (Bu tA tB'):=by
 intro wh pins s σ H Q I h;refine isTrue_and (thn (ha pins s σ H _ I h) fun c s1 ⟨H1,I1,q1⟩=>?_);cases c with
 |true=>exact hb wh pins s1 σ H1 Q I1 q1
 |false=>exact⟨H1,I1,q1⟩
theorem Ae(ha:PT X a tA)(hb:PW X (.BoolOp .Or (b::rest) pos) tB'):PW X (.BoolOp .Or (a::b::rest) pos) (tOr tA tB'):=by
 intro wh pins s σ H Q I h;refine isTrue_or (thn (ha pins s σ H _ I h) fun c s1 ⟨H1,I1,q1⟩=>?_);cases c with
 |true=>exact⟨H1,I1,q1⟩
 |false=>exact hb wh pins s1 σ H1 Q I1 q1
theorem ym(ha:PT X a tA):PT X (.UnaryOp .Not a pos) (Bv tA):=by
 intro pins s σ H Q I h;exact isTrue_not (ha pins s σ H (fun c H1=>Q (!c) H1) I h)
noncomputable def Af(ta tb:TE):TE:=fun σ H Q=>ta σ H fun x H1=>∃c,x=.bl c/\if c=true then tb σ H1 Q else Q (.bl false) H1
noncomputable def Bw(ta tb:TE):TE:=fun σ H Q=>ta σ H fun x H1=>∃c,x=.bl c/\if c=true then Q (.bl true) H1 else tb σ H1 Q
noncomputable def Ag(ta:TE):TE:=fun σ H Q=>ta σ H fun x H1=>∃c,x=.bl c/\Q (.bl (!c)) H1
theorem sL{op}{t:TE}(h:PE X a t):PE X (.BoolOp op [a] pos) t:=fun pins s σ H Q I hw=>BoolOp_one (h pins s σ H Q I hw)
theorem yn(ha:PE X a ta)(hb:PE X (.BoolOp .And (b::rest) pos) tb):PE X (.BoolOp .And (a::b::rest) pos) (Af ta tb):=by
 intro pins s σ H Q I h;refine BoolOp_and (thn (ha pins s σ H _ I h) fun v s1 ⟨x,H1,I1,r1,q1⟩=>?_);obtain⟨c,rfl,q1⟩:=q1;cases r1;refine wpAny_truthy_bool ?_;cases c with
 |true=>exact hb pins s1 σ H1 Q I1 q1
 |false=>exact⟨.bl false,H1,I1,rfl,q1⟩
theorem Ah(ha:PE X a ta)(hb:PE X (.BoolOp .Or (b::rest) pos) tb):PE X (.BoolOp .Or (a::b::rest) pos) (Bw ta tb):=by
 intro pins s σ H Q I h;refine BoolOp_or (thn (ha pins s σ H _ I h) fun v s1 ⟨x,H1,I1,r1,q1⟩=>?_);obtain⟨c,rfl,q1⟩:=q1;cases r1;refine wpAny_truthy_bool ?_;cases c with
 |false=>exact hb pins s1 σ H1 Q I1 q1
 |true=>exact⟨.bl true,H1,I1,rfl,q1⟩
theorem yo(ha:PE X a ta):PE X (.UnaryOp .Not a pos) (Ag ta):=by
 intro pins s σ H Q I h;refine UnaryOp_ (thn (ha pins s σ H _ I h) fun v s1 ⟨x,H1,I1,r1,q1⟩=>?_);obtain⟨c,rfl,q1⟩:=q1;cases r1;exact not_of (wpAny_truthy_bool ⟨.bl (!c),H1,I1,rfl,q1⟩)
end
end L2
namespace L2
open PySem PySem.Spec PyProof.Rows
noncomputable def SqL(K:PySem.W.Frag)(H:Hp)(a:Addr)(xs:List V):Prop :=
 Rd H a (.lst xs) \/
  ∃(o:Obj) (its:Array Value) (n:Nat),K.lookup a=some o/\o.cls=.type "list"/\o.dict=none/\o.data=.seq its n/\its.size<=sizeLine/\Vals xs its.toList
noncomputable def SqT(K:PySem.W.Frag)(H:Hp)(a:Addr)(xs:List V):Prop :=
 Rd H a (.tup xs) \/
  ∃(o:Obj) (its:Array Value) (n:Nat),K.lookup a=some o/\o.cls=.type "tuple"/\o.data=.seq its n/\its.size<=sizeLine/\Vals xs its.toList
noncomputable def Bx:Value->Option V
 |.none=>some .non
 |.bool b=>some (.bl b)
 |.int i _=>some (.int i)
 |.str x _=>some (.str x)
 |.bytes b _=>some (.byt b)
 |.float b _=>some (.flt b)
 |.ref a=>some (.ref a)
 |.type n=>some (.ty n)
 |_=>none
theorem RelV.abs{x:V}{u:Value}(r:RelV x u):Bx u=some x:=by
 cases x with
 |non=>cases r;rfl
 |bl _=>cases r;rfl
 |int _=>obtain⟨t,rfl⟩:=r;rfl
 |str _=>obtain⟨t,rfl⟩:=r;rfl
 |byt _=>obtain⟨t,rfl⟩:=r;rfl
 |flt _=>obtain⟨t,rfl⟩:=r;rfl
 |ref _=>cases r;rfl
 |ty _=>cases r;rfl
theorem RelV.inj{x y:V}{u:Value}(r:RelV x u)(q:RelV y u):x=y:=Option.some.inj (r.abs.symm.trans q.abs)
theorem Vals.inj:∀{xs ys:List V}{us:List Value},Vals xs us->Vals ys us->xs=ys
 |_,_,_,.nil,.nil=>rfl
 |_,_,_,.cons r t,.cons r' t'=>by rw[r.inj r',Vals.inj t t']
section
variable{X:Cx}{pins:List (Addr×Obj)}{σ:St}{H:Hp}{s:Shared}{a:Addr}{xs ys:List V}
theorem SqL.of{K:PySem.W.Frag}(h:H a=some (.lst xs)):SqL K H a xs:=.inl (.inl h)
theorem SqT.of{K:PySem.W.Frag}(h:H a=some (.tup xs)):SqT K H a xs:=.inl (.inl h)
theorem Inv.list(I:Inv X pins σ H s)(h:SqL X.K H a xs):∃its:List Value,Vals xs its/\PlainL s.heap a its.toArray/\xs.length<=sizeLine:=by
 rcases h with h|⟨o,its,n,hk,hc,hd,hs,hz,r⟩
 ·obtain⟨z,its,n,r,e⟩:=h.ok I.hok;exact⟨its,r,⟨_,n,e,rfl,rfl,rfl⟩,z⟩
 ·refine⟨its.toList,r,⟨o,n,I.kIn a o hk,hc,hd,by simpa using hs⟩,?_⟩;have e:=r.length;simp only[Array.length_toList]at e;omega
theorem Inv.tuple(I:Inv X pins σ H s)(h:SqT X.K H a xs):∃its:List Value,Vals xs its/\IsTup s.heap a its.toArray/\xs.length<=sizeLine:=by
 rcases h with h|⟨o,its,n,hk,hc,hs,hz,r⟩
 ·obtain⟨z,its,r,p⟩:=h.ok I.hok;exact⟨its,r,p,z⟩
 ·refine⟨its.toList,r,⟨o,I.kIn a o hk,hc,n,by simpa using hs⟩,?_⟩;have e:=r.length;simp only[Array.length_toList]at e;omega
theorem Inv.fZ(I:Inv X pins σ H s)(h:SqL X.K H a xs)(h':SqL X.K H a ys):xs=ys:=by
 obtain⟨its,r,⟨o,n,e,_,_,d⟩,_⟩:=I.list h;obtain⟨its',r',⟨o',n',e',_,_,d'⟩,_⟩:=I.list h';rw[e]at e';cases e';rw[d]at d';injection d' with d1 _
 have:its=its':=by simpa using congrArg Array.toList d1
 subst this;exact r.inj r'
theorem Inv.dn(I:Inv X pins σ H s)(h:SqT X.K H a xs)(h':SqT X.K H a ys):xs=ys:=by
 obtain⟨its,r,⟨o,e,_,n,d⟩,_⟩:=I.tuple h;obtain⟨its',r',⟨o',e',_,n',d'⟩,_⟩:=I.tuple h';rw[e]at e';cases e';rw[d]at d';injection d' with d1 _
 have:its=its':=by simpa using congrArg Array.toList d1
 subst this;exact r.inj r'
end
noncomputable abbrev Cx.j8(X:Cx)(E:Value->Shared->Prop):Cx:={X with xe:=E}
noncomputable abbrev Cx.nox(X:Cx):Cx:=X.j8 fun _ _=>False
theorem Cx.Ok.j8{X:Cx}(ok:X.Ok)(E:Value->Shared->Prop):(X.j8 E).Ok :=
 ⟨ok.mod,ok.kind,ok.glob,ok.blt,ok.above,ok.inj,ok.has,ok.cab,ok.hd,ok.frames,ok.stk,ok.exf,ok.bs,ok.bsz,ok.noex,ok.exfs,ok.iS,ok.frf⟩
theorem Cx.Ok.d_{X:Cx}{E:Value->Shared->Prop}(ok:(X.j8 E).Ok):X.Ok :=
 ⟨ok.mod,ok.kind,ok.glob,ok.blt,ok.above,ok.inj,ok.has,ok.cab,ok.hd,ok.frames,ok.stk,ok.exf,ok.bs,ok.bsz,ok.noex,ok.exfs,ok.iS,ok.frf⟩
section
variable{X:Cx}{pins:List (Addr×Obj)}{σ:St}{H:Hp}{s:Shared}{E:Value->Shared->Prop}
theorem Inv.j8(I:Inv X pins σ H s)(E:Value->Shared->Prop):Inv (X.j8 E) pins σ H s:=⟨I.ok.j8 E,I.os,I.bare,I.base,I.loc,I.cell,I.free,I.freeC,I.pin,I.hok,I.len⟩
theorem Inv.d_(I:Inv (X.j8 E) pins σ H s):Inv X pins σ H s:=⟨I.ok.d_,I.os,I.bare,I.base,I.loc,I.cell,I.free,I.freeC,I.pin,I.hok,I.len⟩
theorem SP.d_{D:Ends}{f:Flow}{s':Shared}(h:SP (X.j8 E) pins D f s'):SP X pins D f s':=by
 cases f with
 |next=>obtain⟨σ',H',I,q⟩:=h;exact⟨σ',H',I.d_,q⟩
 |brk=>obtain⟨σ',H',I,q⟩:=h;exact⟨σ',H',I.d_,q⟩
 |cont=>obtain⟨σ',H',I,q⟩:=h;exact⟨σ',H',I.d_,q⟩
 |ret u=>obtain⟨v,σ',H',I,r,q⟩:=h;exact⟨v,σ',H',I.d_,r,q⟩
theorem PSs.nox{st:List Stmt}{t:TS}(h:PSs X.nox st t):PSs X st t:=fun pins s σ H D I hw =>
 wpAny_mono (h pins s σ H D (I.j8 _) hw) (fun _ _ q=>q.d_) fun _ _ z=>False.elim z
end
section
variable{X:Cx}{st:Stmt}{rest:List Stmt}{t u:TS}{e:Expr}{te:TE}{pos:Pos}
noncomputable def xM:TS:=fun D σ H=>D.nx σ H
noncomputable def By(t u:TS):TS:=fun D σ H=>t {D with nx:=u D} σ H
theorem vS:PSs X [] xM:=fun _ _ σ H _ I h=>wpAny_execs_nil ⟨σ,H,I,h⟩
theorem sM(h1:PS X st t)(h2:PSs X rest u):PSs X (st::rest) (By t u):=by
 intro pins s σ H D I h;refine wpAny_execs_cons (thn (h1 pins s σ H {D with nx:=u D} I h) fun f s1 q=>?_);cases f with
 |next =>
  obtain⟨σ',H',I',q⟩:=q;exact h2 pins s1 σ' H' D I' q
 |ret v=>exact q
 |brk=>exact q
 |cont=>exact q
noncomputable def yp:TS:=fun D σ H=>D.bk σ H
noncomputable def Ai:TS:=fun D σ H=>D.ct σ H
theorem vT:PS X (.Pass pos) xM:=fun _ _ σ H _ I h=>wpAny_Pass ⟨σ,H,I,h⟩
theorem sN:PS X (.Break pos) yp:=fun _ _ σ H _ I h=>wpAny_Break ⟨σ,H,I,h⟩
theorem mT:PS X (.Continue pos) Ai:=fun _ _ σ H _ I h=>wpAny_Continue ⟨σ,H,I,h⟩
theorem Inv.quiet{pins:List (Addr×Obj)}{σ:St}{H:Hp}{s:Shared}(I:Inv X pins σ H s):interactive X.env=false:=by simp[interactive,I.ok.kind]
noncomputable def Aj(te:TE):TS:=fun D σ H=>te σ H fun _ H1=>D.nx σ H1
theorem lA(he:PE X e te)(hs:swapsWith e none pos.line X.env=pure false:=by rfl):PS X (.Expr e pos) (Aj te):=by
 intro pins s σ H D I h;exact wpAny_Expr_any (thn (he pins s σ H _ I h) fun v s1 ⟨x,H1,I1,r1,q1⟩=>⟨σ,H1,I1,q1⟩) I.quiet hs
noncomputable def Bz(te:TE):TS:=fun D σ H=>te σ H D.rt
theorem yq(he:PE X e te):PS X (.Return (some e) pos) (Bz te):=by
 intro pins s σ H D I h;exact wpAny_Return_some (thn (he pins s σ H _ I h) fun v s1 ⟨x,H1,I1,r1,q1⟩=>⟨x,σ,H1,I1,r1,q1⟩)
noncomputable def Ak:TS:=fun D _ H=>D.rt .non H
theorem vU:PS X (.Return none pos) Ak:=fun _ _ σ H _ I h=>wpAny_Return_none ⟨.non,σ,H,I,rfl,h⟩
noncomputable def BA(c:TT)(t u:TS):TS:=fun D σ H=>c σ H fun b H1=>if b=true then t D σ H1 else u D σ H1
theorem Al{c:Expr}{a b:List Stmt}{tc:TT}(hc:PT X c tc)(ha:PSs X a t)(hb:PSs X b u):PS X (.If c a b pos) (BA tc t u):=by
 intro pins s σ H D I h;refine wpAny_If (thn (hc pins s σ H _ I h) fun d s1 ⟨H1,I1,q1⟩=>?_);cases d with
 |true=>exact ha pins s1 σ H1 D I1 q1
 |false=>exact hb pins s1 σ H1 D I1 q1
end
noncomputable abbrev TG:=V->St->Hp->(St->Hp->Prop)->Prop
noncomputable abbrev TGs:=List V->St->Hp->(St->Hp->Prop)->Prop
noncomputable def PG(X:Cx)(target:Expr)(t:TG):Prop :=
 ∀(pins:List (Addr×Obj)) (s:Shared) (σ:St) (H:Hp) (v:V) (u:Value) (Q:St->Hp->Prop),Inv X pins σ H s->RelV v u->t v σ H Q ->
  wpAny (model X.prog X.w) X.A (assign target X.env u) (fun _ s'=>∃σ' H',Inv X pins σ' H' s'/\Q σ' H') X.xe s
noncomputable def PGs(X:Cx)(ts:List Expr)(t:TGs):Prop :=
 ∀(pins:List (Addr×Obj)) (s:Shared) (σ:St) (H:Hp) (vs:List V) (us:List Value) (Q:St->Hp->Prop),Inv X pins σ H s->Vals vs us->t vs σ H Q ->
  wpAny (model X.prog X.w) X.A (assignInOrder ((assignEach ts X.env).map (·.2)) us) (fun _ s'=>∃σ' H',Inv X pins σ' H' s'/\Q σ' H') X.xe s
noncomputable abbrev vV:=V->V->V->Hp->(Hp->Prop)->Prop
noncomputable def j9(X:Cx)(t:vV):Prop :=
 ∀(pins:List (Addr×Obj)) (s:Shared) (σ:St) (H:Hp) (o i v:V) (ov iv u:Value) (Q:Hp->Prop),Inv X pins σ H s->RelV o ov->RelV i iv->RelV v u->t o i v H Q ->
  wpAny (model X.prog X.w) X.A (setItem ov iv u) (fun _ s'=>∃H',Inv X pins σ H' s'/\Q H') X.xe s
section
variable{X:Cx}{pos:Pos}
noncomputable def p9(i:Nat):TG:=fun v σ H Q=>Q (σ.set i (some v)) H
theorem p_{i:Nat}{x:Str}(hN:X.N.Nodup)(hi:X.N[i]?=some x)(hx:Loc X.env.scope x)(hf:X.fn x=true\/X.env.scope.names.lookup x=some .local:=by first|exact .inl rfl|exact .inr rfl|assumption):PG X (.Name x pos) (p9 i):=by
 intro pins s σ H v u Q I r h;exact wpAny_assign_Name (mS I hN hi hx r (fun s' I'=>⟨_,H,I',h⟩) hf)
noncomputable def Am:TGs:=fun vs σ H Q=>vs=[]/\Q σ H
noncomputable def xN(t:TG)(u:TGs):TGs:=fun vs σ H Q=>∃v r,vs=v::r/\t v σ H fun σ' H'=>u r σ' H' Q
theorem vW:PGs X [] Am:=by
 intro pins s σ H vs us Q I r h;obtain⟨e,h⟩:=h;subst e;cases r;exact assignInOrder_nil ⟨σ,H,I,h⟩
theorem sO{e:Expr}{es:List Expr}{t:TG}{u:TGs}(h1:PG X e t)(h2:PGs X es u)
  (hs:(assignEach (e::es) X.env).map (·.2)=assign e X.env::(assignEach es X.env).map (·.2):=by rfl):PGs X (e::es) (xN t u):=by
 intro pins s σ H vs us Q I r h;obtain⟨v,vr,e1,h⟩:=h;subst e1;cases r with
 |cons r rr =>
  rw[hs];refine assignInOrder_cons (thn (h1 pins s σ H _ _ _ I r h) fun _ s1 ⟨σ1,H1,I1,q1⟩=>?_);exact h2 pins s1 σ1 H1 _ _ Q I1 rr q1
noncomputable def BB(K:PySem.W.Frag)(n:Nat)(t:TGs):TG:=fun v σ H Q=>∃a xs,v=.ref a/\SqT K H a xs/\xs.length=n/\t xs σ H Q
theorem yr{es:List Expr}{k:Nat}{t:TGs}{n:Nat}(hc:X.calm=true)(h:PGs X es t)
  (hn:(assignEach es X.env).length=n:=by rfl) (hst:(assignEach es X.env).findIdx? (·.1)=none:=by rfl):PG X (.Tuple es k pos) (BB X.K n t):=by
 intro pins s σ H v u Q I r hw;obtain⟨a,xs,e1,hq,hl,hw⟩:=hw;subst e1;cases r;obtain⟨its,rv,ht,hz⟩:=I.tuple hq;refine assign_Tuple_tuple (I.ok.hd hc) ht (by simp[hn,<-hl,rv.length]) hst fun h' hx=>?_;have I1:Inv X pins σ H {s with heap:=h' }:=I.kept (t':=s.toks) fun b o e=>hx b o (Nat.ne_of_lt (Heap.lt_size e)) e;exact h pins _ σ H xs _ Q I1 (by simpa using rv) hw
noncomputable def BC(to ti:TE)(t:vV):TG:=fun v σ H Q=>to σ H fun o H1=>ti σ H1 fun i H2=>t o i v H2 fun H3=>Q σ H3
theorem yt{o i:Expr}{to ti:TE}{t:vV}(ho:PE X o to)(hi:PE X i ti)(hs:j9 X t)
  (ha:∀v,assign (.Subscript o i pos) X.env v=(do
   let ov <-holding [v] (eval o X.env)
   let iv <-holding [v,ov] (eval i X.env)
   standAt pos
   holding [v,ov,iv] (setItem ov iv v)
   release [v,ov,iv] []):=by intro _;rfl):PG X (.Subscript o i pos) (BC to ti t):=by
 intro pins s σ H v u Q I r h;rw[ha];refine wpAny_bind (wpAny_holding (thn (ho pins s σ H _ I h) fun ov s1 ⟨x,H1,I1,r1,q1⟩=>?_));refine wpAny_bind (wpAny_holding (thn (hi pins s1 σ H1 _ I1 q1) fun iv s2 ⟨y,H2,I2,r2,q2⟩=>?_));refine wpAny_bind (wpAny_standAt (wpAny_bind (wpAny_holding (thn (hs pins s2 σ H2 x y v ov iv u _ I2 r1 r2 r q2) fun _ s3 ⟨H3,I3,q3⟩=>?_))));exact wpAny_release ⟨σ,H3,I3,q3⟩
noncomputable def yu(te:TE)(g:TG):TS:=fun D σ H=>te σ H fun x H1=>g x σ H1 D.nx
theorem sP{tg e:Expr}{te:TE}{g:TG}(he:PE X e te)(hg:PG X tg g)(hs:swapsWithSole [tg] e pos.line X.env=pure false:=by rfl)(hw:swappedStores [tg] e X.env=pure none:=by rfl)
  (h1:(assignEach [tg] X.env).map (·.2)=[assign tg X.env]:=by rfl):PS X (.Assign [tg] e pos) (yu te g):=by
 intro pins s σ H D I h;refine wpAny_Assign_stores (thn (he pins s σ H _ I h) fun v s1 ⟨x,H1,I1,r1,q1⟩=>?_) hs hw;rw[h1];exact thn (hg pins s1 σ H1 x v _ I1 r1 q1) fun _ s2 q=>q
theorem yw{i:Nat}{x:Str}{e:Expr}{te:TE}{pos':Pos}(hN:X.N.Nodup)(hi:X.N[i]?=some x)(hx:Loc X.env.scope x)(he:PE X e te)(hs:swapsWith e (some (.Name x pos')) pos.line X.env=pure false:=by rfl)(hf:X.fn x=true\/X.env.scope.names.lookup x=some .local:=by first|exact .inl rfl|exact .inr rfl|assumption):
  PS X (.Assign [.Name x pos'] e pos) (yu te (p9 i)):=by
 intro pins s σ H D I h;refine wpAny_Assign_Name (thn (he pins s σ H _ I h) fun v s1 ⟨y,H1,I1,r1,q1⟩=>?_) hs;exact mS I1 hN hi hx r1 (fun s2 I2=>⟨_,H1,I2,q1⟩) hf
end
section
variable{X:Cx}{pos:Pos}
noncomputable def yx(c:TT)(tb:TS):TS:=fun D σ H=>∃W:Nat->St->Hp->Prop,(∃m,W m σ H)/\∀m σ H,W m σ H ->
 c σ H fun b H1=>if b=true then ∃N:St->Hp->Prop,(∀σ' H',N σ' H'->∃m',m'<m/\W m' σ' H')/\tb {D with nx:=N,ct:=N,bk:=D.nx} σ H1 else D.nx σ H1
theorem sQ{c:Expr}{body:List Stmt}{tc:TT}{tb:TS}(hp:PassesOwn (model X.prog X.w) X.A X.env X.xe)(hc:PT X c tc)(hb:PSs X body tb):PS X (.While c body [] pos) (yx tc tb):=by
 intro pins s σ H D I h;obtain⟨W,⟨m0,w0⟩,turn⟩:=h;refine wpAny_While (codeAny_whileLoop (fun n s'=>∃σ' H',Inv X pins σ' H' s'/\W n σ' H') ?_ m0 ⟨σ,H,I,w0⟩);rintro n s1 ⟨σ1,H1,I1,w1⟩;refine wpAny_passesOwn hp (thn (hc pins s1 σ1 H1 _ I1 (turn n σ1 H1 w1)) fun b s2 ⟨H2,I2,q2⟩=>?_);cases b with
 |true =>
  obtain⟨N,hN,q2⟩:=q2;rw[if_pos rfl];refine wpAny_passesOwn hp (thn (hb pins s2 σ1 H2 _ I2 q2) fun f s3 q3=>?_);cases f with
  |next =>
   obtain⟨σ3,H3,I3,n3⟩:=q3;obtain⟨m',hm,w3⟩:=hN σ3 H3 n3;exact⟨m',hm,σ3,H3,I3,w3⟩
  |cont =>
   obtain⟨σ3,H3,I3,n3⟩:=q3;obtain⟨m',hm,w3⟩:=hN σ3 H3 n3;exact⟨m',hm,σ3,H3,I3,w3⟩
  |brk=>exact q3
  |ret v=>exact q3
 |false =>
  rw[if_neg Bool.false_ne_true];exact wpAny_execs_nil ⟨σ1,H2,I2,q2⟩
end
structure It where
 go:Nat->Hp->Prop
 yld:Nat->Hp->V->Hp->Prop
 stop:Nat->Hp->Prop
noncomputable def f6(X:Cx)(pins:List (Addr×Obj))(H:Hp)(b:Addr):Prop :=
 H b=none/\b≠X.env.locals/\b∉X.fs/\(b∈X.ex\/X.s₀.heap.objs.size<=b)/\(∀x c,X.env.cells.lookup x=some c->c≠b)/\∀p∈X.pn++pins,p.1≠b
theorem Inv.sR{X:Cx}{pins:List (Addr×Obj)}{σ:St}{H H':Hp}{s:Shared}{b:Addr}(I:Inv X pins σ H s)(hb:s.heap.objs.size<=b)(hn:H' b=none):f6 X pins H' b:=by
 refine⟨hn,Nat.ne_of_gt (Nat.lt_of_lt_of_le I.lt hb),I.yj hb,.inr (Nat.le_trans I.sz hb),fun x c e z=>?_,fun p hp z=>?_⟩
 ·obtain⟨v,q⟩:=I.cell x c e;exact absurd (Nat.lt_of_lt_of_le q.lt (by rw[z];exact hb)) (Nat.lt_irrefl _)
 ·exact absurd (Nat.lt_of_lt_of_le (Heap.lt_size (I.pin p hp).1) (by rw[z];exact hb)) (Nat.lt_irrefl _)
structure Turn(P:Program)(w:World)(K:PySem.W.Frag)(tg:Expr)(J:It)(fp:List Addr)(it:Addr)(tn:Nat->Heap->Prop):Prop where
 mem:it∈fp
 obj:∀i h,tn i h->∀b∈fp,∃o,h.get? b=some o/\∀v,o.data≠.cell v
 keep:∀i h h',tn i h->(∀b∈fp,∀o,h.get? b=some o->h'.get? b=some o)->tn i h'
 item:∀(X:Cx),X.prog=P->X.w=w->X.K=K->X.calm=true->∀(i:Nat) (pins:List (Addr×Obj)) (s:Shared) (σ:St) (H:Hp) (E:Value->Shared->Prop),Inv X pins σ H s->(∀b∈fp,f6 X pins H b)->tn i s.heap->J.go i H ->
  wpAny (model P w) X.A (pyNext (.ref it)) (fun r s1=>∃u,r=some u /\
   wpAny (model P w) X.A (letOwnedTupleGo tg (.ref it) u) (fun _ s2=>∃x H',Inv X pins σ H' s2/\RelV x u/\J.yld i H x H'/\tn (i+1) s2.heap/\∀b∈fp,H' b=none) E s1) E s
 done:∀(X:Cx),X.prog=P->X.w=w->X.K=K->X.calm=true->∀(i:Nat) (pins:List (Addr×Obj)) (s:Shared) (σ:St) (H:Hp) (E:Value->Shared->Prop),Inv X pins σ H s->(∀b∈fp,f6 X pins H b)->tn i s.heap->J.stop i H ->
  wpAny (model P w) X.A (pyNext (.ref it)) (fun r s1=>r=none/\Inv X pins σ H s1) E s
 self:∀(A:Around) (i:Nat) (s:Shared) (Q:Value->Shared->Prop) (E:Value->Shared->Prop),tn i s.heap->Q (.ref it) s->wpAny (model P w) A (pyIter (.ref it)) Q E s
noncomputable abbrev TI:=St->Hp->(It->Hp->Prop)->Prop
noncomputable def PIE(X:Cx)(pins:List (Addr×Obj))(σ:St)(tg:Expr)(R:It->Hp->Prop)(itv:Value)(s2:Shared):Prop :=
 ∃(it:Addr) (fp:List Addr) (tn:Nat->Heap->Prop) (J:It) (H':Hp),itv=.ref it/\Inv X pins σ H' s2/\Turn X.prog X.w X.K tg J fp it tn/\tn 0 s2.heap/\(∀b∈fp,f6 X pins H' b)/\R J H'
noncomputable def PI(X:Cx)(tg iter:Expr)(wi:TI):Prop :=
 ∀(pins:List (Addr×Obj)) (s:Shared) (σ:St) (H:Hp) (R:It->Hp->Prop),Inv X pins σ H s->wi σ H R ->
  wpAny (model X.prog X.w) X.A (eval iter X.env) (fun v s1=>wpAny (model X.prog X.w) X.A (pyIter v) (PIE X pins σ tg R) X.xe s1) X.xe s
theorem sT{M:Model}{A:Around}{E:Value->Shared->Prop}{s:Shared}{tg:Expr}{it:Addr}{u:Value}{o:Obj}{n:String}{vs:Array Value}{Q:Unit->Shared->Prop}(ho:s.heap.get? it=some o)(hc:o.cls=.type n)(hd:o.data=.fields vs)
    (hn:["enumerate","zip","dict_itemiterator","dict_reverseitemiterator","odict_iterator","itertools.zip_longest","itertools.pairwise"].contains n=false) (hQ:Q () s):wpAny M A (letOwnedTupleGo tg (.ref it) u) Q E s:=by
  unfold letOwnedTupleGo;cases tg<;>first
    | exact wpAny_pure hQ
    | (cases u<;>first
        | exact wpAny_pure hQ
        | (refine wpAny_bind (wpAny_load ho ?_)
           rw[hc,hd];show wpAny M A (if (["enumerate","zip","dict_itemiterator","dict_reverseitemiterator","odict_iterator","itertools.zip_longest","itertools.pairwise"].contains n&&vs[0]?==some (rawInt _))=true then _ else _) Q E s;rw[if_neg (by intro h;rw[hn,Bool.false_and]at h;cases h)];exact wpAny_pure hQ))
noncomputable def Itl(K:PySem.W.Frag)(a:Addr):It :=
 ⟨fun i H=>∃xs x,SqL K H a xs/\xs[i]?=some x,fun i H x H'=>H'=H/\∀xs,SqL K H a xs->xs[i]?=some x,fun i H=>∃xs,SqL K H a xs/\xs.length<=i⟩
noncomputable def Itt(K:PySem.W.Frag)(a:Addr):It :=
 ⟨fun i H=>∃xs x,SqT K H a xs/\xs[i]?=some x,fun i H x H'=>H'=H/\∀xs,SqT K H a xs->xs[i]?=some x,fun i H=>∃xs,SqT K H a xs/\xs.length<=i⟩
noncomputable def Itr(lo:Int)(n:Nat):It:=⟨fun i _=>i<n,fun i H x H'=>H'=H/\x=.int (lo+i),fun i _=>n<=i⟩
theorem rh{P:Program}{w:World}{K:PySem.W.Frag}{tg:Expr}(a it:Addr):Turn P w K tg (Itl K a) [it] it (fun i h=>h.IsListIter it a i) where
 mem:=by simp
 obj:=fun i h st b hb=>by
  have e:b=it:=by simpa using hb
  subst e;obtain⟨o,e,c,d⟩:=st;exact⟨o,e,fun v z=>by rw[d]at z;cases z⟩
 keep:=fun i h h' st k=>st.at fun o e=>k it (by simp) o e
 item:=by
  intro X hP hw hK hc i pins s σ H E I hf st hg;subst hP hw hK;obtain⟨xs,x,hq,hx⟩:=hg;obtain⟨its,rv,p,hz⟩:=I.list hq;obtain⟨u,hu,ru⟩:=rv.get hx;obtain⟨f0,f1,f2,f3,f4,f5⟩:=hf it (by simp);refine wpAny_pyNext_list_item st p.isList (x:=u) (by simpa using hu) fun h' st' sb=>?_;have I1:Inv X pins σ H {s with heap:=h' }:=I.turned (t':=s.toks) (fun b o hb e=>(sb.2 b hb).trans e) f0 f1 f3 f4 f5;obtain⟨o,e,c,d⟩:=id st';exact⟨u,rfl,sT (s:={s with heap:=h' }) e c d (by decide) ⟨x,H,I1,ru,⟨rfl,fun ys hy=>by rw[I.fZ hy hq];exact hx⟩,st',fun b hb=>(hf b hb).1⟩⟩
 done:=by
  intro X hP hw hK hc i pins s σ H E I hf st hg;subst hP hw hK;obtain⟨xs,hq,hx⟩:=hg;obtain⟨its,rv,p,hz⟩:=I.list hq;obtain⟨f0,f1,f2,f3,f4,f5⟩:=hf it (by simp);have hl:=rv.length;exact wpAny_pyNext_list_end (I.ok.hd hc) st p.isList (by simp;omega) fun h' eb=>⟨rfl,I.turned (t':=s.toks) (fun b o hb e=>eb b o hb e) f0 f1 f3 f4 f5⟩
 self:=fun _ _ _ _ _ st h=>wpAny_pyIter_listiter st h
theorem oC{P:Program}{w:World}{K:PySem.W.Frag}{tg:Expr}(a it:Addr):Turn P w K tg (Itt K a) [it] it (fun i h=>h.IsTupleIter it a i) where
 mem:=by simp
 obj:=fun i h st b hb=>by
  have e:b=it:=by simpa using hb
  subst e;obtain⟨o,e,c,d⟩:=st;exact⟨o,e,fun v z=>by rw[d]at z;cases z⟩
 keep:=fun i h h' st k=>st.at fun o e=>k it (by simp) o e
 item:=by
  intro X hP hw hK hc i pins s σ H E I hf st hg;subst hP hw hK;obtain⟨xs,x,hq,hx⟩:=hg;obtain⟨its,rv,p,hz⟩:=I.tuple hq;obtain⟨u,hu,ru⟩:=rv.get hx;obtain⟨f0,f1,f2,f3,f4,f5⟩:=hf it (by simp);refine wpAny_pyNext_tuple_item st (show s.heap.IsTuple a its.toArray from p) (x:=u) (by simpa using hu) fun h' st' sb=>?_;have I1:Inv X pins σ H {s with heap:=h' }:=I.turned (t':=s.toks) (fun b o hb e=>(sb.2 b hb).trans e) f0 f1 f3 f4 f5;obtain⟨o,e,c,d⟩:=id st';exact⟨u,rfl,sT (s:={s with heap:=h' }) e c d (by decide) ⟨x,H,I1,ru,⟨rfl,fun ys hy=>by rw[I.dn hy hq];exact hx⟩,st',fun b hb=>(hf b hb).1⟩⟩
 done:=by
  intro X hP hw hK hc i pins s σ H E I hf st hg;subst hP hw hK;obtain⟨xs,hq,hx⟩:=hg;obtain⟨its,rv,p,hz⟩:=I.tuple hq;obtain⟨f0,f1,f2,f3,f4,f5⟩:=hf it (by simp);have hl:=rv.length;exact wpAny_pyNext_tuple_end (I.ok.hd hc) st (show s.heap.IsTuple a its.toArray from p) (by simp;omega) fun h' eb=>⟨rfl,I.turned (t':=s.toks) (fun b o hb e=>eb b o hb e) f0 f1 f3 f4 f5⟩
 self:=fun _ _ _ _ _ st h=>wpAny_pyIter_tupleiter st h
theorem oD{P:Program}{w:World}{K:PySem.W.Frag}{tg:Expr}(it:Addr)(lo:Int)(n:Nat):Turn P w K tg (Itr lo n) [it] it (fun i h=>IsRangeIter h it (lo+(i:Nat) * 1) ((n:Int) - (i:Nat)) 1) where
 mem:=by simp
 obj:=fun i h st b hb=>by
  have e:b=it:=by simpa using hb
  subst e;exact⟨_,st,fun v z=>by
   have z':Data.fields _=Data.cell v:=z;cases z'⟩
 keep:=fun i h h' st k=>k it (by simp) _ st
 item:=by
  intro X hP hw hK hc i pins s σ H E I hf st hg;subst hP hw hK;obtain⟨f0,f1,f2,f3,f4,f5⟩:=hf it (by simp);have W:=Walks.range (prog:=X.prog) (w:=X.w) (I.ok.hd hc) it lo 1 n;refine W.item i s _ _ hg st fun v h' tk hv st' kk=>?_;obtain⟨t,rfl⟩:=hv;have I1:Inv X pins σ H {s with heap:=h',toks:=tk}:=I.turned (fun b o hb e=>kk b o (by simpa using hb) e) f0 f1 f3 f4 f5;refine⟨_,rfl,sT (s:={s with heap:=h',toks:=tk}) (n:="range_iterator") st' rfl rfl (by decide) ⟨.int (lo+i),H,I1,⟨t,?_⟩,⟨rfl,rfl⟩,st',fun b hb=>(hf b hb).1⟩⟩;rw[Int.mul_one]
 done:=by
  intro X hP hw hK hc i pins s σ H E I hf st hg;subst hP hw hK;obtain⟨f0,f1,f2,f3,f4,f5⟩:=hf it (by simp);exact wpAny_pyNext_range_end (I.ok.hd hc) st (by have:n<=i:=hg;omega) fun h' eb=>⟨rfl,I.turned (t':=s.toks) (fun b o hb e=>eb b o hb e) f0 f1 f3 f4 f5⟩
 self:=fun _ _ _ _ _ st h=>wpAny_pyIter_rangeiter st h
end L2
namespace L2
open PySem PySem.Spec PyProof.Rows
section
variable{X:Cx}{tg:Expr}
noncomputable def An(K:PySem.W.Frag)(tl:TE):TI:=fun σ H R=>tl σ H fun x H1=>∃a,x=.ref a/\(∃xs,SqL K H1 a xs)/\R (Itl K a) H1
noncomputable def BD(K:PySem.W.Frag)(tl:TE):TI:=fun σ H R=>tl σ H fun x H1=>∃a,x=.ref a/\(∃xs,SqT K H1 a xs)/\R (Itt K a) H1
theorem vX{l:Expr}{tl:TE}(hl:PE X l tl):PI X tg l (An X.K tl):=by
 intro pins s σ H R I h;refine thn (hl pins s σ H _ I h) fun v s1 ⟨x,H1,I1,r1,q1⟩=>?_;obtain⟨a,e,⟨xs,hq⟩,q⟩:=q1;subst e;cases r1;obtain⟨its,rv,p,hz⟩:=I1.list hq;refine wpAny_pyIter_list p.isList ?_;refine⟨s1.heap.objs.size,[s1.heap.objs.size],_,_,H1,rfl,I1.kept (t':=s1.toks) fun b o e=>Heap.get?_push_of_some _ e,rh a _,⟨_,Heap.get?_push_size _ rfl,rfl,rfl⟩,fun b hb=>?_,q⟩;have e:b=s1.heap.objs.size:=by simpa using hb
 subst e;exact I1.sR (Nat.le_refl _) (I1.hok.fresh (Nat.le_refl _))
theorem yy{l:Expr}{tl:TE}(hl:PE X l tl):PI X tg l (BD X.K tl):=by
 intro pins s σ H R I h;refine thn (hl pins s σ H _ I h) fun v s1 ⟨x,H1,I1,r1,q1⟩=>?_;obtain⟨a,e,⟨xs,hq⟩,q⟩:=q1;subst e;cases r1;obtain⟨its,rv,p,hz⟩:=I1.tuple hq;refine wpAny_pyIter_tuple (show s1.heap.IsTuple a its.toArray from p) ?_;refine⟨s1.heap.objs.size,[s1.heap.objs.size],_,_,H1,rfl,I1.kept (t':=s1.toks) fun b o e=>Heap.get?_push_of_some _ e,oC a _,⟨_,Heap.get?_push_size _ rfl,rfl,rfl⟩,fun b hb=>?_,q⟩;have e:b=s1.heap.objs.size:=by simpa using hb
 subst e;exact I1.sR (Nat.le_refl _) (I1.hok.fresh (Nat.le_refl _))
theorem sU{pins:List (Addr×Obj)}{σ:St}{H:Hp}{s:Shared}{R:It->Hp->Prop}{E:Value->Shared->Prop}{lo hi:Int}{t u v:Tok}{tk:Nat}(I:Inv X pins σ H s)(h1:-(2 ^ 62)<=lo)(h2:lo<2 ^ 62)(h3:-(2 ^ 62)<=hi)(h4:hi<2 ^ 62)
  (q:R (Itr lo (hi - lo).toNat) H):wpAny (model X.prog X.w) X.A (pyIter (.ref s.heap.objs.size)) (PIE X pins σ tg R) E {s with heap:=s.heap.push {cls:=.type "range",data:=.fields #[.int lo t,.int hi u,.int 1 v]},toks:=tk}:=by
 refine wpAny_pyIter_range (IsRange.new ..) (small_one h1 h2 h3 h4) ?_;have I1:Inv X pins σ H {s with heap:=s.heap.push {cls:=.type "range",data:=.fields #[.int lo t,.int hi u,.int 1 v]},toks:=tk}:=I.kept fun b o e=>Heap.get?_push_of_some _ e;refine⟨(s.heap.push {cls:=.type "range",data:=.fields #[.int lo t,.int hi u,.int 1 v]}).objs.size,[(s.heap.push {cls:=.type "range",data:=.fields #[.int lo t,.int hi u,.int 1 v]}).objs.size],_,_,H,rfl,
  I1.kept (t':=tk) fun b o e=>Heap.get?_push_of_some _ e,oD _ lo (hi - lo).toNat,?_,fun b hb=>?_,q⟩
 ·have e1:lo+((0:Nat):Int) * 1=lo:=by simp
  have e2:(((hi - lo).toNat:Nat):Int) - ((0:Nat):Int)=Builtin.Range.rangeSize lo hi 1:=by rw[rangeSize_one];split<;>omega
  show IsRangeIter _ _ (lo+((0:Nat):Int) * 1) ((((hi - lo).toNat:Nat):Int) - ((0:Nat):Int)) 1;rw[e1,e2];exact Heap.get?_push_size _ rfl
 ·have e:b=(s.heap.push {cls:=.type "range",data:=.fields #[.int lo t,.int hi u,.int 1 v]}).objs.size:=by simpa using hb
  subst e;exact I1.sR (Nat.le_refl _) (I1.hok.fresh (Nat.le_refl _))
noncomputable def Ao(ta:TA):TI:=fun σ H R=>ta σ H fun vs H1=>∃j:Int,vs=[.int j]/\-(2 ^ 62)<=j/\j<2 ^ 62/\R (Itr 0 j.toNat) H1
theorem rj{a:Expr}{ta:TA}{p pos:Pos}(hg:Gl X "range")(hm:X.mg "range"=none)(ha:PA X [a] ta)(hs:starEach [a] X.env=[(false,eval a X.env)]:=by rfl):PI X tg (.Call (.Name "range" p) [a] [] pos) (Ao ta):=by
 intro pins s σ H R I h;refine Call_ (dg I hg hm boot_range (PyProof.Rows.callWith_type1 (thn (ha pos pins s σ H _ I h) fun us s1 ⟨vs,H1,I1,r1,q1⟩=>?_) hs rfl));obtain⟨j,e,q1,q2,q⟩:=q1;subst e;cases r1 with
 |cons r rr =>
  cases rr;obtain⟨t,rfl⟩:=r;exact call_range_1 (sU I1 (by omega) (by omega) q1 q2 (by simpa using q))
noncomputable def BE(wi:TI)(g:TG)(tb:TS):TS:=fun D σ H=>wi σ H fun J H1=>∃W:Nat->Nat->St->Hp->Prop,(∃m,W 0 m σ H1)/\∀i m σ H,W i m σ H ->
 (J.stop i H/\D.nx σ H)\/(J.go i H/\∃N:St->Hp->Prop,(∀σ' H',N σ' H'->∃m',m'<m/\W (i+1) m' σ' H')/\∀x H',J.yld i H x H'->g x σ H' fun σ2 H2=>tb {D with nx:=N,ct:=N,bk:=D.nx} σ2 H2)
noncomputable def iV(fp:List Addr)(h:Heap):List (Addr×Obj):=fp.filterMap fun b=>(h.get? b).map fun o=>(b,o)
theorem dG{fp:List Addr}{h:Heap}{b:Addr}{o:Obj}(hb:b∈fp)(e:h.get? b=some o):(b,o)∈iV fp h:=List.mem_filterMap.mpr ⟨b,hb,by rw[e];rfl⟩
theorem rl{fp:List Addr}{h:Heap}{p:Addr×Obj}(hp:p∈iV fp h):p.1∈fp/\h.get? p.1=some p.2:=by
 obtain⟨b,hb,e⟩:=List.mem_filterMap.mp hp;cases q:h.get? b with
 |none=>rw[q]at e;cases e
 |some o =>
  rw[q]at e;have e':(b,o)=p:=Option.some.inj e;subst e';exact⟨hb,q⟩
theorem Inv.pinned{pins:List (Addr×Obj)}{σ:St}{H:Hp}{s:Shared}{fp:List Addr}(I:Inv X pins σ H s)(hf:∀b∈fp,f6 X pins H b)(ho:∀b∈fp,∃o,s.heap.get? b=some o/\∀v,o.data≠.cell v):Inv X (pins++iV fp s.heap) σ H s :=
 I.cY fun p hp=>(List.mem_append.mp hp).elim (fun z=>I.pin p (List.mem_append_right _ z)) fun z=>by
  obtain⟨hb,e⟩:=rl z;obtain⟨f0,f1,f2,_⟩:=hf p.1 hb;obtain⟨o,e',d⟩:=ho p.1 hb;rw[e]at e';cases e';exact⟨e,f0,f1,f2,d⟩
theorem Inv.iW{pins pl:List (Addr×Obj)}{σ:St}{H:Hp}{s:Shared}(I:Inv X (pins++pl) σ H s):Inv X pins σ H s:=I.cY fun p hp=>I.pin p (List.mem_append_right _ (List.mem_append_left _ hp))
theorem yz{iter:Expr}{body:List Stmt}{wi:TI}{g:TG}{tb:TS}{pos:Pos}(hp:PassesOwn (model X.prog X.w) X.A X.env X.xe)(hc:X.calm=true)(hi:PI X tg iter wi)(hg:PG X tg g)(hb:PSs X body tb)
  (hs:∀x,foldedSetIterable iter X.env x=pure x:=by intro _;rfl):PS X (.For tg iter body [] pos) (BE wi g tb):=by
 intro pins s σ H D I h;refine wpAny_For (thn (hi pins s σ H _ I h) fun v s1 h1=>thn h1 fun itv s2 h2=>?_) hs;obtain⟨it,fp,tn,J,H2,e,I2,T,st2,f2,W,⟨m0,w0⟩,turn⟩:=h2;subst e;have stat:∀{H':Hp},(∀b∈fp,H' b=none)->∀b∈fp,f6 X pins H' b:=fun hn b hb=>⟨hn b hb,(f2 b hb).2⟩
 refine codeAny_forLoop_any (fun n s'=>∃i σ' H',Inv X pins σ' H' s'/\tn i s'.heap/\(∀b∈fp,H' b=none)/\W i n σ' H') ?_ m0 ⟨0,σ,H2,I2,st2,fun b hb=>(f2 b hb).1,w0⟩;rintro n s3 ⟨i,σ3,H3,I3,st3,fr3,w3⟩;rcases turn i n σ3 H3 w3 with⟨stop,qn⟩|⟨go,N,hN,step⟩
 ·refine wpAny_passesOwn hp (thn (T.done X rfl rfl rfl hc i pins s3 σ3 H3 X.xe I3 (stat fr3) st3 stop) fun r s4 ⟨hr,I4⟩=>?_);subst hr;exact wpAny_execs_nil ⟨σ3,H3,I4,qn⟩
 ·refine wpAny_passesOwn hp (thn (T.item X rfl rfl rfl hc i pins s3 σ3 H3 X.xe I3 (stat fr3) st3 go) fun r s4 ⟨u,hr,h4⟩=>?_);subst hr;refine wpAny_passesOwn hp (thn h4 fun _ s5 ⟨x,H5,I5,r5,y5,st5,fr5⟩=>?_);have I5':=I5.pinned (stat fr5) (T.obj _ _ st5);refine wpAny_passesOwn hp (thn (hg _ s5 σ3 H5 x u _ I5' r5 (step x H5 y5)) fun _ s6 ⟨σ6,H6,I6,q6⟩=>?_);refine wpAny_passesOwn hp (thn (hb _ s6 σ6 H6 _ I6 q6) fun f s7 q7=>?_);have again:∀{σ7:St} {H7:Hp},Inv X (pins++iV fp s5.heap) σ7 H7 s7->N σ7 H7->∃m,m<n/\∃i σ' H',Inv X pins σ' H' s7/\tn i s7.heap/\(∀b∈fp,H' b=none)/\W i m σ' H':=fun {σ7 H7} I7 n7=>by
   obtain⟨m',hm,w7⟩:=hN σ7 H7 n7;refine⟨m',hm,i+1,σ7,H7,I7.iW,T.keep _ _ _ st5 fun b hb o e=>(I7.pin (b,o) (List.mem_append_right _ (List.mem_append_right _ (dG hb e)))).1,fun b hb=>?_,w7⟩;obtain⟨o,e,d⟩:=T.obj _ _ st5 b hb;exact(I7.pin (b,o) (List.mem_append_right _ (List.mem_append_right _ (dG hb e)))).2.1
  cases f with
  |next=>obtain⟨σ7,H7,I7,n7⟩:=q7;exact again I7 n7
  |cont=>obtain⟨σ7,H7,I7,n7⟩:=q7;exact again I7 n7
  |brk=>obtain⟨σ7,H7,I7,q7⟩:=q7;exact⟨σ7,H7,I7.iW,q7⟩
  |ret v=>obtain⟨x7,σ7,H7,I7,r7,q7⟩:=q7;exact⟨x7,σ7,H7,I7.iW,r7,q7⟩
end
end L2
namespace L2
open PySem PySem.Spec PyProof.Rows
noncomputable abbrev R2:=V->V->Hp->VK->Prop
noncomputable def OpR(X:Cx)(f:Value->Value->Sem Value)(r:R2):Prop :=
 ∀(pins:List (Addr×Obj)) (s:Shared) (σ:St) (H:Hp) (x y:V) (v u:Value) (Q:VK),Inv X pins σ H s->RelV x v->RelV y u->r x y H Q ->
  wpAny (model X.prog X.w) X.A (f v u) (EP X pins σ Q) X.xe s
noncomputable def d5(X:Cx)(f:Value)(r:List V->Hp->VK->Prop):Prop :=
 ∀(pins:List (Addr×Obj)) (s:Shared) (σ:St) (H:Hp) (xs:List V) (us:List Value) (Q:VK),Inv X pins σ H s->Vals xs us->r xs H Q ->
  wpAny (model X.prog X.w) X.A (call f us) (EP X pins σ Q) X.xe s
noncomputable def BF(X:Cx)(r:V->Hp->(Bool->Hp->Prop)->Prop):Prop :=
 ∀(pins:List (Addr×Obj)) (s:Shared) (σ:St) (H:Hp) (x:V) (v:Value) (Q:Bool->Hp->Prop),Inv X pins σ H s->RelV x v->r x H Q ->
  wpAny (model X.prog X.w) X.A (truthy v) (TP X pins σ Q) X.xe s
noncomputable def rI(C:Int->Int->Prop)(g:Int->Int->V):R2:=fun x y H Q=>∃i j,x=.int i/\y=.int j/\C i j/\Q (g i j) H
noncomputable def rI0(g:Int->Int->V):R2:=fun x y H Q=>∃i j,x=.int i/\y=.int j/\Q (g i j) H
section
variable{X:Cx}{a b c:Expr}{ta tb tc:TE}{pos:Pos}
theorem opI{f:Value->Value->Sem Value}{C:Int->Int->Prop}{g:Int->Int->Int}
  (rule:∀(i j:Int) (t u:Tok) (s:Shared) (Q:Value->Shared->Prop) (E:Value->Shared->Prop),C i j->Q (.int (g i j) s.toks) {s with toks:=s.toks+1}->wpAny (model X.prog X.w) X.A (f (.int i t) (.int j u)) Q E s) :
  OpR X f (rI C fun i j=>.int (g i j)):=by
 intro pins s σ H x y v u Q I rx ry h;obtain⟨i,j,rfl,rfl,hc,q⟩:=h;obtain⟨t,rfl⟩:=rx;obtain⟨t',rfl⟩:=ry;exact rule i j t t' s _ _ hc ⟨.int (g i j),H,I.tok _,⟨_,rfl⟩,q⟩
theorem Ap{f:Value->Value->Sem Value}{g:Int->Int->Int}
  (rule:∀(i j:Int) (t u:Tok) (s:Shared) (Q:Value->Shared->Prop) (E:Value->Shared->Prop),Q (.int (g i j) s.toks) {s with toks:=s.toks+1}->wpAny (model X.prog X.w) X.A (f (.int i t) (.int j u)) Q E s) :
  OpR X f (rI0 fun i j=>.int (g i j)):=by
 intro pins s σ H x y v u Q I rx ry h;obtain⟨i,j,rfl,rfl,q⟩:=h;obtain⟨t,rfl⟩:=rx;obtain⟨t',rfl⟩:=ry;exact rule i j t t' s _ _ ⟨.int (g i j),H,I.tok _,⟨_,rfl⟩,q⟩
theorem yA{f:Value->Value->Sem Value}{g:Int->Int->Bool}
  (rule:∀(i j:Int) (t u:Tok) (s:Shared) (Q:Value->Shared->Prop) (E:Value->Shared->Prop),Q (.bool (g i j)) s->wpAny (model X.prog X.w) X.A (f (.int i t) (.int j u)) Q E s) :
  OpR X f (rI0 fun i j=>.bl (g i j)):=by
 intro pins s σ H x y v u Q I rx ry h;obtain⟨i,j,rfl,rfl,q⟩:=h;obtain⟨t,rfl⟩:=rx;obtain⟨t',rfl⟩:=ry;exact rule i j t t' s _ _ ⟨.bl (g i j),H,I,rfl,q⟩
noncomputable def BG(i j:Int):Prop:=0<j/\j<1073741824
noncomputable def BH(i j:Int):Prop:=0<=j/\j<=1000000/\i.natAbs<2 ^ 64
noncomputable def yB(i j:Int):Prop:=(-(2 ^ 64)<i/\i<2 ^ 64)\/(-(2 ^ 64)<j/\j<2 ^ 64)
theorem yB.ok{i j:Int}(h:yB i j):IntMulOk i j:=by
 rcases h with⟨h1,h2⟩|⟨h1,h2⟩
 ·exact .of_left (intBits_le_64 h1 h2)
 ·exact .of_right (intBits_le_64 h1 h2)
theorem ef:OpR X (binaryOp .Add) (rI0 fun i j=>.int (i+j)):=Ap fun _ _ _ _ _ _ _ q=>add_int q
theorem iX:OpR X (binaryOp .Sub) (rI0 fun i j=>.int (i - j)):=Ap fun _ _ _ _ _ _ _ q=>sub_int q
theorem lB:OpR X (binaryOp .Mult) (rI yB fun i j=>.int (i * j)):=opI fun _ _ _ _ _ _ _ hc q=>mul_int q hc.ok
theorem vY:OpR X (binaryOp .FloorDiv) (rI BG fun i j=>.int (i / j)):=opI fun i j _ _ _ _ _ hc q=>by
 have h1:(0:Int)<j:=hc.1;have h2:j<1073741824:=hc.2;exact floordiv_int (by omega) (by rw[Int.fdiv_eq_ediv_of_nonneg i (by omega)];exact q) (.inl (PyProof.noPylong_small (by omega)))
theorem br:OpR X (binaryOp .Mod) (rI (fun _ j=>0<j) fun i j=>.int (i % j)):=opI fun i j _ _ _ _ _ hc q=>by
 have h1:(0:Int)<j:=hc;exact mod_int' (by omega) (by rw[Int.fmod_eq_emod_of_nonneg i (by omega)];exact q)
theorem lC:OpR X (binaryOp .Pow) (rI BH fun i j=>.int (i ^ j.toNat)):=opI fun _ _ _ _ _ _ _ hc q=>pow_int_small hc.1 hc.2.1 hc.2.2 q
end
section
variable{X:Cx}{a b c:Expr}{ta tb tc:TE}{pos:Pos}
theorem lD{pins:List (Addr×Obj)}{σ:St}{H:Hp}{s:Shared}{Q:VK}{k k':Bool}(I:Inv X pins σ H s)(q:Q (.bl k) H)(e:k=k'):EP X pins σ Q (.bool k') s:=by
 subst e;exact⟨.bl k,H,I,rfl,q⟩
theorem Aq:OpR X (compareOp .Lt) (rI0 fun i j=>.bl (decide (i<j))):=yA fun _ _ _ _ _ _ _ q=>lt_int q
theorem Ar:OpR X (compareOp .Gt) (rI0 fun i j=>.bl (decide (j<i))):=yA fun _ _ _ _ _ _ _ q=>gt_int q
theorem As:OpR X (compareOp .GtE) (rI0 fun i j=>.bl (decide (j<=i))):=yA fun _ _ _ _ _ _ _ q=>ge_int q
theorem yC:OpR X (compareOp .Is) (fun x y H Q=>y=.non/\Q (.bl (decide (x=.non))) H):=by
 intro pins s σ H x y v u Q I rx ry h;obtain⟨rfl,q⟩:=h;cases ry;refine is_none_gen (lD I q ?_);cases x<;>first
  |(cases rx;rfl)
  |(obtain⟨t,rfl⟩:=rx;rfl)
theorem vZ:OpR X (compareOp .IsNot) (fun x y H Q=>y=.non/\Q (.bl (!decide (x=.non))) H):=by
 intro pins s σ H x y v u Q I rx ry h;obtain⟨rfl,q⟩:=h;cases ry;refine isnot_none_gen (lD I q ?_);cases x<;>first
  |(cases rx;rfl)
  |(obtain⟨t,rfl⟩:=rx;rfl)
noncomputable def Au(K:PySem.W.Frag)(x:V)(H:Hp)(k:Bool):Prop :=
 match x with
 |.non=>k=false
 |.bl b=>k=b
 |.int i=>k=(i != 0)
 |.str y=>y.length<=sizeLine/\k=((y.length:Int) != 0)
 |.byt y=>y.size<=sizeLine/\k=((y.size:Int) != 0)
 |.ref p=>(∃xs,SqL K H p xs/\k=!xs.isEmpty)\/(∃xs,SqT K H p xs/\k=!xs.isEmpty)\/∃kvs,H p=some (.dK kvs)/\k=!kvs.isEmpty
 |_=>False
theorem oE{κ:Type}{kvs:List (κ×V)}{vs:List (κ×Value)}(r:KV kvs vs):(!vs.isEmpty)=!kvs.isEmpty:=by
 cases r<;>rfl
theorem iY{xs:List V}{its:List Value}(r:Vals xs its):(!its.toArray.isEmpty)=!xs.isEmpty:=by
 cases r<;>simp
theorem fI:(sizeLine:Nat)<2 ^ 63:=by rw[sizeLine_eq];decide
theorem yD:BF X (fun x H Q=>∃k,Au X.K x H k/\Q k H):=by
 intro pins s σ H x v Q I rx h;obtain⟨k,e,q⟩:=h;have hl:=fI;have hs:sizeLine=16777216:=sizeLine_eq;cases x with
 |non =>
  cases rx;have e':k=false:=e;subst e';exact truthy_none ⟨H,I,q⟩
 |bl b =>
  cases rx;have e':k=b:=e;subst e';exact wpAny_truthy_bool ⟨H,I,q⟩
 |int i =>
  obtain⟨t,rfl⟩:=rx;have e':k=(i != 0):=e;subst e';exact PySem.P.truthy_int ⟨H,I,q⟩
 |str y =>
  obtain⟨t,rfl⟩:=rx;obtain⟨hy,e'⟩:y.length<=sizeLine/\k=((y.length:Int) != 0):=e;subst e';exact PySem.P.truthy_str (by omega) ⟨H,I.tok _,q⟩
 |byt y =>
  obtain⟨t,rfl⟩:=rx;obtain⟨hy,e'⟩:y.size<=sizeLine/\k=((y.size:Int) != 0):=e;subst e';exact PySem.W.truthy_bytes (by omega) ⟨H,I.tok _,q⟩
 |ref p =>
  cases rx;have e':(∃xs,SqL X.K H p xs/\k=!xs.isEmpty)\/(∃xs,SqT X.K H p xs/\k=!xs.isEmpty)\/∃kvs,H p=some (.dK kvs)/\k=!kvs.isEmpty:=e;rcases e' with⟨xs,hx,e'⟩|⟨xs,hx,e'⟩|⟨kvs,hx,e'⟩
  ·subst e';obtain⟨its,r,pl,hz⟩:=I.list hx;have hlen:=r.length;exact wpAny_truthy_list pl.isList (by simp only[List.size_toArray];omega) ⟨H,I.tok _,by rw[iY r];exact q⟩
  ·subst e';obtain⟨its,r,pl,hz⟩:=I.tuple hx;have hlen:=r.length;exact truthy_tuple pl (by simp only[List.size_toArray];omega) ⟨H,I.tok _,by rw[iY r];exact q⟩
  ·subst e';obtain⟨hz,hS,vs,r,m⟩:kvs.length<=sizeLine/\(p==sysModules)=false/\∃vs,KV kvs vs/\s.heap.DictOf (bL X.prog X.w) p vs:=I.hok p _ hx;have hlen:kvs.length=vs.length:=Paired.length r;exact wpAny_truthy_dict hS m (by omega) ⟨H,I.tok _,by rw[oE r];exact q⟩
 |_=>exact(show False from e).elim
theorem sV(ha:PE X a ta)(he:∀whole,isTrue a X.env whole=(do let v <-whole;standAt a.pos;holding [v] (truthy v))):
  PT X a (fun σ H Q=>ta σ H fun x H'=>∃k,Au X.K x H' k/\Q k H'):=by
 intro pins s σ H Q I h;exact isTrue_plain (thn (ha pins s σ H _ I h) fun v s1 ⟨x,H1,I1,r1,q1⟩=>yD pins s1 σ H1 x v Q I1 r1 q1) (he _)
theorem oF:OpR X (binaryOp .Add) (fun x y H Q=>∃i j,x=.str i/\y=.str j/\i.length+j.length<=sizeLine/\Q (.str (i++j)) H):=by
 intro pins s σ H x y v u Q I rx ry h;obtain⟨i,j,rfl,rfl,hz,q⟩:=h;obtain⟨t,rfl⟩:=rx;obtain⟨t',rfl⟩:=ry;exact add_str (fun t' tk=>⟨.str (i++j),H,I.tok _,⟨_,rfl⟩,q⟩) hz
theorem vals1{x:V}{us:List Value}(r:Vals [x] us):∃u,us=[u]/\RelV x u:=by
 cases r with
 |cons r1 r2=>cases r2;exact⟨_,rfl,r1⟩
theorem vals2{x y:V}{us:List Value}(r:Vals [x,y] us):∃u w',us=[u,w']/\RelV x u/\RelV y w':=by
 cases r with
 |cons r1 r2 =>
  cases r2 with
  |cons r3 r4=>cases r4;exact⟨_,_,rfl,r1,r3⟩
theorem rm(hc:X.calm=true):d5 X (.builtin "max") (fun xs H Q=>∃i j,xs=[.int i,.int j]/\Q (.int (if j>i then j else i)) H):=by
 intro pins s σ H xs us Q I r h;obtain⟨i,j,rfl,q⟩:=h;obtain⟨u,w',rfl,⟨t,rfl⟩,⟨t',rfl⟩⟩:=vals2 r;refine max_two_ints (I.ok.hd hc) fun h' tk k=>⟨_,H,I.kept k,?_,q⟩
 by_cases hj:j>i
 ·rw[if_pos hj,if_pos hj];exact⟨_,rfl⟩
 ·rw[if_neg hj,if_neg hj];exact⟨_,rfl⟩
theorem rn(hc:X.calm=true):d5 X (.builtin "min") (fun xs H Q=>∃i j,xs=[.int i,.int j]/\Q (.int (if j<i then j else i)) H):=by
 intro pins s σ H xs us Q I r h;obtain⟨i,j,rfl,q⟩:=h;obtain⟨u,w',rfl,⟨t,rfl⟩,⟨t',rfl⟩⟩:=vals2 r;refine min_two_ints (I.ok.hd hc) fun h' tk k=>⟨_,H,I.kept k,?_,q⟩
 by_cases hj:j<i
 ·rw[if_pos hj,if_pos hj];exact⟨_,rfl⟩
 ·rw[if_neg hj,if_neg hj];exact⟨_,rfl⟩
theorem lE:d5 X (.type "str") (fun xs H Q=>∃i,xs=[.int i]/\i.natAbs.log2<1920/\Q (.str (toString i)) H):=by
 intro pins s σ H xs us Q I r h;obtain⟨i,rfl,hz,q⟩:=h;obtain⟨u,rfl,t,rfl⟩:=vals1 r;exact PySem.P.str_of_int hz ⟨.str _,H,I.tok _,⟨_,rfl⟩,q⟩
end
end L2
namespace L2
open PySem PySem.Spec PyProof.Rows
structure B4(h:Heap)(x dx C:Addr)(mA:Str->Option Value):Prop where
 obj:h.get? x=some (PySem.W.instObj C dx)
 ns:h.Ns1 dx mA
 ne:dx≠x
section
variable{prog:Program}{w:World}{A:Around}{E:Value->Shared->Prop}{s:Shared}{K:PySem.W.Frag}{x dx C f:Addr}{mA:Str->Option Value}{name:Str}{v:Value}
end
section
variable{P:Program}{w:World}{H H':Hp}{h h':Heap}{a C dx:Addr}{fs fs':List (Str×V)}
end
structure Cls(K:PySem.W.Frag)(C:Addr):Prop where
 pg:PySem.W.plainGet K C Str.empty=true
 hd:PySem.W.hasDictIn K C=true
 po:PySem.W.plainOver K C=true
 sa:PySem.W.findIn K (.ref C) "__setattr__"=some (some (.builtin "object.__setattr__"))
structure Con(K:PySem.W.Frag)(C:Addr)(f:Str)(v:V)(u:Value):Prop where
 at_:PySem.W.findIn K (.ref C) f=some (some u)
 rel:RelV v u
 get:PySem.W.specialIn K u "__get__"=some none
 cp:PySem.W.copiedNames.contains f=false
structure Meth(K:PySem.W.Frag)(C:Addr)(m:Str)(f:Addr):Prop where
 at_:PySem.W.findIn K (.ref C) m=some (some (.ref f))
 fn:PySem.W.isFn K (.ref f)=true
 kp:PySem.W.keepIn K (.ref f)=true
section
variable{X:Cx}{pins:List (Addr×Obj)}{σ:St}{H:Hp}{s:Shared}{a C dx:Addr}{fs:List (Str×V)}{f:Str}{v:V}{A:Around}{E:Value->Shared->Prop}
end
section
variable{X:Cx}{o e value:Expr}{f:Str}{pos pos' tpos:Pos}{ta tv:TE}
end
section
variable{X:Cx}{pins:List (Addr×Obj)}{σ:St}{H:Hp}{s:Shared}{A:Around}{E:Value->Shared->Prop}{Q:Value->Shared->Prop}{c:Value}{b:Bool}
inductive iZ(K:PySem.W.Frag)(H:Hp):V->Value->Prop where
 |non:iZ K H .non (.type "NoneType")
 |bl (x:Bool):iZ K H (.bl x) (.type "bool")
 |int (i:Int):iZ K H (.int i) (.type "int")
 |str (x:Str):iZ K H (.str x) (.type "str")
 |flt (x:UInt64):iZ K H (.flt x) (.type "float")
 |lst {a:Addr} {xs:List V} (e:H a=some (.lst xs)):iZ K H (.ref a) (.type "list")
 |frz {a:Addr} {o:Obj} {xs:List V} (e:H a=some (.frz o (.lst xs))):iZ K H (.ref a) (.type "list")
 |tup {a:Addr} {xs:List V} (e:H a=some (.tup xs)):iZ K H (.ref a) (.type "tuple")
 |dK {a:Addr} {kvs:List (Key×V)} (e:H a=some (.dK kvs)):iZ K H (.ref a) (.type "dict")
 |dT {a:Addr} {kvs:List (List Key×V)} (e:H a=some (.dT kvs)):iZ K H (.ref a) (.type "dict")
 |ins {a C dx:Addr} {fs:List (Str×V)} (e:H a=some (.ins C dx fs)) (cl:Cls K C) (ha:PySem.W.findIn K (.ref C) "__class__"=some (some (.builtin "object.__class__")))
   (hn:PySem.W.specialIn K (.builtin "object.__class__") "__get__"=some (some (.builtin "getset_descriptor.__get__"))) (htk:PySem.W.takesIn K (.builtin "object.__class__")=some true)
   (hm:PySem.W.mroIn K C (.type "object")=some true):iZ K H (.ref a) (.ref C)
end
end L2
namespace L2
open PySem PySem.Spec PyProof.Rows
structure ft(k:Nat)(A:Around):Prop where
 hd:A.handled=none
 dp:A.depth+3 * k+5<recursionLimit
 un:A.units+16 * k+200<cLine
 gd:A.guards=some []
theorem ft.deeper{k:Nat}{A:Around}(r:ft (k+1) A)(env:Env):ft k (A.deeper env) :=
 ⟨r.hd,by have:=r.dp;show A.depth+1+3 * k+5 < _;omega,by have:=r.un;show A.units+3+16 * k+200 < _;omega,r.gd⟩
theorem ft.depth{k:Nat}{A:Around}(r:ft k A):A.depth<recursionLimit:=by have:=r.dp;omega
noncomputable def BI:TA:=fun _ H Q=>Q [] H
noncomputable def Av(ta:TE)(tr:TA):TA:=fun σ H Q=>ta σ H fun x H1=>tr σ H1 fun xs H2=>Q (x::xs) H2
section
variable{X:Cx}{e:Expr}{es:List Expr}{te:TE}{t:TA}{pos:Pos}
theorem oG:PA X [] BI:=fun _ _ _ _ H Q I h=>Calls.spliced_nil ⟨[],H,I,.nil,h⟩
theorem lF(ha:PE X e te)(hr:PA X es t)(hs:starEach (e::es) X.env=(false,eval e X.env)::starEach es X.env:=by rfl):PA X (e::es) (Av te t):=by
 intro pos pins s σ H Q I h;rw[hs];show wpAny _ _ (spliced ((false,eval e X.env)::backTo pos (starEach es X.env))) _ _ s;refine Calls.spliced_cons (thn (ha pins s σ H _ I h) fun u s1 ⟨x,H1,I1,r1,q1⟩=>?_);exact thn (hr pos pins s1 σ H1 _ I1 q1) fun us s2 ⟨xs,H2,I2,r2,q2⟩=>⟨x::xs,H2,I2,.cons r1 r2,q2⟩
end
noncomputable abbrev Sp:=List V->Hp->VK->XK->Prop
noncomputable abbrev CXT:=List Env->Hp->Shared->XK->Value->Shared->Prop
structure v3(P:Program)(w:World)(K:PySem.W.Frag)(mg:Str->Option Value)(base:Heap)(A:Around)(outer:List Env)(s:Shared)(H:Hp):Prop where
 frames:A.frames=some outer
 mod:Mod K mg base
 bs:∀b o,base.get? b=some o->s.heap.get? b=some o/\H b=none
 bsz:base.objs.size<=s.heap.objs.size
 iS:s.heap.FunFrames base outer
 frf:∀b∈frs outer,H b=none
 hok:HOk P w H s.heap
 bare:AllBare s.gens
noncomputable def CE(outer:List Env)(P:Program)(w:World)(H:Hp)(s:Shared)(Q:VK)(u:Value)(s':Shared):Prop :=
 ∃v H',s'.os=s.os/\AllBare s'.gens/\Un (frs outer) [] H H' s.heap s'.heap/\HOk P w H' s'.heap/\RelV v u/\Q v H'
noncomputable def CR(CX:CXT)(outer:List Env)(P:Program)(w:World)(H:Hp)(s:Shared)(Q:VK)(E:XK)(r:Result)(s':Shared):Prop :=
 match r with
 |.ok (.ret u)=>CE outer P w H s Q u s'
 |.ok _=>False
 |.error e=>CX outer H s E e s'
structure lG(P:Program)(w:World)(K:PySem.W.Frag)(mg:Str->Option Value)(base:Heap)(CX:CXT)(k:Nat)(f:Addr)(fd:FuncData)(ps:List Str)(sp:Sp):Prop where
 len:∀vs H Q E,sp vs H Q E->vs.length=ps.length
 run:∀(A:Around) (outer:List Env) (s:Shared) (H:Hp) (args:Args) (us:List Value) (vs:List V) (Q:VK) (E:XK),ft k A->v3 P w K mg base A outer s H->BindsTo s fd args (ps.zip us)->Vals vs us->sp vs H Q E ->
  codeAny (model P w) A (.call (.ref f) args) (CR CX outer P w H s Q E) s
section
variable{X:Cx}{pins:List (Addr×Obj)}{σ:St}{H:Hp}{s s':Shared}
theorem Inv.BJ(I:Inv X pins σ H s):v3 X.prog X.w X.K X.mg X.base X.A X.stack s H :=
 ⟨I.ok.frames,I.ok.mod,I.bs,Nat.le_trans I.ok.bsz I.sz,I.stack,I.p7,I.hok,I.bare⟩
theorem Inv.after{Q:VK}{u:Value}(I:Inv X pins σ H s)(h:CE X.stack X.prog X.w H s Q u s'):EP X pins σ Q u s':=by
 obtain⟨v,H',os,bare,un,hok,r,q⟩:=h;obtain⟨hh,g,d,t,os'⟩:=s';obtain rfl:os'=s.os:=os;exact⟨v,H',I.call (h':=hh) (g':=g) (d':=d) (t':=t) (ch:=[]) un hok bare (fun b z=>absurd z (by simp)),r,q⟩
end
noncomputable def Binds(K:PySem.W.Frag)(fd:FuncData)(ps:List Str)(ds:List Value):Prop :=
 ∀(s:Shared) (us:List Value),K.In s.heap->(us++ds).length=ps.length->BindsTo s fd ⟨us,[]⟩ (ps.zip (us++ds))
theorem Binds.all{K:PySem.W.Frag}{fd:FuncData}{ps:List Str}(h:∀us:List Value,us.length=ps.length->bindArgs fd ⟨us,[]⟩=pure (ps.zip us)):Binds K fd ps []:=fun s us _ hl=>by
 rw[List.append_nil]at hl ⊢;exact .of_eq (h us hl)
noncomputable def Passes(CX:CXT)(X:Cx)(E:XK):Prop:=∀(pins:List (Addr×Obj)) (σ:St) (H:Hp) (s:Shared) (e:Value) (s':Shared),Inv X pins σ H s->CX X.stack H s E e s'->X.xe e s'
section
variable{X:Cx}{CX:CXT}{k:Nat}{f C:Addr}{fd:FuncData}{ps:List Str}{sp:Sp}{dvs:List V}{ds:List Value}{E:XK}{x m:Str}{p pos apos:Pos}{e o:Expr}{es:List Expr}{ta:TE}{t:TA}
theorem sW{pins:List (Addr×Obj)}{σ:St}{H:Hp}{s:Shared}{Q:VK}{us:List Value}{vs:List V}(F:lG X.prog X.w X.K X.mg X.base CX k f fd ps sp)(hr:ft k X.A)(hb:Binds X.K fd ps ds)(hd:Vals dvs ds)(hx:Passes CX X E)
  (I:Inv X pins σ H s) (r:Vals vs us) (h:sp (vs++dvs) H Q E):wpAny (model X.prog X.w) X.A (call (.ref f) us) (EP X pins σ Q) X.xe s:=by
 have r2:Vals (vs++dvs) (us++ds):=r.append hd;have hl:(us++ds).length=ps.length:=by rw[<-r2.length];exact F.len _ _ _ _ h
 refine wpAny_call (codeAny_mono (F.run X.A X.stack s H ⟨us,[]⟩ (us++ds) (vs++dvs) Q E hr I.BJ (hb s us I.kIn hl) r2 h) fun r s' hq=>?_);cases r with
 |error e=>exact hx pins σ H s e s' I hq
 |ok fl =>
  cases fl with
  |ret u=>exact I.after hq
  |next=>exact False.elim hq
  |brk=>exact False.elim hq
  |cont=>exact False.elim hq
structure Mk(K:PySem.W.Frag)(C f:Addr):Prop where
 makes:PySem.W.makesIn K C=true
 init:PySem.W.findIn K (.ref C) "__init__"=some (some (.ref f))
 fn:PySem.W.isFn K (.ref f)=true
 kp:PySem.W.keepIn K (.ref C)=true
end
section
variable{X:Cx}{CX:CXT}{k:Nat}{f C:Addr}{fd:FuncData}{ps ks:List Str}{sp:Sp}{E:XK}{x m:Str}{p pos apos kpos:Pos}{e o:Expr}{es:List Expr}{kws:List Keyword}{te ta:TE}{t tk:TA}{nm:Option Str}
structure BK(K:PySem.W.Frag)(fd:FuncData)(ps ks:List Str)(g:List Value->List Value->List Value)(gV:List V->List V->List V):Prop where
 to:∀(s:Shared) (us ws:List Value),K.In s.heap->(g us ws).length=ps.length->BindsTo s fd ⟨us,ks.zip ws⟩ (ps.zip (g us ws))
 rel:∀{vs:List V} {us:List Value} {zs:List V} {ws:List Value},Vals vs us->Vals zs ws->Vals (gV vs zs) (g us ws)
variable{g:List Value->List Value->List Value}{gV:List V->List V->List V}
end
structure dH(N P:List Str)(sc:Scope):Prop where
 kind:sc.kind=.function
 co:sc.isCoroutine=false
 gen:sc.isGenerator=false
 nd:N.Nodup
 pre:N.take P.length=P
 par:∀x∈P,sc.names.lookup x=some .local\/sc.names.lookup x=some .cell
 nofree:∀y∈sc.names,y.2≠.free
theorem kr{kindOf:Str->Option NameKind}{x:Str}:∀{binds:List (Str×Value)}{m:Str->Option Value},(∀v,(x,v)∉binds)->bindL kindOf binds m x=m x
 |[],_,_=>rfl
 |(n,v)::r,m,h=>by
  unfold bindL;rw[kr fun w hw=>h w (List.mem_cons_of_mem _ hw)];split
  ·have:x≠n:=by rintro rfl;exact h v List.mem_cons_self
   simp[this]
  ·rfl
theorem ku{kindOf:Str->Option NameKind}{x:Str}:∀{binds:List (Str×Value)}{m:Str->Option Value},(∀v,(x,v)∉binds)->bindC kindOf binds m x=m x
 |[],_,_=>rfl
 |(n,v)::r,m,h=>by
  unfold bindC;rw[ku fun w hw=>h w (List.mem_cons_of_mem _ hw)];split
  ·rfl
  ·have:x≠n:=by rintro rfl;exact h v List.mem_cons_self
   simp[this]
theorem kz{kindOf:Str->Option NameKind}{x:Str}{v:Value}:∀{P:List Str}{vs:List Value}{i:Nat}{m:Str->Option Value},P.Nodup->P[i]?=some x->vs[i]?=some v->kindOf x=some .local ->
  bindL kindOf (P.zip vs) m x=some v
 |[],_,_,_,_,h,_,_=>by simp at h
 |_::_,[],_,_,_,_,h,_=>by simp at h
 |p::P,w::vs,0,m,nd,h1,h2,hk=>by
  simp at h1 h2;subst h1;subst h2;show bindL kindOf ((p,w)::P.zip vs) m p=_;unfold bindL;rw[kr fun v hv=>(List.nodup_cons.mp nd).1 (List.of_mem_zip hv).1,if_pos hk];simp
 |p::P,w::vs,i+1,m,nd,h1,h2,hk=>by
  show bindL kindOf ((p,w)::P.zip vs) m x=_;unfold bindL;exact kz (i:=i) (List.nodup_cons.mp nd).2 (by simpa using h1) (by simpa using h2) hk
theorem kA{kindOf:Str->Option NameKind}{x:Str}{v:Value}:∀{P:List Str}{vs:List Value}{i:Nat}{m:Str->Option Value},P.Nodup->P[i]?=some x->vs[i]?=some v->kindOf x≠some .local ->
  bindC kindOf (P.zip vs) m x=some v
 |[],_,_,_,_,h,_,_=>by simp at h
 |_::_,[],_,_,_,_,h,_=>by simp at h
 |p::P,w::vs,0,m,nd,h1,h2,hk=>by
  simp at h1 h2;subst h1;subst h2;show bindC kindOf ((p,w)::P.zip vs) m p=_;unfold bindC;rw[ku fun v hv=>(List.nodup_cons.mp nd).1 (List.of_mem_zip hv).1,if_neg hk];simp
 |p::P,w::vs,i+1,m,nd,h1,h2,hk=>by
  show bindC kindOf ((p,w)::P.zip vs) m x=_;unfold bindC;exact kA (i:=i) (List.nodup_cons.mp nd).2 (by simpa using h1) (by simpa using h2) hk
noncomputable def start(N:List Str)(vs:List V):St:=vs.map some++List.replicate (N.length - vs.length) none
noncomputable def oH(CX:CXT)(P:Program)(w:World)(K:PySem.W.Frag)(mg:Str->Option Value)(base:Heap)(N:List Str)(qual:Str)(scope:Scope)(f:Addr)(cd:Value)(A:Around)(outer:List Env)(s:Shared)(H:Hp)(E:XK):Cx where
 prog:=P
 w:=w
 K:=K
 mg:=mg
 base:=base
 A:=A.deeper (envOfC qual scope s.heap.objs.size f cd)
 N:=N
 s₀:=s
 H₀:=H
 env:=envOfC qual scope s.heap.objs.size f cd
 outer:=outer
 stack:=envOfC qual scope s.heap.objs.size f cd::outer
 ex:=[]
 calm:=true
 fn:=fun _=>true
 pn:=[]
 xe:=fun e s'=>wpAny (model P w) (A.deeper (envOfC qual scope s.heap.objs.size f cd)) (leaving (envOfC qual scope s.heap.objs.size f cd) e) (fun _ s''=>CX outer H s E e s'') (fun e' s''=>CX outer H s E e' s'') s'
theorem mU{sc:Scope}{n:Nat}{x:Str}(h:sc.names.lookup x=some .cell):∃c,(cellsFrom n sc.names []).lookup x=some c:=by
 have q:=PySem.W.cellsFrom_some sc.names n [] (.inl h);exact Option.isSome_iff_exists.mp q
theorem rq{CX:CXT}{P:Program}{w:World}{K:PySem.W.Frag}{mg:Str->Option Value}{base:Heap}{N ps:List Str}{qual:Str}{scope:Scope}{f:Addr}{cd:Value}{A:Around}{outer:List Env}{s s1:Shared}{H:Hp}{E:XK}{us:List Value}{vs:List V}
  (S:dH N ps scope) (hd:A.handled=none) (e0:v3 P w K mg base A outer s H) (hl:vs.length=ps.length) (r:Vals vs us)
  (x:InCallC s s.heap.objs.size (bindL (envOfC qual scope s.heap.objs.size f cd).kindOf (ps.zip us) fun _=>none) (cellsFrom (s.heap.objs.size+1) scope.names []) (bindC (envOfC qual scope s.heap.objs.size f cd).kindOf (ps.zip us) fun _=>none) s1) :
  Inv (oH CX P w K mg base N qual scope f cd A outer s H E) [] (start N vs) H s1:=by
 have hpl:ps.length<=N.length:=by have:=congrArg List.length S.pre;rw[List.length_take]at this;omega
 obtain⟨h1,tk,rfl,hk⟩:=x.done;have noA:∀b:Addr,b∉(oH CX P w K mg base N qual scope f cd A outer s H E).ex:=fun b z=>absurd (show b∈([]:List Addr) from z) (by simp);refine⟨⟨e0.mod,S.kind,rfl,rfl,Nat.le_refl _,fun y z c h1 h2=>?_,fun y hy=>?_,fun y c _ h=>?_,fun _=>hd,Around.frames_deeper e0.frames,.inr ⟨rfl,rfl⟩,fun b z=>absurd z (noA b),e0.bs,e0.bsz,fun b _ _=>noA b,fun b z=>absurd z (noA b),e0.iS,e0.frf⟩,
  rfl,e0.bare,Un.kept hk,⟨_,x.toInCall.ns,fun i y v h1 h2 h3=>?_⟩,fun y c h=>⟨_,x.cell y c h⟩,e0.hok.fresh (Nat.le_refl _),fun y c h=>?_,fun p hp=>absurd (show p∈([]:List (Addr×Obj)) from hp) (by simp),e0.hok.kept hk,?_⟩
 ·exact name_of_addr x.apart (PySem.mem_of_lookup h1) (PySem.mem_of_lookup h2)
 ·have hy:scope.names.lookup y=some .cell\/scope.names.lookup y=some .free:=hy;rcases hy with hy|hy
  ·exact mU hy
  ·exact absurd rfl (S.nofree _ (PySem.mem_of_lookup hy))
 ·exact Nat.le_of_lt (x.above y c (PySem.mem_of_lookup h))
 ·have hi:i<vs.length:=by
   unfold start at h2;by_cases hi:i<vs.length
   ·exact hi
   ·rw[List.getElem?_append_right (by simpa using hi)]at h2;rw[List.getElem?_replicate]at h2;split at h2<;>cases h2
  have ha:vs[i]?=some v:=by
   unfold start at h2;rw[List.getElem?_append_left (by simpa using hi),List.getElem?_map]at h2;cases e:vs[i]? with
   |none=>rw[e]at h2;cases h2
   |some a=>rw[e]at h2;cases h2;rfl
  obtain⟨u,hu,rv⟩:=r.get ha;have hp:ps[i]?=some y:=by
   rw[<-S.pre,List.getElem?_take_of_lt (by omega)];exact h1
  have ndP:ps.Nodup:=by rw[<-S.pre];exact S.nd.sublist (List.take_sublist _ _)
  refine⟨u,rv,?_⟩;rcases S.par y (List.mem_of_getElem? hp) with k|k
  ·exact .inl ⟨k,kz ndP hp hu k⟩
  ·obtain⟨c,e⟩:=mU (n:=s.heap.objs.size+1) k;refine .inr ⟨.inl k,c,e,?_⟩;have q:=x.cell y c e;rw[kA ndP hp hu (by show scope.names.lookup y≠_;rw[k];decide)]at q;exact q
 ·exact e0.hok.fresh (Nat.le_of_lt (x.above y c (PySem.mem_of_lookup h)))
 ·unfold start;show _=N.length;rw[List.length_append,List.length_map,List.length_replicate];omega
theorem Aw{CX:CXT}{P:Program}{w:World}{K:PySem.W.Frag}{mg:Str->Option Value}{base:Heap}{k:Nat}{f:Addr}{name qual:Str}{params:Arguments}{body:List Stmt}{scope:Scope}{dV kV doc pm cdv ct oc:Value}{an od:Option Addr}
  {osl:Array (Option Value)} {N ps:List Str} {sp:Sp} (lk:K.lookup f=some ⟨oc,od,.func (PySem.W.fnOf name qual params body scope dV kV doc pm an cdv ct),osl⟩) (hcd:PySem.W.codeIn K cdv qual=true) (S:dH N ps scope)
  (len:∀vs H Q E,sp vs H Q E->vs.length=ps.length)
  (hbody:∀(A:Around) (outer:List Env) (s:Shared) (H:Hp) (vs:List V) (Q:VK) (E:XK),ft k (A.deeper (envOfC qual scope s.heap.objs.size f cdv))->sp vs H Q E ->
   ∃t,PSs (oH CX P w K mg base N qual scope f cdv A outer s H E) body t/\t {nx:=fun _ H'=>Q .non H',rt:=Q} (start N vs) H) :
  lG P w K mg base CX (k+1) f (PySem.W.fnOf name qual params body scope dV kV doc pm an cdv ct) ps sp:=by
 refine⟨len,fun A outer s H args us vs Q E hr e0 hb r hsp=>?_⟩;have hl:=len _ _ _ _ hsp;have KX:K.In s.heap:=e0.mod.kin.keeps fun b o e=>(e0.bs b o e).1;have lim:s.heap.NoLimit:=e0.mod.nolimit.keeps fun b o e=>(e0.bs b o e).1;have hkind:∀y∈ps.zip us,scope.names.lookup y.1=some .local\/(scope.names.lookup y.1=some .cell/\((cellsFrom (s.heap.objs.size+1) scope.names []).lookup y.1).isSome=true):=fun⟨n,v⟩ hy=>by
  rcases S.par n (List.of_mem_zip hy).1 with q|q
  ·exact .inl q
  ·exact .inr ⟨q,PySem.W.cellsFrom_some _ _ _ (.inl q)⟩
 refine codeAny_call_function hr.depth (KX _ _ lk) rfl S.co S.gen rfl (PySem.W.codeRec_of KX hcd) (hb _ _ _ _ ?_);refine wpAny_newFunctionEnv_cells S.kind hkind fun env he s1 x=>?_;subst he;refine⟨lim.keeps x.toInCall.keep,codeAny_func ?_⟩;obtain⟨t,ht,hq⟩:=hbody A outer s H vs Q E (hr.deeper _) hsp;have I:Inv (oH CX P w K mg base N qual scope f cdv A outer s H E) [] (start N vs) H s1:=rq S hr.hd e0 hl r x;refine wpAny_mono (ht [] s1 (start N vs) H _ I hq) (fun fl s' hs=>?_) fun e s' hs=>hs;have fin:∀{σ':St} {H':Hp} {v:V} {u:Value},Inv (oH CX P w K mg base N qual scope f cdv A outer s H E) [] σ' H' s'->RelV v u->Q v H'->CE outer P w H s Q u s' :=
  fun {σ' H' v u} J rv q=>⟨v,H',J.os,J.bare,J.base,J.hok,rv,q⟩
 cases fl with
 |ret u =>
  obtain⟨v,σ',H',J,rv,q⟩:=hs;exact fin J rv q
 |next =>
  obtain⟨σ',H',J,q⟩:=hs;exact fin (v:=V.non) (u:=Value.none) J rfl q
 |brk =>
  obtain⟨_,_,_,q⟩:=hs;exact False.elim q
 |cont =>
  obtain⟨_,_,_,q⟩:=hs;exact False.elim q
end L2
namespace L2
open PySem PySem.Spec PyProof.Rows
section
variable{X:Cx}{x:Str}{p pos:Pos}{e:Expr}{es:List Expr}{t:TA}{id T:String}{r:List V->Hp->VK->Prop}
end
end L2
namespace HT
open PySem PyProof.Rows
section
open PySem.SeqAt
open PySem.AutoSeq1 (wpAny_loadPart')
open PySem.MeetsSeq PySem.MeetsSeq2 PySem.MeetsSeq3
end
section
variable{prog:Program}{w:World}{A:Around}{E:Value->Shared->Prop}{s:Shared}
theorem v5{t b:Addr}{vs ws:List Value}{Q:Value->Shared->Prop}(ht:IsTup s.heap t vs.toArray)(hb:IsTup s.heap b ws.toArray)(hv:vs≠[])
  (h1:ws=[]->Q (.ref t) s) (h2:ws≠[]->Q (.ref s.heap.objs.size) {s with heap:=s.heap.push {cls:=.type "tuple",data:=.seq (vs++ws).toArray}})
  (hsz:vs.length+ws.length<=sizeLine):wpAny (model prog w) A (binaryOp .Add (.ref t) (.ref b)) Q E s:=by
 obtain⟨⟨cls,dd,data,sl⟩,ho,hc,n,hd⟩:=id ht;obtain⟨⟨cls2,dd2,data2,sl2⟩,ho2,hc2,n2,hd2⟩:=id hb;simp only at hc hd hc2 hd2;subst hc hd hc2 hd2;have e:vs.toArray++ws.toArray=(vs++ws).toArray:=by simp
 by_cases hw:ws=[]
 ·exact concat_meets ⟨_,ho,rfl⟩ ⟨_,ho2,rfl⟩ noFill_tuple_add seq_tuple_add PySem.F.slot_tuple_add PySem.F.entry_tuple_add (PySem.F.args_tuple_add_2 _ _)
   (tuple_addW1 t b vs.toArray ws.toArray n n2 dd dd2 sl sl2 (by simpa using hv) (by simp[hw])) ⟨ho,ho2,h1 hw⟩
 ·refine concat_meets ⟨_,ho,rfl⟩ ⟨_,ho2,rfl⟩ noFill_tuple_add seq_tuple_add PySem.F.slot_tuple_add PySem.F.entry_tuple_add (PySem.F.args_tuple_add_2 _ _)
   (tuple_addW2 t b vs.toArray ws.toArray n n2 dd dd2 sl sl2 (by simpa using hv) (by simpa using hw) (by rw[List.size_toArray,List.size_toArray];exact hsz)) ⟨ho,ho2,?_⟩
  rw[e];exact h2 hw
noncomputable def sIx(n d:Nat):Option Int->Nat
 |none=>d
 |some v=>if v<0 then(v+(n:Int)).toNat else min v.toNat n
theorem v7(n d k:Nat):sIx n d (some (k:Int))=min k n:=by
 show(if (k:Int)<0 then((k:Int)+(n:Int)).toNat else min (k:Int).toNat n)=min k n;rw[if_neg (by omega),Int.toNat_natCast]
theorem yE(n d:Nat)(hd:d<=n)(o:Option Int):sIx n d o<=n:=by
 cases o with
 |none=>exact hd
 |some v =>
  show(if v<0 then(v+(n:Int)).toNat else min v.toNat n)<=n;by_cases hv:v<0
  ·rw[if_pos hv];omega
  ·rw[if_neg hv];exact Nat.min_le_right _ _
theorem qa(v:Int)(n d:Nat):(if v<0 then max (v+(n:Int)) 0 else min v (n:Int))=((sIx n d (some v):Nat):Int):=by
 show(if v<0 then max (v+(n:Int)) 0 else min v (n:Int))=(((if v<0 then(v+(n:Int)).toNat else min v.toNat n):Nat):Int)
 by_cases hv:v<0
 ·simp only[if_pos hv];omega
 ·simp only[if_neg hv];omega
theorem oI(lo hi:Option Int)(n:Nat):Builtin.Slice.sliceAdjust lo hi 1 (n:Int)=(((sIx n 0 lo:Nat):Int),((sIx n n hi:Nat):Int)):=by
 have h1:¬((1:Int)<0):=by omega
 unfold Builtin.Slice.sliceAdjust;simp only[h1,if_false];refine Prod.ext ?_ ?_
 ·cases lo with
  |none=>rfl
  |some v=>exact qa v n 0
 ·cases hi with
  |none=>rfl
  |some v=>exact qa v n n
theorem oJ(i j:Nat):Builtin.Slice.slicePlaces (i:Int) (j:Int) 1=j - i:=by
 unfold Builtin.Slice.slicePlaces;have h1:(1:Int)>0:=by omega
 simp only[h1,if_true,Int.ediv_one];split<;>omega
theorem i_{v:Value}{o:Option Int}{Q:Option Int->Shared->Prop}(p:IsPart v o)(h:Q o s):wpAny (model prog w) A (Builtin.Slice.slicePartIndex v) Q E s:=by
 cases p with
 |none=>exact slicePart_none h
 |int i t=>exact slicePart_int h
theorem dq{sl:Addr}{vl vu:Value}{lo hi:Option Int}{n:Nat}{Q:Int×Int×Nat->Shared->Prop}(hs:s.heap.IsSliceOf sl vl vu .none)(pl:IsPart vl lo)(pu:IsPart vu hi)
  (h:Q (((sIx n 0 lo:Nat):Int),1,sIx n n hi - sIx n 0 lo) s):wpAny (model prog w) A (Builtin.Slice.sliceApplied (.ref sl) (pure (n:Int))) Q E s:=by
 obtain⟨os,hos,hcs,hds⟩:=id hs;unfold Builtin.Slice.sliceApplied Builtin.Slice.sliceFields;refine wpAny_bind (wpAny_bind (wpAny_field hos hds (x:=vl) rfl (wpAny_bind (wpAny_field hos hds (x:=vu) rfl (wpAny_bind (wpAny_field hos hds (x:=.none) rfl (wpAny_pure ?_)))))));refine wpAny_bind (slicePart_none ?_);show wpAny _ _ (if ((1:Int)==0)=true then _ else _) _ _ s;rw[if_neg (by decide)];refine wpAny_bind (i_ pl (wpAny_bind (i_ pu (wpAny_bind (wpAny_pure ?_)))));show wpAny _ _ (match Builtin.Slice.sliceAdjust lo hi 1 (n:Int) with|(lo,hi)=>pure (lo,(1:Int),Builtin.Slice.slicePlaces lo hi 1)) _ _ s;rw[oI lo hi n];show wpAny _ _ (pure (((sIx n 0 lo:Nat):Int),(1:Int),Builtin.Slice.slicePlaces ((sIx n 0 lo:Nat):Int) ((sIx n n hi:Nat):Int) 1)) _ _ s;rw[oJ];exact wpAny_pure h
theorem sX(xs:Array Value)(i k:Nat):((List.range k).filterMap fun(m:Nat)=>xs[((i:Int)+(m:Int) * 1).toNat]?).toArray=((xs.toList.drop i).take k).toArray:=by
 have e:(fun(m:Nat)=>xs[((i:Int)+(m:Int) * 1).toNat]?)=fun m=>xs[i+m]?:=by
  funext m
  have:((i:Int)+(m:Int) * 1).toNat=i+m:=by omega
  rw[this]
 rw[e];have:=pick_run xs i k;rw[List.filterMap_map]at this;have e2:((fun x=>xs[x]?) ∘ fun x=>i+x)=fun m=>xs[i+m]?:=rfl;rw[e2]at this;rw[this]
theorem f7{t sl:Addr}{items:Array Value}{vl vu:Value}{lo hi:Option Int}{Q:Value->Shared->Prop}(ht:IsTup s.heap t items)(hs:s.heap.IsSliceOf sl vl vu .none)(pl:IsPart vl lo)(pu:IsPart vu hi)
  (hw:¬(sIx items.size 0 lo=0/\sIx items.size items.size hi=items.size))
  (h:Q (.ref s.heap.objs.size) {s with heap:=s.heap.push {cls:=.type "tuple",data:=.seq ((items.toList.drop (sIx items.size 0 lo)).take (sIx items.size items.size hi - sIx items.size 0 lo)).toArray}})
  (hsz:items.size<=sizeLine):wpAny (model prog w) A (getItem (.ref t) (.ref sl)) Q E s:=by
 have htake:sizeOk (.seq ((items.toList.drop (sIx items.size 0 lo)).take (sIx items.size items.size hi - sIx items.size 0 lo)).toArray):=by
  show((items.toList.drop (sIx items.size 0 lo)).take (sIx items.size items.size hi - sIx items.size 0 lo)).toArray.size<=sizeLine;rw[List.size_toArray,List.length_take,List.length_drop,Array.length_toList];omega
 have hj:sIx items.size items.size hi<=items.size:=yE _ _ (Nat.le_refl _) hi;obtain⟨os,hos,hcs,hds⟩:=id hs;have hTs:s.TypeIs (.ref sl) "slice":=⟨os,hos,hcs⟩
 unfold getItem
 try with_reducible refine wpAny_holding ?_
 first|refine wpAny_bind (wpAny_pure ?_)|skip
 refine wpAny_bind (wpAny_sequenceKey ht.typeIs (by decide) ?_);refine wpAny_bind (wpAny_callSpecial?_slot (name:=Str.ofString "__getitem__") ht.typeIs PyProof.Rows.slot_tuple_getitem
  (wpAny_call_entry PyProof.Rows.slot_tuple_getitem ht.typeIs entry_tuple_getitem ?_ (args_tuple_getitem _ _)))
 show wpAny _ _ (Builtin.Tuple.tupleItemsOf (.ref t) >>= _) _ _ s;refine wpAny_bind (tupleItemsOf_ ht ?_);refine wpAny_bind (wpAny_typeOf hTs ?_);rw[if_pos (by decide)];refine wpAny_bind (dq hs pl pu ?_);have hno:¬((((sIx items.size 0 lo:Nat):Int)==0&&(1:Int)==1&&(sIx items.size items.size hi - sIx items.size 0 lo)==items.size)=true):=by
  intro q;rw[Bool.and_eq_true,Bool.and_eq_true]at q;have q1:((sIx items.size 0 lo:Nat):Int)=0:=eq_of_beq q.1.1;have q2:sIx items.size items.size hi - sIx items.size 0 lo=items.size:=eq_of_beq q.2;exact hw ⟨by omega,by omega⟩
 show wpAny _ _ (if (((sIx items.size 0 lo:Nat):Int)==0&&(1:Int)==1&&(sIx items.size items.size hi - sIx items.size 0 lo)==items.size)=true then _ else _) _ _ s;rw[if_neg hno,sX]
 first
  |exact wpAny_bind (m:=Builtin.Tuple.tupleExact _) (wpAny_newObj_type (wpAny_pure ⟨_,rfl,wpAny_pure h⟩) htake)
  |exact wpAny_bind (m:=Builtin.Tuple.tupleExact _) (wpAny_newObj_type (wpAny_bind (wpAny_pure (wpAny_pure ⟨_,rfl,wpAny_pure h⟩))) htake)
  |exact wpAny_bind (wpAny_bind (m:=Builtin.Tuple.tupleExact _) (wpAny_newObj_type (wpAny_pure (wpAny_pure ⟨_,rfl,wpAny_pure h⟩)) htake))
  |exact wpAny_bind (wpAny_bind (m:=Builtin.Tuple.tupleExact _) (wpAny_newObj_type (wpAny_pure ⟨_,rfl,wpAny_pure h⟩) htake))
end
end HT
namespace L2
open PySem PySem.Spec PyProof.Rows
noncomputable abbrev TO:=St->Hp->(Option Int->Hp->Prop)->Prop
noncomputable def PO(X:Cx)(e:Option Expr)(t:TO):Prop :=
 ∀(pins:List (Addr×Obj)) (s:Shared) (σ:St) (H:Hp) (Q:Option Int->Hp->Prop),Inv X pins σ H s->t σ H Q ->
  wpAny (model X.prog X.w) X.A (evalPart e X.env) (fun u s'=>∃o H',Inv X pins σ H' s'/\IsPart u o/\Q o H') X.xe s
noncomputable def v8:TO:=fun _ H Q=>Q none H
noncomputable def Ax(t:TE):TO:=fun σ H Q=>t σ H fun x H1=>∃i,x=.int i/\Q (some i) H1
section
variable{X:Cx}{e:Expr}{te:TE}{lo hi:Option Expr}{tl th:TO}{pos p2:Pos}
theorem v9:PO X none v8:=by
 intro pins s σ H Q I h;rw[evalPart_none];exact wpAny_pure ⟨none,H,I,.none,h⟩
theorem v_(h:PE X e te):PO X (some e) (Ax te):=by
 intro pins s σ H Q I hw;rw[evalPart_some];refine thn (h pins s σ H _ I hw) fun u s1 ⟨x,H1,I1,r1,q1⟩=>?_;obtain⟨i,rfl,q⟩:=q1;obtain⟨t,rfl⟩:=r1;exact⟨some i,H1,I1,.int i t,q⟩
noncomputable def SlR(X:Cx)(r:V->Option Int->Option Int->Hp->VK->Prop):Prop :=
 ∀(pins:List (Addr×Obj)) (s:Shared) (σ:St) (H:Hp) (x:V) (v vl vu:Value) (lo hi:Option Int) (sl:Addr) (Q:VK),Inv X pins σ H s->RelV x v->s.heap.IsSliceOf sl vl vu .none->IsPart vl lo->IsPart vu hi->r x lo hi H Q ->
  ∃T id,typeLookup (.type T) "__getitem__"=pure (some (.builtin id))/\s.TypeIs v T/\wpAny (model X.prog X.w) X.A (getItem v (.ref sl)) (EP X pins σ Q) X.xe s
theorem SlR.or{r r':V->Option Int->Option Int->Hp->VK->Prop}(h:SlR X r)(h':SlR X r'):SlR X (fun x lo hi H Q=>r x lo hi H Q\/r' x lo hi H Q):=by
 intro pins s σ H x v vl vu lo hi sl Q I rx hs pl pu q;rcases q with q|q
 ·exact h pins s σ H x v vl vu lo hi sl Q I rx hs pl pu q
 ·exact h' pins s σ H x v vl vu lo hi sl Q I rx hs pl pu q
noncomputable def tSl(r:V->Option Int->Option Int->Hp->VK->Prop)(te:TE)(tl th:TO):TE:=fun σ H Q=>te σ H fun x H1=>tl σ H1 fun l H2=>th σ H2 fun u H3=>r x l u H3 Q
theorem sY{r:V->Option Int->Option Int->Hp->VK->Prop}(hr:SlR X r)(he:PE X e te)(hl:PO X lo tl)(hu:PO X hi th):PE X (.Subscript e (.Slice lo hi none p2) pos) (tSl r te tl th):=by
 intro pins s σ H Q I h;refine Subscript_ (thn (he pins s σ H _ I h) fun v s1 ⟨x,H1,I1,r1,q1⟩=>?_);refine wpAny_Slice (thn (hl pins s1 σ H1 _ I1 q1) fun vl s2 ⟨l,H2,I2,pl,q2⟩=>thn (hu pins s2 σ H2 _ I2 q2) fun vu s3 ⟨u,H3,I3,pu,q3⟩=>?_);rw[evalPart_none];refine wpAny_pure ?_;have I4:Inv X pins σ H3 {s3 with heap:=s3.heap.push {cls:=.type "slice",data:=.fields #[vl,vu,.none]}}:=I3.kept (t':=s3.toks) fun b ob q=>Heap.get?_push_of_some _ q;obtain⟨T,id,hT,ht,hg⟩:=hr pins {s3 with heap:=s3.heap.push {cls:=.type "slice",data:=.fields #[vl,vu,.none]}} σ H3 x v vl vu l u s3.heap.objs.size Q I4 r1 (Heap.IsSliceOf.new ..) pl pu q3;show wpAny (model X.prog X.w) X.A (subscriptTail e (.Slice lo hi none p2) v (.ref s3.heap.objs.size)) (EP X pins σ Q) X.xe {s3 with heap:=s3.heap.push {cls:=.type "slice",data:=.fields #[vl,vu,.none]}};exact tail_any (ops:=[.ref s3.heap.objs.size,v]) ht hT hg (by with_unfolding_all rfl)
noncomputable def mV(xs:List V)(lo hi:Option Int):List V:=(xs.drop (HT.sIx xs.length 0 lo)).take (HT.sIx xs.length xs.length hi - HT.sIx xs.length 0 lo)
theorem hU(xs:List V)(lo hi:Option Int):(mV xs lo hi).length<=xs.length:=by
 unfold mV;rw[List.length_take,List.length_drop];omega
noncomputable def Ay(K:PySem.W.Frag):V->Option Int->Option Int->Hp->VK->Prop:=fun x lo hi H Q=>∃a xs,x=.ref a/\SqT K H a xs /\
 ¬(HT.sIx xs.length 0 lo=0/\HT.sIx xs.length xs.length hi=xs.length)/\∀p,H p=none->Q (.ref p) (upd H p (.tup (mV xs lo hi)))
theorem yF:SlR X (Ay X.K):=by
 intro pins s σ H x v vl vu lo hi sl Q I rx hs pl pu h;obtain⟨a,xs,rfl,hx,hw,q⟩:=h;cases rx;obtain⟨its,r,ht,hz⟩:=I.tuple hx;have hlen:its.toArray.size=xs.length:=by rw[List.size_toArray];exact r.length.symm
 refine⟨"tuple",_,PyProof.Rows.slot_tuple_getitem.lookup,ht.typeIs,?_⟩;refine HT.f7 ht hs pl pu (by rw[hlen];exact hw) ?_ (by rw[hlen];exact hz);rw[hlen];refine⟨.ref s.heap.objs.size,_,I.laid (t':=s.toks) (o:=.tup (mV xs lo hi)) (fun b ob q=>Heap.get?_push_of_some _ q) (Nat.le_refl _) ?_,rfl,q _ (I.hok.fresh (Nat.le_refl _))⟩;exact⟨Nat.le_trans (hU xs lo hi) hz,_,(r.drop (HT.sIx xs.length 0 lo)).take (HT.sIx xs.length xs.length hi - HT.sIx xs.length 0 lo),IsTup.new _ _⟩
noncomputable def Az(K:PySem.W.Frag):R2:=fun x y H Q=>∃a b xs ys,x=.ref a/\y=.ref b/\SqT K H a xs/\SqT K H b ys/\xs≠[]/\xs.length+ys.length<=sizeLine /\
 (ys=[]->Q (.ref a) H)/\(ys≠[]->∀p,H p=none->Q (.ref p) (upd H p (.tup (xs++ys))))
theorem Vals.lH{xs:List V}{us:List Value}(r:Vals xs us):us=[]↔xs=[]:=by
 cases r with
 |nil=>simp
 |cons _ _=>simp
theorem wa:OpR X (binaryOp .Add) (Az X.K):=by
 intro pins s σ H x y v u Q I rx ry h;obtain⟨a,b,xs,ys,rfl,rfl,ha,hb,hx,hz,q1,q2⟩:=h;cases rx;cases ry;obtain⟨its,r1,p1,_⟩:=I.tuple ha;obtain⟨its2,r2,p2,_⟩:=I.tuple hb;refine HT.v5 p1 p2 (fun z=>hx (r1.lH.mp z)) (fun z=>⟨.ref a,H,I,rfl,q1 (r2.lH.mp z)⟩) (fun z=>?_) (by rw[<-r1.length,<-r2.length];exact hz);refine⟨.ref s.heap.objs.size,_,I.laid (t':=s.toks) (o:=.tup (xs++ys)) (fun b ob q=>Heap.get?_push_of_some _ q) (Nat.le_refl _) ?_,rfl,q2 (fun w=>z (r2.lH.mpr w)) _ (I.hok.fresh (Nat.le_refl _))⟩;exact⟨by rw[List.length_append];exact hz,_,r1.append r2,IsTup.new _ _⟩
end
end L2
namespace L2
open PySem PySem.Spec PyProof.Rows
noncomputable def ixN(n:Nat)(i:Int):Option Nat:=if 0<=i then(if i<n then some i.toNat else none) else if -(n:Int)<=i then some (i+n).toNat else none
noncomputable def atI{α:Type}(xs:List α)(i:Int):Option α:=(ixN xs.length i).bind fun j=>xs[j]?
theorem qb{n:Nat}{i:Int}{j:Nat}(h:ixN n i=some j):seqIndex? i n=some j/\j<n/\-(n:Int)<=i/\i<n:=by
 unfold ixN at h;by_cases h0:0<=i
 ·rw[if_pos h0]at h;by_cases h1:i<n
  ·rw[if_pos h1]at h;have e:i.toNat=j:=Option.some.inj h;exact⟨by rw[seqIndex_of h0 h1,e],by omega,by omega,h1⟩
  ·rw[if_neg h1]at h;cases h
 ·rw[if_neg h0]at h;by_cases h1:-(n:Int)<=i
  ·rw[if_pos h1]at h;have e:(i+n).toNat=j:=Option.some.inj h;exact⟨by rw[seqIndex_neg (by omega) h1,e],by omega,h1,by omega⟩
  ·rw[if_neg h1]at h;cases h
theorem lI{α:Type}{xs:List α}{i:Int}{v:α}(h:atI xs i=some v):∃j,seqIndex? i xs.length=some j/\xs[j]?=some v/\j<xs.length/\-(xs.length:Int)<=i/\i<xs.length:=by
 unfold atI at h;cases e:ixN xs.length i with
 |none=>rw[e]at h;cases h
 |some j =>
  rw[e]at h;obtain⟨h1,h2,h3,h4⟩:=qb e;exact⟨j,h1,h,h2,h3,h4⟩
theorem bq{α:Type}{xs:List α}{j:Nat}{v:α}(h:xs[j]?=some v):atI xs (j:Int)=some v:=by
 have hj:j<xs.length:=(List.getElem?_eq_some_iff.mp h).1;have e:ixN xs.length (j:Int)=some j:=by
  unfold ixN;rw[if_pos (by omega),if_pos (by omega)];simp
 unfold atI;rw[e];exact h
noncomputable def lJ(b:Expr):Prop:=∀o i,subscripted b false o i=operate [o,i] (getItem o i)
noncomputable def IxR(X:Cx)(r:R2):Prop :=
 ∀(value slice:Expr) (pins:List (Addr×Obj)) (s:Shared) (σ:St) (H:Hp) (x y:V) (v u:Value) (Q:VK),Inv X pins σ H s->RelV x v->RelV y u->r x y H Q ->
  subscripted slice false v u=operate [v,u] (getItem v u)->wpAny (model X.prog X.w) X.A (subscriptTail value slice v u) (EP X pins σ Q) X.xe s
noncomputable def MtR(X:Cx)(id:String)(r:V->List V->Hp->VK->Prop):Prop :=
 ∀(pins:List (Addr×Obj)) (s:Shared) (σ:St) (H:Hp) (x:V) (xs:List V) (v:Value) (us:List Value) (Q:VK),Inv X pins σ H s->RelV x v->Vals xs us->r x xs H Q ->
  wpAny (model X.prog X.w) X.A (call (.builtin id) (v::us)) (EP X pins σ Q) X.xe s
section
variable{X:Cx}{a b:Expr}{ta tb:TE}{pos:Pos}
noncomputable def BL(K:PySem.W.Frag):R2:=fun x y H Q=>∃p xs i v,x=.ref p/\y=.int i/\SqL K H p xs/\atI xs i=some v/\Q v H
noncomputable def BM(K:PySem.W.Frag):R2:=fun x y H Q=>∃p xs i v,x=.ref p/\y=.int i/\SqT K H p xs/\atI xs i=some v/\Q v H
noncomputable def BN:R2:=fun x y H Q=>∃z i c,x=.str z/\y=.int i/\z.length<=sizeLine/\atI z.cps.toList i=some c/\Q (.str ⟨#[c]⟩) H
theorem wb:IxR X (BL X.K):=by
 intro value slice pins s σ H x y v u Q I rx ry h hs;obtain⟨p,xs,i,z,rfl,rfl,hq,he,q⟩:=h;cases rx;obtain⟨t,rfl⟩:=ry;obtain⟨its,r,pl,hz⟩:=I.list hq;obtain⟨j,h1,h2,h3,h4,h5⟩:=lI he;obtain⟨w,ew,rw'⟩:=r.get h2;have hl:=r.length;have hn:=fI;have fin:EP X pins σ Q w s:=⟨z,H,I,rw',q⟩
 by_cases h0:0<=i
 ·have hj:i.toNat=j:=by
   rw[seqIndex_of h0 h5]at h1;exact Option.some.inj h1
  exact item_listR pl.isList h0 (by omega) (by rw[hj];simpa using ew) fin hs
 ·have hj:(i+(its.toArray.size:Int)).toNat=j:=by
   rw[seqIndex_neg (by omega) h4]at h1;rw[List.size_toArray,<-hl];exact Option.some.inj h1
  exact subscriptTail_builtinR (x:=w) pl.isList.typeIs slot_list_getitem.lookup
   (wpAny_getItem_list_neg (Q:=fun r s'=>r=w/\EP X pins σ Q r s') pl.isList (by omega) (by rw[List.size_toArray]<;>omega) (by omega) (by rw[hj];simpa using ew) ⟨rfl,fin⟩) hs
theorem oK:IxR X (BM X.K):=by
 intro value slice pins s σ H x y v u Q I rx ry h hs;obtain⟨p,xs,i,z,rfl,rfl,hq,he,q⟩:=h;cases rx;obtain⟨t,rfl⟩:=ry;obtain⟨its,r,pl,hz⟩:=I.tuple hq;obtain⟨j,h1,h2,h3,h4,h5⟩:=lI he;obtain⟨w,ew,rw'⟩:=r.get h2;have hl:=r.length;have hn:=fI;have fin:EP X pins σ Q w s:=⟨z,H,I,rw',q⟩
 exact subscriptTail_builtinR (x:=w) pl.typeIs slot_tuple_getitem.lookup
  (getItem_tuple (j:=j) (Q:=fun r s'=>r=w/\EP X pins σ Q r s') pl (by omega) (by omega) (by rw[List.size_toArray,<-hl];exact h1) (by simpa using ew) ⟨rfl,fin⟩) hs
theorem ja:IxR X BN:=by
 intro value slice pins s σ H x y v u Q I rx ry h hs;obtain⟨z,i,c,rfl,rfl,hz,he,q⟩:=h;obtain⟨t,rfl⟩:=rx;obtain⟨t',rfl⟩:=ry;obtain⟨j,h1,h2,h3,h4,h5⟩:=lI he;have hl:z.cps.toList.length=z.length:=by simp[Str.length]
 rw[hl]at h1 h4 h5;have hn:=fI;exact tail_any (typeIs_str s z t) slot_str_getitem.lookup (getItem_str (c:=c) (by
  have e1:decide (i < -(2 ^ 63:Int))=false:=decide_eq_false (by omega);have e2:decide (i >= 2 ^ 63)=false:=decide_eq_false (by omega);rw[e1,e2,Bool.or_false]) (by rw[h1];simpa using h2) ⟨.str ⟨#[c]⟩,H,I.tok _,⟨_,rfl⟩,q⟩) hs
theorem oM(its:List Value)(n j:Nat)(u:Value):Obj.mapSeq (·.setIfInBounds j u) {cls:=.type "list",data:=.seq its.toArray n}={cls:=.type "list",data:=.seq (its.set j u).toArray n}:=by
 simp[Obj.mapSeq]
theorem Inv.lst{pins:List (Addr×Obj)}{σ:St}{H:Hp}{s:Shared}{p:Addr}{xs:List V}(I:Inv X pins σ H s)(h:H p=some (.lst xs)):
  ∃(its:List Value) (n:Nat),Vals xs its/\s.heap.get? p=some {cls:=.type "list",data:=.seq its.toArray n}/\xs.length<=sizeLine:=by
 obtain⟨z,its,n,r,e⟩:=I.hok p _ h;exact⟨its,n,r,e,z⟩
theorem Inv.yG{pins:List (Addr×Obj)}{σ:St}{H:Hp}{s:Shared}{p:Addr}{xs ys:List V}{its its':List Value}{n n':Nat}{f:Obj->Obj}(I:Inv X pins σ H s)(h:H p=some (.lst xs))
  (ho:s.heap.get? p=some {cls:=.type "list",data:=.seq its.toArray n}) (hf:f {cls:=.type "list",data:=.seq its.toArray n}={cls:=.type "list",data:=.seq its'.toArray n' }) (r:Vals ys its') (hz:ys.length<=sizeLine) (t:Nat) :
  Inv X pins σ (upd H p (.lst ys)) {s with heap:=s.heap.update p f,toks:=t}:=by
 have e:(s.heap.update p f).get? p=some {cls:=.type "list",data:=.seq its'.toArray n' }:=by
  rw[Heap.get?_update_self f ho (by rw[hf]<;>rfl),hf]
 refine I.write (x:=p) (e:=p) (by rw[h];trivial) (.inl rfl) (fun b u hb q=>(Heap.get?_update_other _ _ (Ne.symm hb)).trans q) ⟨_,e⟩ ?_;exact⟨hz,its',n',r,e⟩
noncomputable def AA:V->V->V->Hp->(Hp->Prop)->Prop:=fun o i v H Q=>∃p xs k j,o=.ref p/\i=.int k/\H p=some (.lst xs)/\ixN xs.length k=some j/\Q (upd H p (.lst (xs.set j v)))
theorem set_list:j9 X AA:=by
 intro pins s σ H o i v ov iv u Q I ro ri rv h;obtain⟨p,xs,k,j,rfl,rfl,hp,hj,q⟩:=h;cases ro;obtain⟨t,rfl⟩:=ri;obtain⟨its,n,r,ho,hz⟩:=I.lst hp;obtain⟨h1,h2,h3,h4⟩:=qb hj;have hl:=r.length;have hn:=fI;have I':Inv X pins σ (upd H p (.lst (xs.set j v))) {s with heap:=s.heap.update p (Obj.mapSeq (·.setIfInBounds j u))} :=
  I.yG hp ho (oM its n j u) (r.set rv j) (by rw[List.length_set];exact hz) s.toks
 by_cases h0:0<=k
 ·have hk:k.toNat=j:=by
   rw[seqIndex_of h0 h4]at h1;exact Option.some.inj h1
  exact PySem.W.ki_setAt ho h0 (by omega) (by rw[List.size_toArray,<-hl];exact h4) (by rw[hk];exact⟨_,I',q⟩)
 ·have hk:(k+(its.toArray.size:Int)).toNat=j:=by
   rw[seqIndex_neg (by omega) h3]at h1;rw[List.size_toArray,<-hl];exact Option.some.inj h1
  exact PySem.W.ki_setBack ho (by omega) (by rw[List.size_toArray,<-hl];exact h3) (by omega) (by rw[hk];exact⟨_,I',q⟩)
theorem lK(lo hi:Option Int)(n:Nat):(sliceBounds lo hi none n).1=((HT.sIx n 0 lo:Nat):Int)/\(sliceBounds lo hi none n).2.1=((HT.sIx n n hi:Nat):Int)/\(sliceBounds lo hi none n).2.2=1:=by
 refine⟨?_,?_,rfl⟩
 ·cases lo with
  |none=>simp[sliceBounds,HT.sIx]
  |some i =>
   simp only[sliceBounds,HT.sIx,Option.getD_none,show(1:Int)>0 by decide,if_true];by_cases h:i<0
   ·simp only[h,if_true]<;>omega
   ·simp only[h,if_false]<;>omega
 ·cases hi with
  |none=>simp[sliceBounds,HT.sIx]
  |some i =>
   simp only[sliceBounds,HT.sIx,Option.getD_none,show(1:Int)>0 by decide,if_true];by_cases h:i<0
   ·simp only[h,if_true]<;>omega
   ·simp only[h,if_false]<;>omega
theorem j_(its:List Value)(lo hi:Option Int):slicePick its.toArray lo hi none=((its.drop (HT.sIx its.length 0 lo)).take (HT.sIx its.length its.length hi - HT.sIx its.length 0 lo)).toArray:=by
 obtain⟨h1,h2,h3⟩:=lK lo hi its.toArray.size;unfold slicePick;rw[h1,h2,h3];simp only[sliceRange_one,pick_run,List.size_toArray]<;>rfl
noncomputable def AB(K:PySem.W.Frag):V->Option Int->Option Int->Hp->VK->Prop:=fun x lo hi H Q=>∃a xs,x=.ref a/\SqL K H a xs/\∀p,H p=none->Q (.ref p) (upd H p (.lst (mV xs lo hi)))
theorem wc:SlR X (AB X.K):=by
 intro pins s σ H x v vl vu lo hi sl Q I rx hs pl pu h;obtain⟨a,xs,rfl,hx,q⟩:=h;cases rx;obtain⟨its,r,ht,hz⟩:=I.list hx;have hlen:=r.length;refine⟨"list",_,slot_list_getitem.lookup,ht.isList.typeIs,?_⟩;refine wpAny_getItem_list_slice ht.isList hs pl pu .none (by simp) ?_ (by rw[List.size_toArray]<;>omega);rw[j_,<-hlen];refine⟨.ref s.heap.objs.size,_,I.laid (t':=s.toks) (o:=.lst (mV xs lo hi)) (fun b ob q=>Heap.get?_push_of_some _ q) (Nat.le_refl _) ?_,rfl,q _ (I.hok.fresh (Nat.le_refl _))⟩;exact⟨Nat.le_trans (hU xs lo hi) hz,_,0,(r.drop (HT.sIx xs.length 0 lo)).take (HT.sIx xs.length xs.length hi - HT.sIx xs.length 0 lo),Heap.get?_push_size _ rfl⟩
theorem f9:d5 X (.builtin "len") (fun xs H Q=>∃p ys,xs=[.ref p]/\(SqL X.K H p ys\/SqT X.K H p ys)/\Q (.int ys.length) H):=by
 intro pins s σ H xs us Q I r h;obtain⟨p,ys,rfl,hq,q⟩:=h;obtain⟨u,rfl,rx⟩:=vals1 r;cases rx;have hn:=fI;rcases hq with hq|hq
 ·obtain⟨its,r',pl,hz⟩:=I.list hq;have hlen:=r'.length;exact Calls.call_len_list pl.isList (by simp only[List.size_toArray]<;>omega) ⟨.int ys.length,H,I.tok _,⟨s.toks+1,by rw[List.size_toArray,hlen]⟩,q⟩
 ·obtain⟨its,r',pl,hz⟩:=I.tuple hq;have hlen:=r'.length;exact len_tuple pl (by simp only[List.size_toArray]<;>omega) ⟨.int ys.length,H,I.tok _,⟨s.toks+1,by rw[List.size_toArray,hlen]⟩,q⟩
theorem lL:d5 X (.builtin "len") (fun xs H Q=>∃z,xs=[.str z]/\z.length<=sizeLine/\Q (.int z.length) H):=by
 intro pins s σ H xs us Q I r h;obtain⟨z,rfl,hz,q⟩:=h;obtain⟨u,rfl,t,rfl⟩:=vals1 r;have hn:=fI;exact len_str (by omega) ⟨.int z.length,H,I.tok _,⟨_,rfl⟩,q⟩
theorem f_:d5 X (.type "list") (fun xs H Q=>∃p ys,xs=[.ref p]/\(SqL X.K H p ys\/SqT X.K H p ys)/\∀l,H l=none->Q (.ref l) (upd H l (.lst ys))):=by
 intro pins s σ H xs us Q I r h;obtain⟨p,ys,rfl,hq,q⟩:=h;obtain⟨u,rfl,rx⟩:=vals1 r;cases rx;have fin:∀(its:List Value),Vals ys its->ys.length<=sizeLine->∀(h':Heap) (c':Nat),(∀b o',s.heap.get? b=some o'->h'.get? b=some o') ->
   h'.get? s.heap.objs.size=some {cls:=.type "list",dict:=none,data:=.seq its.toArray c',slots:=#[]}->EP X pins σ Q (.ref s.heap.objs.size) {s with heap:=h' }:=fun its r' hz h' c' kp e =>
  ⟨.ref s.heap.objs.size,_,I.laid (t':=s.toks) kp (Nat.le_refl _) (show bI X.prog X.w _ h' _ (.lst ys) from⟨hz,its,c',r',e⟩),rfl,q _ (I.hok.fresh (Nat.le_refl _))⟩
 rcases hq with hq|hq
 ·obtain⟨its,r',pl,hz⟩:=I.list hq;have hlen:=r'.length;obtain⟨o,ho,hc,n,hd⟩:=pl.isList;exact call_list_seq p (.inl rfl) ho hc hd (fun h' c' kp e=>fin its r' hz h' c' kp e) (by simp only[List.size_toArray]<;>omega)
 ·obtain⟨its,r',pl,hz⟩:=I.tuple hq;have hlen:=r'.length;obtain⟨o,ho,hc,n,hd⟩:=pl;exact call_list_seq p (.inr rfl) ho hc hd (fun h' c' kp e=>fin its r' hz h' c' kp e) (by simp only[List.size_toArray]<;>omega)
theorem fA:d5 X (.type "tuple") (fun xs H Q=>∃p ys,xs=[.ref p]/\((SqL X.K H p ys/\∀l,H l=none->Q (.ref l) (upd H l (.tup ys)))\/(SqT X.K H p ys/\Q (.ref p) H))):=by
 intro pins s σ H xs us Q I r h;obtain⟨p,ys,rfl,h⟩:=h;obtain⟨u,rfl,rx⟩:=vals1 r;cases rx;rcases h with⟨hq,q⟩|⟨hq,q⟩
 ·obtain⟨its,r',pl,hz⟩:=I.list hq;have hlen:=r'.length;refine call_tuple_list pl.isList (fun h' kp=>?_) (by simp only[List.size_toArray]<;>omega);have I1:Inv X pins σ H {s with heap:=h' }:=I.kept (t':=s.toks) kp;have I2:Inv X pins σ (upd H h'.objs.size (.tup ys)) {s with heap:=h'.push {cls:=.type "tuple",data:=.seq its.toArray}} :=
   I1.laid (t':=s.toks) (fun b o e=>Heap.get?_push_of_some _ e) (Nat.le_refl _) (show bI X.prog X.w _ _ _ (.tup ys) from⟨hz,its,r',IsTup.new _ _⟩)
  exact⟨.ref h'.objs.size,_,I2,rfl,q _ (I1.hok.fresh (Nat.le_refl _))⟩
 ·obtain⟨its,r',pl,hz⟩:=I.tuple hq;exact call_tuple_same pl ⟨.ref p,H,I,rfl,q⟩
noncomputable def tyV(K:PySem.W.Frag)(T:String)(x:V)(H:Hp):Prop:=match x with
 |.str _=>T="str"
 |.int _=>T="int"
 |.ref p=>(T="list"/\∃xs,SqL K H p xs)\/(T="tuple"/\∃o,K.lookup p=some o/\o.cls=.type "tuple"/\o.dict=none) \/
   (T="dict"/\((∃kvs,H p=some (.dK kvs))\/∃kvs,H p=some (.dT kvs)))\/(T="set"/\∃S n,H p=some (.set S n))
 |_=>False
theorem sZ{pins:List (Addr×Obj)}{σ:St}{H:Hp}{s:Shared}{T:String}{x:V}{v:Value}(I:Inv X pins σ H s)(r:RelV x v)(ty:tyV X.K T x H):
  s.TypeIs v T/\∀a,v=.ref a->∃ob,s.heap.get? a=some ob/\ob.dict=none:=by
 cases x with
 |str z =>
  obtain⟨t,rfl⟩:=r;cases(show T="str" from ty);exact⟨typeIs_str s z t,fun _ e=>nomatch e⟩
 |int i =>
  obtain⟨t,rfl⟩:=r;cases(show T="int" from ty);exact⟨typeIs_int s i t,fun _ e=>nomatch e⟩
 |ref p =>
  cases r;rcases ty with⟨rfl,xs,hq⟩|⟨rfl,o,hk,hc,hd⟩|⟨rfl,hk⟩|⟨rfl,S,n,hk⟩
  ·obtain⟨its,_,pl,_⟩:=I.list hq;refine⟨pl.isList.typeIs,fun a e=>?_⟩;cases e;obtain⟨o,n,e,c,hd,_⟩:=pl;exact⟨o,e,hd⟩
  ·refine⟨⟨o,I.kIn p o hk,hc⟩,fun a e=>?_⟩;cases e;exact⟨o,I.kIn _ o hk,hd⟩
  ·have z:∃o,s.heap.get? p=some o/\o.ExactDict:=by
    rcases hk with⟨kvs,hk⟩|⟨kvs,hk⟩
    ·obtain⟨_,_,_,_,o,_,_,e,ex,_⟩:=I.hok p _ hk;exact⟨o,e,ex⟩
    ·obtain⟨_,_,_,_,o,_,_,e,ex,_⟩:=I.hok p _ hk;exact⟨o,e,ex⟩
   obtain⟨o,e,ex⟩:=z;refine⟨⟨o,e,ex.1⟩,fun a e2=>?_⟩;cases e2;exact⟨o,e,ex.2.1⟩
  ·obtain⟨o,_,_,_,e,ex,_⟩:=I.hok p _ hk;refine⟨⟨o,e,ex.1⟩,fun a e2=>?_⟩;cases e2;exact⟨o,e,ex.2.1⟩
 |_=>exact False.elim ty
noncomputable def tBM(K:PySem.W.Frag)(T:String)(r:V->List V->Hp->VK->Prop)(to:TE)(t:TA):TE:=fun σ H Q=>to σ H fun x H1=>tyV K T x H1/\t σ H1 fun xs H2=>r x xs H2 Q
variable{o e:Expr}{es:List Expr}{to:TE}{t:TA}{name:Str}{apos cpos:Pos}{T id:String}{r:V->List V->Hp->VK->Prop}
theorem xO(pa:PlainAttrs T)(slot:Slot T name id)(hty:typeOf (.builtin id)=pure (.type "method_descriptor"))(hm:MtR X id r)(ho:PE X o to)(ha:PA X (e::es) t)
  (hbase:attributeBase o name X.env (eval o X.env)=eval o X.env:=by rfl)
  (hfew:((backTo cpos (starEach (e::es) X.env)).all (fun x=>!x.1)&&(backToKw cpos (keywordEach [] X.env)).all (fun x=>x.1.isSome)
   && decide ((e::es).length+([]:List Keyword).length+(if ([]:List Keyword).isEmpty then 0 else 1)<30))=true:=by rfl)
  (hline:(apos.endLine==cpos.line)=true:=by rfl) (hs:starEach (e::es) X.env=(false,eval e X.env)::starEach es X.env:=by rfl) (hplain:(backTo cpos (starEach es X.env)).any (·.1)=false:=by rfl) :
  PE X (.Call (.Attribute o name apos) (e::es) [] cpos) (tBM X.K T r to t):=by
 intro pins s σ H Q I h;refine wpAny_Call_method_late hbase hfew hline rfl (thn (ho pins s σ H _ I h) fun v s1 ⟨x,H1,I1,r1,ty,q1⟩=>?_);obtain⟨h1,h2⟩:=sZ I1 r1 ty;refine⟨T,id,pa,slot,hty,h1,h2,?_⟩;have hA:=ha cpos pins s1 σ H1 _ I1 q1;rw[hs]at hA ⊢;refine Calls.callWith_builtin (by show(false||(backTo cpos (starEach es X.env)).any (·.1))=false;rw[hplain]<;>rfl) (Calls.evalArgs_plain ?_);exact thn hA fun us s2 ⟨vs,H2,I2,r2,q2⟩=>hm pins s2 σ H2 x vs v us Q I2 r1 r2 q2
end
end L2
namespace L2
open PySem PySem.Spec PyProof.Rows
noncomputable def MtM(X:Cx)(id:String)(r:V->List V->Hp->VK->Prop):Prop :=
 ∀(pins:List (Addr×Obj)) (s:Shared) (σ:St) (H:Hp) (x:V) (xs:List V) (v:Value) (us:List Value) (Q:VK),Inv X pins σ H s->RelV x v->Vals xs us->r x xs H Q ->
  wpAny (model X.prog X.w) X.A (call (.builtin id) (v::us)) (EP X pins σ Q) X.xe s
theorem Vals.one:∀{x:V}{us:List Value},Vals [x] us->∃u,us=[u]/\RelV x u
 |_,_,.cons r .nil=>⟨_,rfl,r⟩
section
variable{X:Cx}{pins:List (Addr×Obj)}{σ:St}{H:Hp}{s:Shared}{l b:Addr}{xs ys zs:List V}
theorem Inv.lM{its its':List Value}{n:Nat}{f:Array Value->Array Value}{t':Nat}(I:Inv X pins σ H s)(hH:H l=some (.lst xs))
  (e:s.heap.get? l=some {cls:=.type "list",data:=.seq its.toArray n}) (hf:f its.toArray=its'.toArray) (hv:Vals ys its') (hz:ys.length<=sizeLine) :
  Inv X pins σ (upd H l (.lst ys)) {s with heap:=s.heap.update l (Obj.mapSeq f),toks:=t' }:=by
 have q:=PySem.IsL.update e f;rw[hf]at q;refine I.write (x:=l) (e:=l) (by rw[hH];exact trivial) (.inl rfl) (fun b' u hb hu=>(Heap.get?_update_other s.heap (Obj.mapSeq f) (Ne.symm hb)).trans hu) ⟨_,q⟩ ?_;exact⟨hz,its',_,hv,q⟩
theorem Inv.BO{its:List Value}{t':Nat}(I:Inv X pins σ H s)(hv:Vals ys its)(hz:ys.length<=sizeLine):
  Inv X pins σ (upd H s.heap.objs.size (.lst ys)) {s with heap:=s.heap.push {cls:=.type "list",data:=.seq its.toArray},toks:=t' } :=
 I.laid (fun _ _ q=>Heap.get?_push_of_some _ q) (Nat.le_refl _) ⟨hz,its,0,hv,Heap.get?_push_size _ rfl⟩
theorem Inv.fresh(I:Inv X pins σ H s):H s.heap.objs.size=none:=I.hok.fresh (Nat.le_refl _)
theorem Inv.AD(I:Inv X pins σ H s)(hH:H l=some (.lst xs)):xs.length<=sizeLine/\∃(its:List Value) (n:Nat),Vals xs its/\xs.length=its.length/\s.heap.get? l=some {cls:=.type "list",data:=.seq its.toArray n}:=by
 obtain⟨z,its,n,r,e⟩:=I.hok l _ hH;exact⟨z,its,n,r,r.length,e⟩
theorem s9{n:Nat}(h:n<=sizeLine):Builtin.List.listTooLong n=false:=by
 unfold Builtin.List.listTooLong;exact decide_eq_false (by omega)
end
section
variable{X:Cx}
noncomputable def wd:V->List V->Hp->VK->Prop:=fun x vs H Q=>∃l xs y,x=.ref l/\vs=[y]/\H l=some (.lst xs)/\xs.length<sizeLine/\Q .non (upd H l (.lst (xs++[y])))
theorem rz:MtM X "list.append" wd:=by
 intro pins s σ H x vs v us Q I rx rv h;obtain⟨l,xs,y,rfl,rfl,hH,hz,q⟩:=h;cases rx;obtain⟨u,rfl,ru⟩:=rv.one;obtain⟨z,its,n,r,hl,e⟩:=I.AD hH;refine call_meets F.slot_list_append ⟨_,e,rfl⟩ F.entry_list_append (F.args_list_append_2 _ _) (PySem.list_append l its.toArray n u (by rw[List.size_toArray];omega)) ⟨e,?_⟩;refine⟨.non,_,I.lM (its':=its++[u]) hH e (by simp) (r.append (.cons ru .nil)) ?_,rfl,q⟩;rw[List.length_append,List.length_singleton];omega
end
section
variable{prog:Program}{w:World}{A:Around}{E:Value->Shared->Prop}{s:Shared}
set_option maxRecDepth 100000 in
end
section
variable{X:Cx}
end
end L2
namespace Att
open PySem PySem.W PySem.Calls PyProof.Rows
theorem iz{P:Params}{h:Heap}:∀(ns:List Int) (vs:List Value),WellAll P h vs (ns.map WData.int)->IntsAre vs ns:=by
 intro ns;induction ns with
 |nil =>
  intro vs w;rw[List.map_nil]at w;cases w;exact .nil
 |cons n ns ih =>
  intro vs w;rw[List.map_cons]at w;cases w with
  |cons a b =>
   cases a;exact .cons _ _ (ih _ b)
theorem rA{l:OpenLaw}{n:Nat}(hn:l.most=some n){P:Params}{h:Heap}{args:List WData}{vals:List Value}
  (hpre:l.row.toRowW.claim.pre args=true) (hwl:WellAll P h vals args) :
  ∃a vs ns,vals=[Value.ref a]/\args=[WData.list (ns.map WData.int)]/\h.get? a=some {cls:=.type "list",data:=.seq vs.toArray}/\IntsAre vs ns/\ns.length<=n:=by
 have hsh:WShape.hasAll [] args [.list .int]=true:=(pre_splitW hpre).1;have hc:l.pre.holds [] {args:=args}=true:=(pre_splitW hpre).2;obtain⟨d,r,rfl,h1,h2⟩:=hasAllW_cons hsh;obtain rfl:=hasAllW_nil h2;obtain⟨xs,rfl,h3⟩:=hasW_list h1;obtain⟨ns,rfl⟩:=items_int h3;have hlen:ns.length<=n:=by
  unfold OpenLaw.pre at hc;have h4:(WTm.not (.lt (.lit (.int (n:Int))) (.len (.arg 0)))).holds [] {args:=[.list (ns.map .int)]}=true:=by
   have h4:=(holds_andW hc).1;rw[hn]at h4;exact h4
  have h5:=condW_of h4 (w_not (w_lt w_lit (w_len_list (w_arg rfl))));rw[List.length_map]at h5;refine Nat.le_of_not_lt fun q=>?_;have q':(n:Int)<((ns.length:Nat):Int):=by omega
  first
   |(rw[decide_eq_true q']at h5;exact absurd h5 (by decide))
   |(simp at h5;omega)
 cases hwl with
 |cons w1 w2 =>
  cases w2;cases w1 with
  |list ho hall=>exact⟨_,_,ns,rfl,rfl,ho,iz ns _ hall,hlen⟩
theorem rB(l:OpenLaw)(args:List WData):l.row.toRowW.claim.post args (.bool true) args=true :=
 postW_of (r:=l.row.toRowW) (X:=(true==true))
  (show WShape.has [] (.bool true) .bool=true by first|rfl|decide|simp[WShape.has,WShape.arms,WShape.armsAll])
  (show(WTm.eq .res (.lit (.bool true))).value [] {args:=args,res:=some (.bool true),after:=args}=some (.bool (true==true)) from w_eq_bool (w_res rfl) w_lit) rfl
theorem mW{l:OpenLaw}{n:Nat}{q:Program}{loose:List Str}{XP:(Str->Option Value)->Heap->Prop}{YP:World->Heap->Prop}{d:DefRec}
  (hn:l.most=some n) (hdf:d.params.defaults=[])
  (call:∀(w:World) (s₀ s₁:Shared) (mg mb:Str->Option Value) (fa:Addr) (o:Obj) (pm cd doc:Value) (a:Addr) (vs:List Value) (ns:List Int),
   Ground q loose [] XP w s₀ mg mb s₁.heap->YP w s₁.heap ->
   s₁.heap.get? fa=some o->o.data=.func (docDef d.name d.params d.body d.scope pm cd doc)->s₁.heap.CodeRec cd d.name->mg d.name=some (.ref fa) ->
   s₁.heap.get? a=some {cls:=.type "list",data:=.seq vs.toArray}->IntsAre vs ns->ns.length<=n->s₁.gens=#[] ->
   codeAny (model l.prog w) callerA (.call (.ref fa) ⟨[.ref a],[]⟩) (fun r s'=>r=.ok (.ret (.bool true))/\OldK s₁.heap s'.heap/\s'.os=s₁.os/\AllBare s'.gens) s₁) :
  WalkO q loose XP YP l.row.toRowW d [] (fun f vs=>PySem.call f vs):=by
 intro w s₀ s₁ mg mb G Y fa o pm cd doc dV kV ho hd hcd hD hmg hg args vals as hpre hlay hrd hwl hlo;obtain rfl:dV=.none:=Dflts.none hD hdf;obtain rfl:kV=.none:=Dflts.noKw hD;obtain⟨a,vs,ns,rfl,rfl,hobj,hints,hlen⟩:=rA hn hpre hwl;refine enter_call (codeAny_mono (call w s₀ s₁ mg mb fa o pm cd doc a vs ns G Y ho (fd_plain hd) hcd hmg hobj hints hlen hg) fun r s' hq=>?_);obtain⟨rfl,h2,h3,h4⟩:=hq;exact⟨.inl ⟨.bool true,.bool true,[],rfl,fun _=>rfl,.bool true,rB l _,fun _=>⟨List.Pairwise.nil,fun _ hm=>(nomatch hm)⟩⟩,h2,h3,h4⟩
section
variable{prog:Program}{w:World}{A:Around}{E:Value->Shared->Prop}{s:Shared}{K:Frag}
end
end Att
namespace L2
open PySem PySem.Spec PyProof.Rows
theorem kB:∀{vs:List Value}{ns:List Int},IntsAre vs ns->Vals (ns.map V.int) vs
 |_,_,.nil=>.nil
 |_,_,.cons n t h=>.cons ⟨t,rfl⟩ (kB h)
noncomputable def yH(H:Hp):Prop:=∀b,H b=none\/∃o xs,H b=some (.frz o (.lst xs))
theorem s_{P:Program}{w:World}{K:PySem.W.Frag}{mg mb:Str->Option Value}{CX:CXT}{k:Nat}{fa a:Addr}{fd:FuncData}{x:Str}{sp:Sp}{s₁:Shared}{vs:List Value}{ns:List Int}
  (KX:K.In s₁.heap) (hns:s₁.heap.Ns mainGlobals mg) (hb:s₁.heap.Ns builtinsNs mb) (hbb:∀x:Str,x≠"__name__"->mb x=bootBuiltins x) (hlim:s₁.heap.NoLimit) (hg:s₁.gens=#[])
  (ha:s₁.heap.get? a=some {cls:=.type "list",data:=.seq vs.toArray}) (hi:IntsAre vs ns) (hl:ns.length<=sizeLine) (hr:ft k callerA)
  (F:∀base:Heap,K.In base->base.Ns mainGlobals mg->lG P w K mg base CX k fa fd [x] sp) (hbind:∀(s:Shared) (u:Value),BindsTo s fd ⟨[u],[]⟩ [(x,u)])
  (hsp:∀H:Hp,yH H->SqL K H a (ns.map V.int)->sp [.ref a] H (fun v _=>v=.bl true) fun _ _ _=>False)
  (hCX:∀H e s',CX [] H s₁ (fun _ _ _=>False) e s'->False) :
  codeAny (model P w) callerA (.call (.ref fa) ⟨[.ref a],[]⟩) (fun r s'=>r=.ok (.ret (.bool true))/\OldK s₁.heap s'.heap/\s'.os=s₁.os/\AllBare s'.gens) s₁:=by
 have rv:=kB hi;have lenV:=hi.length;have core:∀H:Hp,yH H->SqL K H a (ns.map V.int)->HOk P w H s₁.heap->(∀b,H b≠none->b=a)->(H a≠none->K.lookup a=none) ->
   codeAny (model P w) callerA (.call (.ref fa) ⟨[.ref a],[]⟩) (fun r s'=>r=.ok (.ret (.bool true))/\OldK s₁.heap s'.heap/\s'.os=s₁.os/\AllBare s'.gens) s₁:=by
  intro H hO hS hok hA hK;have iL:∀{b:Addr} {o:Obj},s₁.heap.get? b=some o->H b=none->(ly s₁.heap H).get? b=some o:=fun e n=>sG e n;have noA:∀{b:Addr} {o:Obj} {es:Array DictEntry} {ep:Nat},s₁.heap.get? b=some o->o.data=.dict es ep->H b=none:=fun {b o es ep} e d=>by
   cases q:H b with
   |none=>rfl
   |some u =>
    have e':b=a:=hA b (by rw[q];simp);subst e';rw[ha]at e;cases e;have d':Data.seq vs.toArray _=Data.dict es ep:=d;cases d'
  have nsK:∀{b:Addr} {m:Str->Option Value},s₁.heap.Ns b m->(ly s₁.heap H).Ns b m:=fun {b m} ⟨o,es,ep,e,d,r⟩=>⟨o,es,ep,iL e (noA e d),d,r⟩
  have hKb:K.In (ly s₁.heap H):=fun b o e=>iL (KX b o e) (by
   cases q:H b with
   |none=>rfl
   |some u =>
    have e':b=a:=hA b (by rw[q];simp);subst e';rw[hK (by rw[q];simp)]at e;cases e)
  have hM:Mod K mg (ly s₁.heap H):=⟨hKb,nsK hns,⟨mb,nsK hb,hbb⟩,let ⟨mc,h1,h2⟩:=hlim;⟨mc,nsK h1,h2⟩⟩
  have e0:v3 P w K mg (ly s₁.heap H) callerA [] s₁ H:=⟨rfl,hM,fun b o e=>vQ e,Nat.le_of_eq (rg _ _),trivial,fun b hb=>absurd (show b∈([]:List Addr) from hb) (by simp),hok,.of_eq hg⟩
  refine codeAny_mono ((F _ hKb (nsK hns)).run callerA [] s₁ H ⟨[.ref a],[]⟩ [.ref a] [.ref a] _ _ hr e0 (hbind s₁ (.ref a)) (.cons rfl .nil) (hsp H hO hS)) fun r s' h=>?_;cases r with
  |error e=>exact(hCX H e s' h).elim
  |ok fl =>
   cases fl with
   |next=>exact False.elim h
   |brk=>exact False.elim h
   |cont=>exact False.elim h
   |ret u =>
    obtain⟨v,H',os,bare,un,hok',r',q⟩:=h;have q':v=.bl true:=q;subst q';obtain rfl:u=Value.bool true:=r';refine⟨rfl,OldK.of_keep fun b o e=>?_,os,bare⟩;cases q:H b with
    |none=>exact un.keep b o e q (by intro z;exact absurd (show b∈([]:List Addr) from z) (by simp)) (by simp)
    |some u =>
     rcases hO b with z|⟨ob,xs,z⟩
     ·rw[q]at z;cases z
     ·have z2:=un.frzs b ob _ z;obtain⟨e1,_⟩:=hok b _ z;obtain⟨e2,_⟩:=hok' b _ z2;rw[e]at e1;cases e1;exact e2
 cases hk:K.lookup a with
 |some o =>
  have e:=KX a o hk;rw[ha]at e;cases e;refine core (fun _=>none) (fun _=>.inl rfl) (.inr ⟨_,vs.toArray,_,hk,rfl,rfl,rfl,by rw[List.size_toArray,lenV];exact hl,by simpa using rv⟩) (fun b u z=>by have z':(none:Option HO)=some u:=z;cases z') (fun b z=>absurd rfl z) fun z=>absurd rfl z
 |none =>
  refine core (fun b=>if b=a then some (.frz {cls:=.type "list",data:=.seq vs.toArray} (.lst (ns.map V.int))) else none) (fun b=>?_) (.inl (.inr ⟨{cls:=.type "list",data:=.seq vs.toArray},if_pos rfl⟩)) (fun b u z=>?_) (fun b z=>?_) fun _=>hk
  ·by_cases hb:b=a
   ·exact .inr ⟨_,_,if_pos hb⟩
   ·exact .inl (if_neg hb)
  ·by_cases hb:b=a
   ·have z':=(if_pos hb).symm.trans z;cases z';subst hb;exact⟨ha,by rw[List.length_map];exact hl,vs,_,rv,ha⟩
   ·have z':=(if_neg hb).symm.trans z;cases z'
  ·by_cases hb:b=a
   ·exact hb
   ·exact absurd (if_neg hb) z
end L2
namespace L2
open PySem PySem.Spec PyProof.Rows
theorem we{l:PySem.W.OpenLaw}{n k:Nat}{q:Program}{loose:List Str}{XP:(Str->Option Value)->Heap->Prop}{YP:World->Heap->Prop}{d:DefRec}{K:Params->PySem.W.Frag}{CX:World->CXT}{sp:World->Sp}{x:Str}
  (hn:l.most=some n) (hn2:n<=sizeLine) (hdf:d.params.defaults=[]) (hr:ft k callerA)
  (hY:∀(w:World) (h:Heap),YP w h->(K w.params).In h)
  (F:∀(w:World) (mg:Str->Option Value) (fa:Addr) (h:Heap),(K w.params).In h->h.Ns mainGlobals mg->mg d.name=some (.ref fa) ->
   ∃fd:FuncData,(∀(s:Shared) (u:Value),BindsTo s fd ⟨[u],[]⟩ [(x,u)]) /\
    ∀base:Heap,(K w.params).In base->base.Ns mainGlobals mg->lG l.prog w (K w.params) mg base (CX w) k fa fd [x] (sp w))
  (hsp:∀(w:World) (H:Hp) (a:Addr) (ns:List Int),ns.length<=n->yH H->SqL (K w.params) H a (ns.map V.int)->sp w [.ref a] H (fun v _=>v=.bl true) fun _ _ _=>False)
  (hCX:∀(w:World) (H:Hp) (s:Shared) (e:Value) (s':Shared),CX w [] H s (fun _ _ _=>False) e s'->False) :
  PySem.W.WalkO q loose XP YP l.row.toRowW d [] (fun f vs=>PySem.call f vs):=by
 refine Att.mW hn hdf fun w s₀ s₁ mg mb fa o pm cd doc a vs ns G Y ho hd hcd hmg hobj hints hlen hg=>?_;have KX:=hY w _ Y;obtain⟨fd,hb,hF⟩:=F w mg fa _ KX G.T.g hmg;exact s_ KX G.T.g G.T.b G.T.builtins G.T.nolimit hg hobj hints (Nat.le_trans hlen hn2) hr hF hb (fun H hO hS=>hsp w H a ns hlen hO hS) fun H e s'=>hCX w H s₁ e s'
end L2
namespace L2
open PySem PySem.Spec PyProof.Rows
noncomputable def ff(s:Stmt):Arguments:=match s with
 |.FunctionDef _ a _ _ _ _ _ _ _ _=>a
 |_=>{posonlyargs:=[],args:=[],vararg:=none,kwonlyargs:=[],kw_defaults:=[],kwarg:=none,defaults:=[]}
noncomputable def cH(s:Stmt):List Stmt:=match s with
 |.FunctionDef _ _ b _ _ _ _ _ _ _=>b
 |_=>[]
noncomputable def aW(s:Stmt):Scope:=match s with
 |.FunctionDef _ _ _ _ _ _ sc _ _ _=>sc
 |_=>{kind:=.function,names:=[],isGenerator:=false,isCoroutine:=false}
noncomputable abbrev CX0:CXT:=fun _ _ _ _ _ _=>False
noncomputable abbrev E0:XK:=fun _ _ _=>False
theorem xP{X:Cx}:Passes CX0 X E0:=fun _ _ _ _ _ _ _ h=>h.elim
structure Fun(K:PySem.W.Frag)(x qual:Str)(st:Stmt)(f:Addr)(fd:FuncData):Prop where
 ex:∃(oc:Value) (od:Option Addr) (kV doc pm:Value) (an:Option Addr) (cdv ct:Value) (osl:Array (Option Value)),
  fd=PySem.W.fnOf x qual (ff st) (cH st) (aW st) .none kV doc pm an cdv ct/\K.lookup f=some ⟨oc,od,.func fd,osl⟩/\PySem.W.codeIn K cdv qual=true
 kp:PySem.W.keepIn K (.ref f)=true
section
variable{P:Program}{w:World}{K:PySem.W.Frag}{mg:Str->Option Value}{base:Heap}
theorem Fun.ok{x qual:Str}{st:Stmt}{f:Addr}{fd:FuncData}{N ps:List Str}{k:Nat}{sp:Sp}(F:Fun K x qual st f fd)(S:dH N ps (aW st))(len:∀vs H Q E,sp vs H Q E->vs.length=ps.length)
  (hbody:∀(cdv:Value) (A:Around) (outer:List Env) (s:Shared) (H:Hp) (vs:List V) (Q:VK) (E:XK),ft k (A.deeper (envOfC qual (aW st) s.heap.objs.size f cdv))->sp vs H Q E ->
   ∃t,PSs (oH CX0 P w K mg base N qual (aW st) f cdv A outer s H E).nox (cH st) t/\t {nx:=fun _ H'=>Q .non H',rt:=Q} (start N vs) H):lG P w K mg base CX0 (k+1) f fd ps sp:=by
 obtain⟨oc,od,kV,doc,pm,an,cdv,ct,osl,rfl,lk,hcd⟩:=F.ex;refine Aw lk hcd S len fun A outer s H vs Q E hr hsp=>?_;obtain⟨t,h,q⟩:=hbody cdv A outer s H vs Q E hr hsp;exact⟨t,h.nox,q⟩
theorem yI{x qual:Str}{st:Stmt}{f:Addr}{oc:Value}{od an:Option Addr}{osl:Array (Option Value)}{kV doc pm cdv ct:Value}(l:K.lookup f=some ⟨oc,od,.func (PySem.W.fnOf x qual (ff st) (cH st) (aW st) .none kV doc pm an cdv ct),osl⟩)
  (c:PySem.W.codeIn K cdv qual=true) (k:PySem.W.keepIn K (.ref f)=true):Fun K x qual st f (PySem.W.fnOf x qual (ff st) (cH st) (aW st) .none kV doc pm an cdv ct):=⟨⟨oc,od,kV,doc,pm,an,cdv,ct,osl,rfl,l,c⟩,k⟩
end
theorem rC{n:Nat}(h:n<=1000):n<sizeLine:=Nat.lt_of_le_of_lt h (by decide)
section
variable{X:Cx}
end
noncomputable def AE(H H':Hp):Prop:=∀b o,H b=some o->H' b=some o
end L2
namespace L2
open PySem PySem.Spec PyProof.Rows
section
variable{κ:Type}[DecidableEq κ]
noncomputable def gb(kvs:List (κ×V))(k:κ):Option V:=(kvs.find? fun kv=>decide (kv.1=k)).map (·.2)
noncomputable def putK(kvs:List (κ×V))(k:κ)(v:V):List (κ×V) :=
 if (kvs.any fun kv=>decide (kv.1=k))=true then kvs.map (fun kv=>if kv.1=k then(kv.1,v) else kv) else kvs++[(k,v)]
theorem eh{p:κ×V}{r:List (κ×V)}{k:κ}(e:p.1=k):gb (p::r) k=some p.2:=by simp[gb,List.find?_cons,e]
theorem eu{p:κ×V}{r:List (κ×V)}{k:κ}(e:¬p.1=k):gb (p::r) k=gb r k:=by simp[gb,List.find?_cons,e]
theorem jb(k:κ):∀kvs:List (κ×V),(kvs.any fun kv=>decide (kv.1=k))=(gb kvs k).isSome
 |[]=>rfl
 |p::r=>by
  rw[List.any_cons];by_cases e:p.1=k
  ·simp only[eh e,decide_eq_true e,Bool.true_or,Option.isSome_some]
  ·rw[eu e,decide_eq_false e,Bool.false_or];exact jb k r
theorem hV(kvs:List (κ×V))(k:κ)(v:V):(putK kvs k v).length<=kvs.length+1:=by
 unfold putK;split
 ·rw[List.length_map];omega
 ·rw[List.length_append,List.length_cons,List.length_nil];omega
theorem rf.dr{o:Option V}{u:Option Value}(r:rf o u):o.isSome=u.isSome:=by
 cases o with
 |none=>cases u with
  |none=>rfl
  |some _=>exact(show False from r).elim
 |some _=>cases u with
  |none=>exact(show False from r).elim
  |some _=>rfl
theorem KV.val{kvs:List (κ×V)}{vs:List (κ×Value)}(r:KV kvs vs)(k:κ):rf (gb kvs k) (valueAt vs k):=by
 unfold KV at r;induction r with
 |nil=>exact True.intro
 |@cons p q ps qs h t ih =>
  obtain⟨h1,h2⟩:=h;by_cases e:p.1=k
  ·have e':q.1=k:=h1.symm.trans e;have b:valueAt (q::qs) k=some q.2:=by simp[valueAt,List.find?_cons,e']
   rw[eh e,b];exact h2
  ·have e':¬q.1=k:=fun z=>e (h1.trans z);have b:valueAt (q::qs) k=valueAt qs k:=by simp[valueAt,List.find?_cons,e']
   rw[eu e,b];exact ih
theorem KV.any{kvs:List (κ×V)}{vs:List (κ×Value)}(r:KV kvs vs)(k:κ):(kvs.any fun kv=>decide (kv.1=k))=vs.any fun kv=>decide (kv.1=k):=by
 unfold KV at r;induction r with
 |nil=>rfl
 |cons h t ih=>rw[List.any_cons,List.any_cons,ih,h.1]
theorem KV.yJ{kvs:List (κ×V)}{vs:List (κ×Value)}(r:KV kvs vs)(k:κ){y:V}{u:Value}(ry:RelV y u):
  KV (kvs.map fun kv=>if kv.1=k then(kv.1,y) else kv) (vs.map fun kv=>if kv.1=k then(kv.1,u) else kv):=by
 unfold KV at r ⊢;induction r with
 |nil=>exact .nil
 |@cons p q ps qs h t ih =>
  rw[List.map_cons,List.map_cons];refine .cons ?_ ih;obtain⟨h1,h2⟩:=h;by_cases e:p.1=k
  ·rw[if_pos e,if_pos (h1.symm.trans e)];exact⟨h1,ry⟩
  ·rw[if_neg e,if_neg (fun z=>e (h1.trans z))];exact⟨h1,h2⟩
theorem KV.put{kvs:List (κ×V)}{vs:List (κ×Value)}(r:KV kvs vs)(k:κ){y:V}{u:Value}(ry:RelV y u):KV (putK kvs k y) (stored vs k u):=by
 unfold putK stored;rw[r.any k];by_cases e:(vs.any fun kv=>decide (kv.1=k))=true
 ·rw[if_pos e,if_pos e];exact r.yJ k ry
 ·rw[if_neg e,if_neg e];exact Paired.snoc r ⟨rfl,ry⟩
theorem KV.length{kvs:List (κ×V)}{vs:List (κ×Value)}(r:KV kvs vs):kvs.length=vs.length:=Paired.length r
end
theorem qc{P:Program}{w:World}{k:Key}{u:Value}(r:RelV (kV k) u):(bL P w).is k u=true:=by
 cases k with
 |inl i=>obtain⟨t,e⟩:=(show ∃t,u=Value.int i t from r);subst e;exact mQ P w i t
 |inr x=>obtain⟨t,e⟩:=(show ∃t,u=Value.str x t from r);subst e;exact mR P w x t
theorem kC{P:Program}{w:World}:∀{ks:List Key}{us:List Value},Vals (ks.map kV) us->ItemsAre (bL P w) ks us
 |[],_,r=>by rw[List.map_nil]at r;cases r;exact .nil
 |k::ks,_,r=>by
  rw[List.map_cons]at r;cases r with
  |cons h t=>exact .cons (qc h) (kC t)
noncomputable abbrev KT(H:Hp):List (List Key×V)->List (List Key×Addr×Value)->Prop:=Paired fun p q=>p.1=q.1/\H q.2.1=some (.tup (p.1.map kV))/\RelV p.2 q.2.2
theorem KT.val{H:Hp}{kvs:List (List Key×V)}{xs:List (List Key×Addr×Value)}(r:KT H kvs xs)(k:List Key):rf (gb kvs k) ((atKey xs k).map (·.2)):=by
 induction r with
 |nil=>exact True.intro
 |@cons p q ps qs h t ih =>
  obtain⟨h1,_,h2⟩:=h;by_cases e:p.1=k
  ·have e':q.1=k:=h1.symm.trans e;have b:atKey (q::qs) k=some q.2:=by simp[atKey,List.find?_cons,e']
   rw[eh e,b];exact h2
  ·have e':¬q.1=k:=fun z=>e (h1.trans z);have b:atKey (q::qs) k=atKey qs k:=by simp[atKey,List.find?_cons,e']
   rw[eu e,b];exact ih
theorem KT.yJ{H:Hp}{kvs:List (List Key×V)}{xs:List (List Key×Addr×Value)}(r:KT H kvs xs)(k:List Key){y:V}{u:Value}(ry:RelV y u):
  KT H (kvs.map fun kv=>if kv.1=k then(kv.1,y) else kv) (xs.map (putAt k u)):=by
 induction r with
 |nil=>exact .nil
 |@cons p q ps qs h t ih =>
  rw[List.map_cons,List.map_cons];refine .cons ?_ ih;obtain⟨h1,h2,h3⟩:=h;unfold putAt;by_cases e:p.1=k
  ·rw[if_pos e,if_pos (h1.symm.trans e)];exact⟨h1,h2,ry⟩
  ·rw[if_neg e,if_neg (fun z=>e (h1.trans z))];exact⟨h1,h2,h3⟩
theorem KT.put{H:Hp}{kvs:List (List Key×V)}{xs:List (List Key×Addr×Value)}(r:KT H kvs xs)(k:List Key){b:Addr}{y:V}{u:Value}(hb:H b=some (.tup (k.map kV)))(ry:RelV y u):
  KT H (putK kvs k y) (storedH xs k b u):=by
 have e:(kvs.any fun kv=>decide (kv.1=k))=(atKey xs k).isSome:=by
  rw[jb,(r.val k).dr,Option.isSome_map]
 unfold putK storedH;rw[e];by_cases q:(atKey xs k).isSome=true
 ·rw[if_pos q,if_pos q];exact r.yJ k ry
 ·rw[if_neg q,if_neg q];exact Paired.snoc r ⟨rfl,hb,ry⟩
theorem KT.keeps{H H':Hp}{kvs:List (List Key×V)}{xs:List (List Key×Addr×Value)}(r:KT H kvs xs)(ht:∀b ys,H b=some (.tup ys)->H' b=some (.tup ys)):KT H' kvs xs :=
 Paired.yi r fun _ _ z=>⟨z.1,ht _ _ z.2.1,z.2.2⟩
section
variable{P:Program}{w:World}{H:Hp}{h:Heap}{a:Addr}
theorem xQ{u:HO}(ok:HOk P w H h)(e:Rd H a u):bI P w H h a u:=e.ok ok
theorem tf{kvs:List (Key×V)}(ok:HOk P w H h)(e:Rd H a (.dK kvs)):kvs.length<=sizeLine/\(a==sysModules)=false/\∃vs,KV kvs vs/\h.DictOf (bL P w) a vs :=
 show bI P w H h a (.dK kvs) from xQ ok e
theorem AF{kvs:List (Key×V)}(ok:HOk P w H h)(e:H a=some (.dK kvs)):kvs.length<=sizeLine/\(a==sysModules)=false/\∃vs,KV kvs vs/\h.DictOf (bL P w) a vs:=tf ok (.inl e)
theorem lN{ks:List Key}(ok:HOk P w H h)(e:H a=some (.tup (ks.map kV))):(tupleKind (bL P w)).is h ks a:=by
 obtain⟨_,its,r,o,h1,h2,n,h3⟩:=(show bI P w H h a (.tup (ks.map kV)) from ok a _ e)
 exact⟨o,its.toArray,n,h1,h2,h3,by simpa using kC r⟩
theorem tm{kvs:List (List Key×V)}(ok:HOk P w H h)(e:Rd H a (.dT kvs)):kvs.length<=sizeLine/\(a==sysModules)=false /\
  ∃xs,KT H kvs xs/\h.DictOfH (tupleKind (bL P w)) a xs:=by
 obtain⟨z,y,xs,r,o,es,ep,h1,h2,h3,h4,h5⟩:=(show bI P w H h a (.dT kvs) from xQ ok e)
 refine⟨z,y,xs,r,o,es,ep,h1,h2,h3,h4,fun x hx=>?_,h5⟩;have all:∀{l:List (List Key×V)} {m:List (List Key×Addr×Value)},KT H l m->∀x∈m,(tupleKind (bL P w)).is h x.1 x.2.1:=by
  intro l m q;induction q with
  |nil=>intro x hx;exact nomatch hx
  |@cons p q ps qs hq t ih =>
   intro x hx;rcases List.mem_cons.mp hx with e|hx
   ·subst e;exact lN ok (by rw[<-hq.1];exact hq.2.1)
   ·exact ih x hx
 exact all r x hx
theorem AG{kvs:List (List Key×V)}(ok:HOk P w H h)(e:H a=some (.dT kvs)):kvs.length<=sizeLine/\(a==sysModules)=false /\
  ∃xs,KT H kvs xs/\h.DictOfH (tupleKind (bL P w)) a xs:=tm ok (.inl e)
end
noncomputable def rD(H:Hp)(a:Addr)(y:V)(r:Option V):Prop :=
 (∃kvs k,Rd H a (.dK kvs)/\y=kV k/\r=gb kvs k)\/∃kvs k b,Rd H a (.dT kvs)/\y=.ref b/\H b=some (.tup (k.map kV))/\r=gb kvs k
noncomputable def tp(H:Hp)(a:Addr)(y v:V)(H':Hp):Prop :=
 (∃kvs k,H a=some (.dK kvs)/\y=kV k/\kvs.length<sizeLine/\H'=upd H a (.dK (putK kvs k v))) \/
 ∃kvs k b,H a=some (.dT kvs)/\y=.ref b/\H b=some (.tup (k.map kV))/\kvs.length<sizeLine/\H'=upd H a (.dT (putK kvs k v))
theorem rD.k{H:Hp}{a:Addr}{kvs:List (Key×V)}{k:Key}(e:H a=some (.dK kvs)):rD H a (kV k) (gb kvs k):=.inl ⟨kvs,k,.inl e,rfl,rfl⟩
theorem tp.k{H:Hp}{a:Addr}{kvs:List (Key×V)}{k:Key}{v:V}(e:H a=some (.dK kvs))(hl:kvs.length<sizeLine):tp H a (kV k) v (upd H a (.dK (putK kvs k v))):=.inl ⟨kvs,k,e,rfl,hl,rfl⟩
section
variable{X:Cx}{pins:List (Addr×Obj)}{σ:St}{H:Hp}{s:Shared}{a:Addr}{y v:V}{u r:Value}{o:Option V}{A:Around}{E:Value->Shared->Prop}
theorem Inv.big(I:Inv X pins σ H s):sysModules<s.heap.objs.size:=by
 have h:mainGlobals<s.heap.objs.size:=(I.mod.glob.keeps I.bk).lt;exact Nat.lt_trans (by decide) h
theorem BP{Q:Value->Shared->Prop}(hu:A.units+1<cLine)(I:Inv X pins σ H s)(g:rD H a y o)(ry:RelV y u)(h:∀s',Inv X pins σ H s'->Q (.bool o.isSome) s'):
  wpAny (model X.prog X.w) A (compareOp .In u (.ref a)) Q E s:=by
 rcases g with⟨kvs,k,e,ey,l⟩|⟨kvs,k,b,e,ey,eb,l⟩
 ·subst ey;obtain⟨z,hd,vs,rel,dd⟩:=tf I.hok e;refine wpAny_in_of (qc ry) hd dd.mapOf ?_;rw[<-(rel.val k).dr,<-l];exact h _ (I.tok _)
 ·subst ey;cases(show u=Value.ref b from ry);obtain⟨z,hd,xs,rel,dd⟩:=tm I.hok e;refine wpAny_in_heap (tupleKind_room_in1 hu) (lN I.hok eb) hd dd ?_;have q:=(rel.val k).dr;rw[Option.isSome_map]at q;rw[<-q,<-l];exact h _ (I.tok _)
theorem wg{Q:Value->Shared->Prop}(hu:A.units+1<cLine)(I:Inv X pins σ H s)(g:rD H a y o)(ry:RelV y u)(h:∀s',Inv X pins σ H s'->Q (.bool (!o.isSome)) s'):
  wpAny (model X.prog X.w) A (compareOp .NotIn u (.ref a)) Q E s:=by
 rcases g with⟨kvs,k,e,ey,l⟩|⟨kvs,k,b,e,ey,eb,l⟩
 ·subst ey;obtain⟨z,hd,vs,rel,dd⟩:=tf I.hok e;refine wpAny_notIn_of (qc ry) hd dd.mapOf ?_;rw[<-(rel.val k).dr,<-l];exact h _ (I.tok _)
 ·subst ey;cases(show u=Value.ref b from ry);obtain⟨z,hd,xs,rel,dd⟩:=tm I.hok e;refine wpAny_notIn_heap (tupleKind_room_in1 hu) (lN I.hok eb) hd dd ?_;have q:=(rel.val k).dr;rw[Option.isSome_map]at q;rw[<-q,<-l];exact h _ (I.tok _)
theorem qd{h':Heap}{t':Nat}{ob:HO}(I:Inv X pins σ H s)(mu:Mut (H a))(hs:Heap.SameBut a s.heap h')(he:∃q,h'.get? a=some q)(new:bI X.prog X.w (upd H a ob) h' a ob):
  Inv X pins σ (upd H a ob) {s with heap:=h',toks:=t' } :=
 I.write (x:=a) (e:=a) mu (.inl rfl) (fun b q hb z=>(hs.2 b hb).trans z) he new
theorem yK{P:Program}{w:World}{H':Hp}{h':Heap}{kvs:List (Key×V)}{vs:List (Key×Value)}(z:kvs.length<=sizeLine)(hd:(a==sysModules)=false)(rel:KV kvs vs)(dd:h'.DictOf (bL P w) a vs):
  bI P w H' h' a (.dK kvs):=⟨z,hd,vs,rel,dd⟩
theorem rE{H':Hp}{Q:Unit->Shared->Prop}(hu:A.units+1<cLine)(I:Inv X pins σ H s)(g:tp H a y v H')(ry:RelV y u)(rv:RelV v r)(h:∀s',Inv X pins σ H' s'->Q () s'):
  wpAny (model X.prog X.w) A (setItem (.ref a) u r) Q E s:=by
 rcases g with⟨kvs,k,e,ey,l,eH⟩|⟨kvs,k,b,e,ey,eb,l,eH⟩
 ·subst ey eH;obtain⟨z,hd,vs,rel,dd⟩:=AF I.hok e;have hz:vs.length<=sizeLine:=by rw[<-rel.length];exact z
  have hl:(putK kvs k v).length<=sizeLine:=by have:=hV kvs k v;omega
  refine wpAny_setItem_pairs (hsz:=hz) (qc ry) dd fun h' dd' hs=>h _ ?_;have he:∃q,h'.get? a=some q:=let ⟨q,_,_,hq,_⟩:=dd';⟨q,hq⟩;exact qd I (by rw[e];exact True.intro) hs he (yK hl hd (rel.put k rv) dd')
 ·subst ey eH;cases(show u=Value.ref b from ry);obtain⟨z,hd,xs,rel,dd⟩:=AG I.hok e;have hz:xs.length<=sizeLine:=by rw[<-Paired.length rel];exact z
  have hl:(putK kvs k v).length<=sizeLine:=by have:=hV kvs k v;omega
  refine wpAny_setItem_heap (hsz:=hz) (tupleKind_room_in1 hu) (lN I.hok eb) dd fun h' dd' hs=>h _ ?_;obtain⟨q,es,ep,hq,h2,h3,h4,_,h5⟩:=dd';refine qd I (by rw[e];exact True.intro) hs ⟨q,hq⟩ ⟨hl,hd,_,(rel.put k eb rv).keeps fun c ys ec=>?_,q,es,ep,hq,h2,h3,h4,h5⟩;rw[aG (sF ec e (fun z=>nomatch z))];exact ec
end
section
variable{X:Cx}{pins:List (Addr×Obj)}{σ:St}{H:Hp}{s:Shared}{a:Addr}{kvs:List (Key×V)}{k:Key}{u:Value}{A:Around}{E:Value->Shared->Prop}
end
section
variable{X:Cx}{o i e value:Expr}{pos pos' tpos:Pos}{td ty tv:TE}
end
theorem tq{P:Program}{w:World}{H:Hp}(h:Heap)(hb:sysModules<h.objs.size):bI P w H (h.push {cls:=.type "dict",data:=.dict #[]}) h.objs.size (.dK []) :=
 ⟨Nat.zero_le _,beq_eq_false_iff_ne.mpr (Ne.symm (Nat.ne_of_lt hb)),[],.nil,Heap.DictOf.new h⟩
noncomputable def yL:TE:=fun _ H Q=>∀p,H p=none->Q (.ref p) (upd H p (.dK []))
section
variable{X:Cx}{pos:Pos}
theorem tu:PE X (.Dict [] [] pos) yL:=fun pins s σ H Q I h =>
 wpAny_Dict_empty ⟨.ref s.heap.objs.size,_,I.laid (a:=s.heap.objs.size) (o:=.dK []) (t':=s.toks) (fun _ _ q=>Heap.get?_push_of_some _ q) (Nat.le_refl _) (tq s.heap I.big),rfl,h _ (I.hok.fresh (Nat.le_refl _))⟩
end
structure M1(X:Cx)(o:Expr)(m:Str)(apos:Pos)(e:Expr)(cpos:Pos):Prop where
 base:attributeBase o m X.env (eval o X.env)=eval o X.env
 few:((backTo cpos (starEach [e] X.env)).all (fun x=>!x.1)&&(backToKw cpos (keywordEach [] X.env)).all (fun x=>x.1.isSome)
  && decide (([e]:List Expr).length+([]:List Keyword).length+(if ([]:List Keyword).isEmpty then 0 else 1)<30))=true
 line:(apos.endLine==cpos.line)=true
 trees:backTo cpos (starEach [e] X.env)=[(false,eval e X.env)]
structure M2(X:Cx)(o:Expr)(m:Str)(apos:Pos)(e f:Expr)(cpos:Pos):Prop where
 base:attributeBase o m X.env (eval o X.env)=eval o X.env
 few:((backTo cpos (starEach [e,f] X.env)).all (fun x=>!x.1)&&(backToKw cpos (keywordEach [] X.env)).all (fun x=>x.1.isSome)
  && decide (([e,f]:List Expr).length+([]:List Keyword).length+(if ([]:List Keyword).isEmpty then 0 else 1)<30))=true
 line:(apos.endLine==cpos.line)=true
 trees:backTo cpos (starEach [e,f] X.env)=[(false,eval e X.env),(false,eval f X.env)]
section
variable{X:Cx}{pins:List (Addr×Obj)}{σ:St}{H:Hp}{s:Shared}{a:Addr}{y d:V}{u r:Value}{o:Option V}{A:Around}{E:Value->Shared->Prop}
end
section
variable{X:Cx}{o e f:Expr}{apos cpos:Pos}{td ty tx:TE}
end
section
variable{X:Cx}{pins:List (Addr×Obj)}{σ:St}{H:Hp}{s:Shared}{a:Addr}{kvs:List (Key×V)}{A:Around}{E:Value->Shared->Prop}
end
section
variable{X:Cx}{pins:List (Addr×Obj)}{σ:St}{H:Hp}{s:Shared}{a:Addr}{y:V}{u:Value}{A:Around}{E:Value->Shared->Prop}
end
end L2
namespace W01
open PySem PySem.Builtin.Str PySem.StrLaws
noncomputable def low(c:Nat):Bool:=decide (97<=c)&&decide (c<=122)
noncomputable def d6(l:List Nat):Bool:=decide (1<=l.length)&&decide (l.length<=8)&&l.all low
theorem cu(l:List Nat):d6 l=true↔1<=l.length/\l.length<=8/\∀c∈l,97<=c/\c<=122:=by
 simp[d6,low,List.all_eq_true,and_assoc]
theorem mX{l:List Nat}(h:d6 l=true):47∉l:=fun m=>by
 have:=((cu l).mp h).2.2 47 m;omega
theorem lO{x y:Str}(h:x.cps.toList=y.cps.toList):x=y:=by
 cases x;cases y;congr
 exact Array.toList_inj.mp h
theorem lP(x:Str)(c i:Nat):At x ⟨#[c]⟩ x.length i↔x.cps.toList[i]?=some c:=subAt_one x c i
theorem yM{x:Str}{a b:List Nat}{c:Nat}(h:x.cps.toList=a++c::b)(hn:c∉a)(limit:Nat)(hl:1<=limit):∃r,occurrences x ⟨#[c]⟩ 0 x.length limit=a.length::r:=by
 have hat:x.cps.toList[a.length]?=some c:=by rw[h];simp
 rcases occ_head x ⟨#[c]⟩ limit hl with⟨_,hno⟩|⟨i,r,e,hi,hmin⟩
 ·exact absurd ((lP x c a.length).mpr hat) (hno _)
 ·have e1:=(lP x c i).mp hi;have:i=a.length:=by
   rcases Nat.lt_trichotomy i a.length with z|z|z
   ·exfalso
    rw[h,List.getElem?_append_left z]at e1;exact hn (List.mem_of_getElem? e1)
   ·exact z
   ·exact absurd ((lP x c a.length).mpr hat) (hmin _ z)
  subst this;exact⟨r,e⟩
theorem oN{x:Str}{c:Nat}(h:c∉x.cps.toList):Txt.split x ⟨#[c]⟩=[x]:=by
 unfold Txt.split;split
 ·rfl
 ·rw[if_pos];rcases occ_head x ⟨#[c]⟩ (x.length+1) (by omega) with⟨e,_⟩|⟨i,r,e,hi,_⟩
  ·rw[e];rfl
  ·exact absurd (List.mem_of_getElem? ((lP x c i).mp hi)) h
theorem mY(c:Nat)(h:c<256)(x:Str):¬(PySem.Builtin.Str.strKind x<PySem.Builtin.Str.strKind ⟨#[c]⟩):=by
 have e:PySem.Builtin.Str.strKind ⟨#[c]⟩=1:=by simp[PySem.Builtin.Str.strKind,h]
 rw[e];unfold PySem.Builtin.Str.strKind;split
 ·omega
 ·split<;>omega
theorem tB{x:Str}{a b:List Nat}{c:Nat}(h:x.cps.toList=a++c::b)(hn:c∉a)(hc:c<256):∃r,Txt.split x ⟨#[c]⟩=⟨a.toArray⟩::r:=by
 obtain⟨r,e⟩:=yM h hn (x.length+1) (by omega);have l1:(⟨#[c]⟩:Str).length=1:=rfl;have lx:x.length=a.length+1+b.length:=by
  have:=congrArg List.length h;simp[Str.length]at this ⊢;omega
 unfold Txt.split;rw[if_neg (by
  have h1:¬(x.length<(⟨#[c]⟩:Str).length):=by rw[l1];omega
  have h2:=mY c hc x;simp[h1,h2]),if_neg (by rw[e];simp),partsBetween_eq,e]
 refine⟨_,congrArg (·::_) ?_⟩;apply lO;rw[strSub_toList,h];simp
end W01
namespace W01
open PySem PySem.Builtin.Str PySem.StrLaws
noncomputable def rF(i:Int):Str:=Str.ofString (toString i)
noncomputable def xR:Str:=⟨#[47]⟩
end W01
namespace L2
open PySem PySem.Spec PyProof.Rows
noncomputable def bt(env:Env):List (Str×NameKind)->List (Str×Addr)->List (Str×Addr)
 |[],cs=>cs
 |(n,k)::r,cs=>bt env r (if k==.free then(match env.cells.lookup n with|some a=>(n,a)::cs|none=>cs) else cs)
theorem du{scope:Scope}{env:Env}(h:∀y∈scope.names,y.2=.free->∃a,env.cells.lookup y.1=some a):closureFor scope env=pure (bt env scope.names []):=by
 unfold closureFor;generalize scope.names=names at h
 suffices H:∀cs,(forIn names cs (fun(x:Str×NameKind) (r:List (Str×Addr))=>if (x.2==NameKind.free)=true then do let a <-cellOf env x.1;pure (ForInStep.yield ((x.1,a)::r)) else pure (ForInStep.yield r)):Sem (List (Str×Addr)))=pure (bt env names cs) by
  have:=H [];exact congrArg (fun(m:Sem (List (Str×Addr)))=>m >>= pure) this
 induction names with
 |nil=>intro cs;rfl
 |cons y r ih =>
  intro cs;obtain⟨n,k⟩:=y;rw[List.forIn_cons];have ih':=ih fun y hy=>h y (List.mem_cons_of_mem _ hy);by_cases hk:(k==NameKind.free)=true
  ·obtain⟨a,ha⟩:=h (n,k) List.mem_cons_self (by simpa using hk);have ha':env.cells.lookup n=some a:=ha;simp only[hk,if_true,cellOf,ha',bt];exact ih' _
  ·simp only[hk,if_false,bt];exact ih' _
theorem dI{env:Env}:∀(names:List (Str×NameKind)) (cs:List (Str×Addr)),(∀n c,cs.lookup n=some c->env.cells.lookup n=some c)->∀n c,(bt env names cs).lookup n=some c->env.cells.lookup n=some c
 |[],_,h=>h
 |(m,k)::r,cs,h=>by
  unfold bt;refine dI r _ fun n c e=>?_;by_cases hk:(k==NameKind.free)=true
  ·rw[if_pos hk]at e;cases q:env.cells.lookup m with
   |none=>rw[q]at e;exact h n c e
   |some a =>
    rw[q]at e;simp only[List.lookup_cons]at e;cases hx:n==m with
    |true =>
     rw[hx]at e;have e':n=m:=by simpa using hx
     subst e';simp only at e;rw[q];exact e
    |false=>rw[hx]at e;exact h n c e
  ·rw[if_neg hk]at e;exact h n c e
theorem hZ{env:Env}{n:Str}{a:Addr}(ha:env.cells.lookup n=some a):∀(names:List (Str×NameKind)) (cs:List (Str×Addr)),cs.lookup n=some a->(bt env names cs).lookup n=some a
 |[],_,h=>h
 |(m,k)::r,cs,h=>by
  unfold bt;refine hZ ha r _ ?_;by_cases hk:(k==NameKind.free)=true
  ·rw[if_pos hk];cases q:env.cells.lookup m with
   |none=>exact h
   |some b =>
    simp only[List.lookup_cons];cases hx:n==m with
    |true =>
     have e':n=m:=by simpa using hx
     subst e';rw[ha]at q;cases q;rfl
    |false=>exact h
  ·rw[if_neg hk];exact h
theorem fJ{env:Env}{n:Str}{a:Addr}(ha:env.cells.lookup n=some a):∀(names:List (Str×NameKind)) (cs:List (Str×Addr)),(n,NameKind.free)∈names->(bt env names cs).lookup n=some a
 |[],_,h=>by cases h
 |(m,k)::r,cs,h=>by
  unfold bt;rcases List.mem_cons.mp h with e|e
  ·cases e;refine hZ ha r _ ?_;rw[if_pos (by decide),ha];simp[List.lookup_cons]
  ·exact fJ ha r _ e
theorem bD{env:Env}:∀{names:List (Str×NameKind)}{x:Str}{k:NameKind},
  (names.map fun(n,k)=>if (k==NameKind.free&&env.scope.kind==.function&&env.kindOf n==some .cell) then(n,NameKind.cell) else(n,k)).lookup x=some k ->
  names.lookup x=some k\/(k=.cell/\names.lookup x=some .free)
 |[],_,_,h=>by simp at h
 |(n,k0)::r,x,k,h=>by
  have ih:=@bD env r x k;rw[List.map_cons]at h;by_cases hc:(k0==NameKind.free&&env.scope.kind==.function&&env.kindOf n==some .cell)=true
  ·simp only[if_pos hc,List.lookup_cons]at h;cases hx:x==n with
   |true =>
    rw[hx]at h;have hf:k0=.free:=by
     have:=(Bool.and_eq_true_iff.mp (Bool.and_eq_true_iff.mp hc).1).1;simpa using this
    refine .inr ⟨by simpa using h.symm,by simp[List.lookup_cons,hx,hf]⟩
   |false =>
    rw[hx]at h;rcases ih h with z|⟨z1,z2⟩
    ·exact .inl (by simp[List.lookup_cons,hx,z])
    ·exact .inr ⟨z1,by simp[List.lookup_cons,hx,z2]⟩
  ·simp only[if_neg hc,List.lookup_cons]at h;cases hx:x==n with
   |true=>rw[hx]at h;exact .inl (by simpa[List.lookup_cons,hx] using h)
   |false =>
    rw[hx]at h;rcases ih h with z|⟨z1,z2⟩
    ·exact .inl (by simp[List.lookup_cons,hx,z])
    ·exact .inr ⟨z1,by simp[List.lookup_cons,hx,z2]⟩
noncomputable def cxC(X:Cx)(N:List Str)(scope:Scope)(C:Addr)(s:Shared)(H:Hp)(ex:List Addr):Cx where
 prog:=X.prog
 w:=X.w
 K:=X.K
 mg:=X.mg
 base:=X.base
 A:=X.A
 N:=N
 s₀:=s
 H₀:=H
 env:=compEnvC scope (bt X.env scope.names []) C X.env
 outer:=X.stack
 stack:=X.stack
 ex:=ex
 fn:=fun _=>false
 calm:=X.calm
 pn:=[]
 xe:=fun _ _=>False
noncomputable def dh(D N:List Str):Prop:=D.length=N.length/\∀(i:Nat) (y:Str),D[i]?=some y->N[i]?=some y\/y="."\/y=".."
theorem dh.refl(N:List Str):dh N N:=⟨rfl,fun _ _ h=>.inl h⟩
theorem dh.set{D N:List Str}(h:dh D N)(j:Nat){m:Str}(hm:m="."\/m=".."):dh (D.set j m) N:=by
 refine⟨by rw[List.length_set];exact h.1,fun i y e=>?_⟩;by_cases hj:j=i
 ·subst hj;rw[List.getElem?_set,if_pos rfl]at e;split at e
  ·cases e;exact .inr hm
  ·cases e
 ·rw[List.getElem?_set_ne hj]at e;exact h.2 i y e
structure di(X:Cx)(N own:List Str)(scope:Scope):Prop where
 kind:scope.kind=.function
 nocell:∀y∈scope.names,y.2≠.cell
 names:∀y∈scope.names,y.2=.local->scope.names.lookup y.1=some .local
 nd:N.Nodup
 pre:N.take own.length=own
 loc:∀y∈scope.names,y.2=.local->y.1∈own\/y.1=".0"
 no0:(".0":Str)∉N
 tail:dh (N.drop own.length) X.N
 free:∀y∈scope.names,y.2=.free->X.env.scope.names.lookup y.1=some .cell\/X.env.scope.names.lookup y.1=some .free
 dot:∀y∈scope.names,y.1≠"."/\y.1≠".."
theorem mem_lookup{names:List (Str×NameKind)}{x:Str}{k:NameKind}(h:names.lookup x=some k):(x,k)∈names:=PySem.mem_of_lookup h
theorem di.cells{X:Cx}{N own:List Str}{scope:Scope}(S:di X N own scope)(ok:X.Ok):∀y∈scope.names,y.2=.free->∃a,X.env.cells.lookup y.1=some a:=fun y hy hf=>by
 rcases S.free y hy hf with z|z
 ·exact ok.has y.1 (.inl z)
 ·exact ok.has y.1 (.inr z)
theorem tD{X:Cx}{pins:List (Addr×Obj)}{σ:St}{H:Hp}{s s4:Shared}{N own:List Str}{scope:Scope}{C:Addr}{ex:List Addr}(S:di X N own scope)(I:Inv X pins σ H s)
  (hC:s.heap.objs.size<=C) (hos:s4.os=s.os) (hg:s4.gens=s.gens) (keep:∀b o,s.heap.get? b=some o->s4.heap.get? b=some o) (ns:∃m,s4.heap.Ns C m)
  (hex:∀b∈ex,f6 X pins H b/\b<s.heap.objs.size):Inv (cxC X N scope C s H ex) [] (List.replicate own.length none++σ) H s4:=by
 obtain⟨m0,hm0⟩:=ns;have sub:=dI (env:=X.env) scope.names [] (fun n c e=>by simp at e);have exlt:∀b∈ex,b<C:=fun b hb=>Nat.lt_of_lt_of_le (hex b hb).2 hC;have tl:own.length<=N.length:=by have:=congrArg List.length S.pre;rw[List.length_take]at this;omega
 refine⟨⟨I.ok.mod,?_,I.ok.glob,I.ok.blt,hC,fun x y c h1 h2=>I.ok.inj x y c (sub x c h1) (sub y c h2),fun x hx=>?_,fun x c h _=>absurd (show false=true from h) (by decide),I.ok.hd,I.ok.frames,.inl rfl,fun b hb=>⟨Nat.ne_of_lt (exlt b hb),fun x c e=>?_⟩,fun b o e=>I.bs b o e,?_,fun b o e hb=>?_,fun b hb=>?_,I.stack,I.p7⟩,
  hos,(by rw[hg];exact I.bare),Un.kept keep,⟨m0,hm0,fun i y v h1 h2 h3=>?_⟩,fun x c e=>?_,I.hok.fresh hC,fun x c e=>I.freeC x c (sub x c e),fun p hp=>absurd (show p∈([]:List (Addr×Obj)) from hp) (by simp),I.hok.kept keep,?_⟩
 ·show(relabel scope X.env).kind=.function;exact S.kind
 ·
  have hx':(relabel scope X.env).names.lookup x=some .cell\/(relabel scope X.env).names.lookup x=some .free:=hx;have hfree:scope.names.lookup x=some .free:=by
   rcases hx' with z|z
   ·rcases bD z with q|⟨_,q⟩
    ·exact absurd rfl (S.nocell _ (mem_lookup q))
    ·exact q
   ·rcases bD z with q|⟨q,_⟩
    ·exact q
    ·cases q
  obtain⟨a,ha⟩:=S.cells I.ok (x,.free) (mem_lookup hfree) rfl;exact⟨a,fJ ha scope.names [] (mem_lookup hfree)⟩
 ·exact(hex b hb).1.2.2.2.2.1 x c (sub x c e)
 ·exact Nat.le_trans I.ok.bsz I.sz
 ·obtain⟨f0,f1,f2,f3,f4,f5⟩:=(hex b hb).1;rcases f3 with z|z
  ·exact I.ok.noex b o e z
  ·exact absurd (Nat.lt_of_lt_of_le (Heap.lt_size e) (Nat.le_trans I.ok.bsz z)) (Nat.lt_irrefl _)
 ·intro hb';obtain⟨f0,f1,f2,f3,f4,f5⟩:=(hex b hb).1;rcases List.mem_cons.mp (I.iT b hb') with z|z
  ·exact f1 z
  ·exact f2 z
 ·
  have hi:own.length<=i:=by
   by_cases hi:i<own.length
   ·rw[List.getElem?_append_left (by simpa using hi),List.getElem?_replicate]at h2;split at h2<;>cases h2
   ·omega
  rw[List.getElem?_append_right (by simpa using hi),List.length_replicate]at h2;have hNd:(N.drop own.length)[i - own.length]?=some y:=by
   rw[List.getElem?_drop];have e:own.length+(i - own.length)=i:=by omega
   rw[e];exact h1
  have h3':(relabel scope X.env).names.lookup y=some .local\/(relabel scope X.env).names.lookup y=some .cell\/(relabel scope X.env).names.lookup y=some .free:=h3;have hfree:scope.names.lookup y=some .free:=by
   rcases h3' with z|z|z
   ·rcases bD z with q|⟨q,_⟩
    ·exfalso
     have hmem:y∈own:=by
      rcases S.loc (y,.local) (mem_lookup q) rfl with z|z
      ·exact z
      ·have z':y=".0":=z;exact absurd (List.mem_of_getElem? h1) (by rw[z'];exact S.no0)
     obtain⟨j,hj,ej⟩:=List.getElem_of_mem hmem;have hj':N[j]?=some y:=by
      have e1:(N.take own.length)[j]?=some y:=by rw[S.pre,List.getElem?_eq_getElem hj,ej]
      rw[List.getElem?_take_of_lt hj]at e1;exact e1
     have:=iU S.nd hj' h1;omega
    ·cases q
   ·rcases bD z with q|⟨_,q⟩
    ·exact absurd rfl (S.nocell _ (mem_lookup q))
    ·exact q
   ·rcases bD z with q|⟨q,_⟩
    ·exact q
    ·cases q
  have hX:X.N[i - own.length]?=some y:=by
   rcases S.tail.2 _ _ hNd with e|e|e
   ·exact e
   ·exact absurd e (S.dot _ (mem_lookup hfree)).1
   ·exact absurd e (S.dot _ (mem_lookup hfree)).2
  obtain⟨m,hn,hl⟩:=I.loc;have hv:X.env.scope.names.lookup y=some .cell\/X.env.scope.names.lookup y=some .free:=S.free (y,.free) (mem_lookup hfree) rfl;obtain⟨u,r,l⟩:=hl _ y v hX h2 (.inr hv);refine⟨u,r,?_⟩;rcases l with⟨k,_⟩|⟨k,c,e,z⟩
  ·have k':X.env.scope.names.lookup y=some .local:=k;rcases hv with q|q<;>(rw[k']at q;cases q)
  ·have hk:(relabel scope X.env).names.lookup y=some .cell\/(relabel scope X.env).names.lookup y=some .free:=by
    rcases h3' with q|q|q
    ·rcases bD q with q'|⟨q',_⟩
     ·rw[hfree]at q';cases q'
     ·cases q'
    ·exact .inl q
    ·exact .inr q
   obtain⟨o,ho,hd⟩:=z;exact .inr ⟨hk,c,fJ e scope.names [] (mem_lookup hfree),o,keep c o ho,hd⟩
 ·obtain⟨v,o,ho,hd⟩:=I.cell x c (sub x c e);exact⟨v,o,keep c o ho,hd⟩
 ·rw[List.length_append,List.length_replicate,I.len];have e:N.length=own.length+(N.drop own.length).length:=by rw[List.length_drop];omega
  show _=N.length;rw[e,S.tail.1]
theorem mZ{X:Cx}{pins pins':List (Addr×Obj)}{σ σ':St}{H H4:Hp}{s s4:Shared}{N:List Str}{scope:Scope}{C D:Addr}{ex:List Addr}{ys:List V}{its:List Value}{h':Heap}(I:Inv X pins σ H s)
  (I4:Inv (cxC X N scope C s H ex) pins' σ' H4 s4) (hD:s.heap.objs.size<=D) (hC:s.heap.objs.size<=C) (hDC:D≠C) (nD:H4 D=none) (rv:Vals ys its) (pl:s4.heap.PlainList D its.toArray) (hl:ys.length<=sizeLine)
  (sb:Heap.SameBut C s4.heap h') (hex:∀b∈ex,f6 X pins H b):Inv X pins σ (upd H4 D (.lst ys)) {s4 with heap:=h' }:=by
 have nC:H4 C=none:=I4.free;have lt:∀{b:Addr} {o:Obj},s.heap.get? b=some o->b≠C/\b≠D:=fun e=>⟨Nat.ne_of_lt (Nat.lt_of_lt_of_le (Heap.lt_size e) hC),Nat.ne_of_lt (Nat.lt_of_lt_of_le (Heap.lt_size e) hD)⟩
 refine I.Ad (s':={s4 with heap:=h' }) (ch:=ex) I4.os ⟨fun b o e n hb hx=>?_,fun b o e n hb hx=>?_,fun b o e n hx=>?_,fun b o e hx=>?_,fun b xs e=>?_,fun b o u e=>?_,fun b ps e=>?_⟩ (fun a o e=>?_) I4.bare fun b hb=>?_
 ·exact(sb.2 b (lt e).1).trans (I4.base.keep b o e n hb hx)
 ·obtain⟨sl,q⟩:=I4.base.slot b o e n hb hx;exact⟨sl,(sb.2 b (lt e).1).trans q⟩
 ·rw[aG (lt e).2];exact I4.base.free b o e n hx
 ·obtain⟨o',q⟩:=I4.base.there b o e hx;exact⟨o',(sb.2 b (lt e).1).trans q⟩
 ·have q:=I4.base.iC b xs e;rw[aG (bx q nD)];exact q
 ·have q:=I4.base.frzs b o u e;rw[aG (bx q nD)];exact q
 ·obtain⟨more,q⟩:=I4.base.tbls b ps e;exact⟨more,by rw[aG (bx q nD)];exact q⟩
 ·by_cases ha:a=D
  ·subst ha;rw[aS]at e;cases e;obtain⟨n,q⟩:=pl;exact⟨hl,its,n,rv,(sb.2 _ hDC).trans q⟩
  ·rw[aG ha]at e;refine(I4.hok a o e).gM (fun c v hc q=>(sb.2 c ?_).trans q) (fun c q=>?_) fun c xs q=>?_
   ·rintro rfl;rcases hc with z|z
    ·rw[<-z,nC]at e;cases e
    ·rw[nC]at z;cases z
   ·rw[aG (bx q nD)];exact q
   ·rw[aG (bx q nD)];exact q
 ·obtain⟨f0,f1,f2,f3,f4,f5⟩:=hex b hb;exact⟨f3,f1,f4,f5⟩
end L2
namespace L2
open PySem PySem.Spec PyProof.Rows
section
variable{prog:Program}{w:World}{A:Around}{E:Value->Shared->Prop}{R:Result->Shared->Prop}{s:Shared}
theorem lQ{elt target iter:Expr}{ifs:List Expr}{scope:Scope}{pos:Pos}{it acc:Value}{env:Env}(I:Nat->Shared->Prop)
  (turn:∀n s,I n s->wpAny (model prog w) A (pyNext it) (fun r s₁=>match r with
   |none=>R (.ok .next) s₁
   |some v=>wpAny (model prog w) A (letOwnedTupleGo target it v) (fun _ s₁=>wpAny (model prog w) A (assign target env v) (fun _ s₂ =>
     wpAny (model prog w) A (forIn ifs true fun c r=>if r=true then do let ok <-isTrue c env (eval c env);pure (ForInStep.yield ok) else pure (ForInStep.yield r)) (fun ok s₃ =>
      if ok=true then wpAny (model prog w) A (eval elt env) (fun x s₄ =>
       wpAny (model prog w) A (call (.builtin "list.append") [acc,x]) (fun _ s₅=>∃m,m<n/\I m s₅) (notedBy (model prog w) A env fun e s'=>R (.error e) s') s₄) (notedBy (model prog w) A env fun e s'=>R (.error e) s') s₃
      else ∃m,m<n/\I m s₃) (notedBy (model prog w) A env fun e s'=>R (.error e) s') s₂) (notedBy (model prog w) A env fun e s'=>R (.error e) s') s₁) (notedBy (model prog w) A env fun e s'=>R (.error e) s') s₁) (notedBy (model prog w) A env fun e s'=>R (.error e) s') s)
  (n:Nat) (h:I n s) :
  codeAny (model prog w) A (.compLoop (.ListComp elt [⟨target,iter,ifs,0⟩] scope pos) 0 it acc env) R s:=by
 refine codeAny_loop rfl I (fun n s hI=>?_) n h;show wpAny _ A ((compTurn (.ListComp elt [⟨target,iter,ifs,0⟩] scope pos) 0 it acc env).onRaise (fun x=>do noteFrame x env;theTreesLotGoes x)) _ _ s;refine wpAny_noted ?_;rw[compTurn_list];refine wpAny_bind (wpAny_standAt (wpAny_bind (wpAny_mono (turn n s hI) (fun r s₁ h₁=>?_) fun _ _ h'=>h')));cases r with
 |none=>exact wpAny_pure h₁
 |some v =>
  refine wpAny_bind (wpAny_mono h₁ (fun _ s₁' h₁'=>?_) fun _ _ h'=>h');refine wpAny_bind (wpAny_mono h₁' (fun _ s₂ h₂=>wpAny_bind (wpAny_mono h₂ (fun ok s₃ h₃=>?_) fun _ _ h'=>h')) fun _ _ h'=>h');cases ok with
  |false=>exact wpAny_pure ⟨rfl,h₃⟩
  |true =>
   exact wpAny_bind (wpAny_bind (wpAny_mono h₃ (fun x s₄ h₄=>wpAny_bind (wpAny_mono h₄ (fun _ s₅ h₅=>wpAny_pure (wpAny_pure ⟨rfl,h₅⟩)) fun _ _ h'=>h')) fun _ _ h'=>h'))
end
noncomputable def PIf(X:Cx)(ifs:List Expr)(t:TT):Prop :=
 ∀(pins:List (Addr×Obj)) (s:Shared) (σ:St) (H:Hp) (Q:Bool->Hp->Prop),Inv X pins σ H s->t σ H Q ->
  wpAny (model X.prog X.w) X.A (forIn ifs true fun c r=>if r=true then do let ok <-isTrue c X.env (eval c X.env);pure (ForInStep.yield ok) else pure (ForInStep.yield r)) (TP X pins σ Q) X.xe s
noncomputable def BQ:TT:=fun _ H Q=>Q true H
theorem qe{X:Cx}:PIf X [] BQ:=fun _ _ _ H _ I h=>wpAny_tests_nil ⟨H,I,h⟩
theorem qf{X:Cx}{c:Expr}{t:TT}(h:PT X c t):PIf X [c] t:=fun pins s σ H Q I q=>wpAny_tests_one (h pins s σ H Q I q)
noncomputable def tE(k:Nat)(J:It)(g:TG)(tt:TT)(te:TE)(Q:VK)(σ:St)(H1:Hp):Prop :=
  ∃W:Nat->Nat->List V->Hp->Prop,(∃m,W 0 m [] H1)/\∀i m ys H,W i m ys H->ys.length<=sizeLine /\
    ((J.stop i H/\∀p,H p=none->Q (.ref p) (upd H p (.lst ys))) \/
     (J.go i H/\∃NN:List V->Hp->Prop,(∀ys' H',NN ys' H'->∃m',m'<m/\W (i+1) m' ys' H')/\∀x H',J.yld i H x H'->g x (List.replicate k none++σ) H' fun σ2 H2=>∃own:St,own.length=k/\σ2=own++σ /\
        tt σ2 H2 fun b H3=>if b=true then te σ2 H3 fun y H4=>NN (ys++[y]) H4 else NN ys H3))
noncomputable def tF(k:Nat)(wi:TI)(g:TG)(tt:TT)(te:TE):TE:=fun σ H Q=>wi σ H fun J H1=>tE k J g tt te Q σ H1
section
variable{X:Cx}{N own:List Str}{scope:Scope}{tg iter elt:Expr}{ifs:List Expr}{wi:TI}{g:TG}{tt:TT}{te:TE}{pos:Pos}
theorem tH{pins:List (Addr×Obj)}{σ:St}{H:Hp}{s s4:Shared}{C D it:Addr}{fp:List Addr}{tn:Nat->Heap->Prop}{J:It}{Q:VK}{R:Result->Shared->Prop}
  (S:di X N own scope) (hc:X.calm=true) (hg:∀C s H ex,PG (cxC X N scope C s H ex) tg g) (hf:∀C s H ex,PIf (cxC X N scope C s H ex) ifs tt) (he:∀C s H ex,PE (cxC X N scope C s H ex) elt te)
  (I:Inv X pins σ H s) (T:Turn X.prog X.w X.K tg J fp it tn) (st:tn 0 s.heap) (f2:∀b∈fp,f6 X pins H b) (W:tE own.length J g tt te Q σ H)
  (hD:@Eq Nat D s.heap.objs.size) (hC:@Eq Nat C (s.heap.objs.size+1)) (hos:s4.os=s.os) (hgs:s4.gens=s.gens) (keep:∀b o,s.heap.get? b=some o->s4.heap.get? b=some o) (ns:∃m,s4.heap.Ns C m) (pl:s4.heap.PlainList D #[])
  (fin:∀s5 H5 ys its,Inv (cxC X N scope C s H fp) [] (List.replicate own.length none++σ) H5 s5->H5 D=none->Vals ys its->s5.heap.PlainList D its.toArray->ys.length<=sizeLine->(∀p,H5 p=none->Q (.ref p) (upd H5 p (.lst ys)))->R (.ok .next) s5) :
  codeAny (model X.prog X.w) X.A (.compStart (.ListComp elt [⟨tg,iter,ifs,0⟩] scope pos) 0 (.ref it) (.ref D) (compEnvC scope (bt X.env scope.names []) C X.env)) R s4:=by
 have fplt:∀b∈fp,@LT.lt Nat _ b s.heap.objs.size:=fun b hb=>by
  obtain⟨o,e,_⟩:=T.obj 0 s.heap st b hb;exact Heap.lt_size e
 have I4:Inv (cxC X N scope C s H fp) [] (List.replicate own.length none++σ) H s4:=tD S I (by omega) hos hgs keep ns fun b hb=>⟨f2 b hb,fplt b hb⟩
 have st4:tn 0 s4.heap:=T.keep 0 s.heap s4.heap st fun b _ o e=>keep b o e;have nD:H D=none:=I.hok.fresh (by omega);obtain⟨W,⟨m0,w0⟩,step⟩:=W;generalize hX':cxC X N scope C s H fp=X' at I4 fin;have eP:X'.prog=X.prog:=by rw[<-hX'];rfl
 have ew:X'.w=X.w:=by rw[<-hX'];rfl
 have eK:X'.K=X.K:=by rw[<-hX'];rfl
 have ec:X'.calm=true:=by rw[<-hX'];exact hc
 have eA:X'.A=X.A:=by rw[<-hX'];rfl
 have ee:X'.env=compEnvC scope (bt X.env scope.names []) C X.env:=by rw[<-hX'];rfl
 have exe:X'.xe=fun _ _=>False:=by rw[<-hX'];rfl
 have el:X'.env.locals=C:=by rw[ee];rfl
 have hg':PG X' tg g:=by rw[<-hX'];exact hg _ _ _ _
 have hf':PIf X' ifs tt:=by rw[<-hX'];exact hf _ _ _ _
 have he':PE X' elt te:=by rw[<-hX'];exact he _ _ _ _
 have s0:X'.s₀=s:=by rw[<-hX'];rfl
 have pn0:X'.pn=[]:=by rw[<-hX'];rfl
 have fpC:∀{H':Hp} {o:Obj},(∀b∈fp,H' b=none)->∀b∈fp,f6 X' [(D,o)] H' b:=fun {H' o} hn b hb=>by
  have ex:X'.ex=fp:=by rw[<-hX'];rfl
  refine⟨hn b hb,?_,?_,.inl (by rw[ex];exact hb),fun x c e=>?_,fun p hp=>?_⟩
  ·rw[el];have:=fplt b hb;exact Nat.ne_of_lt (by show @LT.lt Nat _ b C;omega)
  ·have e1:X'.fs=frs X.stack:=by rw[<-hX'];rfl
   rw[e1];intro z;obtain⟨f0,f1,f2',f3,f4,f5⟩:=f2 b hb;rcases List.mem_cons.mp (I.iT b z) with q|q
   ·exact f1 q
   ·exact f2' q
  ·have e1:X'.env.cells=bt X.env scope.names []:=by rw[ee];rfl
   rw[e1]at e;exact(f2 b hb).2.2.2.2.1 x c (dI scope.names [] (fun n c e=>by simp at e) x c e)
  ·rw[pn0,List.nil_append]at hp;have:p=(D,o):=by simpa using hp
   subst this;have:=fplt b hb;exact Nat.ne_of_gt (by show @LT.lt Nat _ b D;omega)
 have pinD:∀{σ':St} {H':Hp} {s':Shared} {o:Obj},Inv X' [] σ' H' s'->H' D=none->s'.heap.get? D=some o->(∀v,o.data≠.cell v)->Inv X' [(D,o)] σ' H' s':=fun {σ' H' s' o} I' n e d =>
  I'.cY fun p hp=>by
   have:p=(D,o):=by simpa using hp
   subst this;refine⟨e,n,?_,?_,d⟩
   ·rw[el];exact Nat.ne_of_lt (by show @LT.lt Nat _ D C;omega)
   ·have e1:X'.fs=frs X.stack:=by rw[<-hX'];rfl
    rw[e1];intro z;have zz:(D:Addr)∈frs X.stack:=z;rcases List.mem_cons.mp (I.iT D zz) with q|q
    ·have:=I.lt;rw[<-q]at this;exact absurd this (by show ¬@LT.lt Nat _ D s.heap.objs.size;omega)
    ·exact I.yj (a:=D) (by omega) q
 have start:∀s':Shared,s'=s4->codeAny (model X.prog X.w) X.A (.compLoop (.ListComp elt [⟨tg,iter,ifs,0⟩] scope pos) 0 (.ref it) (.ref D) (compEnvC scope (bt X.env scope.names []) C X.env)) R s':=by
  rintro s' rfl;refine lQ (fun n s'=>∃i ys its H',Inv X' [] (List.replicate own.length none++σ) H' s'/\tn i s'.heap/\(∀b∈fp,H' b=none)/\H' D=none/\Vals ys its/\s'.heap.PlainList D its.toArray/\W i n ys H') ?_ m0
   ⟨0,[],[],H,I4,st4,fun b hb=>(f2 b hb).1,nD,.nil,pl,w0⟩
  rintro n s3 ⟨i,ys,its,H3,I3,st3,fr3,nD3,rv3,⟨nn,pl3⟩,w3⟩;obtain⟨hlen,hstep⟩:=step i n ys H3 w3;have IP:=pinD I3 nD3 pl3 (fun v z=>by have z':Data.seq _ _=Data.cell v:=z;cases z');rcases hstep with⟨stop,qn⟩|⟨go,NN,hNN,turn⟩
  ·have d:=T.done X' eP ew eK ec i _ s3 _ H3 (notedBy (model X.prog X.w) X.A (compEnvC scope (bt X.env scope.names []) C X.env) fun e s'=>R (.error e) s') IP (fpC fr3) st3 stop;rw[eA]at d;refine thn d fun r s4 ⟨hr,I5⟩=>?_;subst hr;have e5:=(I5.pin (D,({cls:=.type "list",data:=.seq its.toArray nn}:Obj)) (by rw[pn0];simp)).1;exact fin s4 H3 ys its (I5.cY fun p hp=>by cases hp) nD3 rv3 ⟨nn,e5⟩ hlen qn
  ·have d:=T.item X' eP ew eK ec i _ s3 _ H3 (notedBy (model X.prog X.w) X.A (compEnvC scope (bt X.env scope.names []) C X.env) fun e s'=>R (.error e) s') IP (fpC fr3) st3 go;rw[eA]at d;refine thn d fun r s4 ⟨u,hr,h4⟩=>?_;subst hr;refine thn h4 fun _ s5 ⟨x,H5,I5,r5,y5,st5,fr5⟩=>?_;have nD5:H5 D=none:=(I5.pin (D,({cls:=.type "list",data:=.seq its.toArray nn}:Obj)) (by rw[pn0];simp)).2.1;have I5':=I5.pinned (fpC fr5) (T.obj _ _ st5);have a6:=hg' _ s5 _ H5 x u _ I5' r5 (turn x H5 y5);rw[eP,ew,eA,ee,exe]at a6;refine wpAny_mono a6 (fun _ s6 ⟨σ6,H6,I6,q6⟩=>?_) fun _ _ z=>False.elim z;obtain⟨ow,how,rfl,q6⟩:=q6;have a7:=hf' _ s6 _ H6 _ I6 q6;rw[eP,ew,eA,ee,exe]at a7;refine wpAny_mono a7 (fun b s7 ⟨H7,I7,q7⟩=>?_) fun _ _ z=>False.elim z;have back:∀{s8:Shared} {H8:Hp} {ys':List V} {its':List Value} {nn':Nat},Inv X' [] (ow++σ) H8 s8->tn (i+1) s8.heap->(∀b∈fp,H8 b=none)->H8 D=none->Vals ys' its'->s8.heap.PlainList D its'.toArray->(∃m',m'<n/\W (i+1) m' ys' H8) ->
     ∃m,m<n/\∃i ys its H',Inv X' [] (List.replicate own.length none++σ) H' s8/\tn i s8.heap/\(∀b∈fp,H' b=none)/\H' D=none/\Vals ys its/\s8.heap.PlainList D its.toArray/\W i m ys H':=fun {s8 H8 ys' its' nn'} I8 st8 fr8 n8 rv8 pl8 w8=>by
    obtain⟨m',hm,w8⟩:=w8;refine⟨m',hm,i+1,ys',its',H8,I8.weak (by simp[how]) (fun j v e=>?_),st8,fr8,n8,rv8,pl8,w8⟩;by_cases hj:j<own.length
    ·rw[List.getElem?_append_left (by simpa using hj),List.getElem?_replicate]at e;split at e<;>cases e
    ·rw[List.getElem?_append_right (by simpa using(Nat.not_lt.mp hj)),List.length_replicate]at e;rw[List.getElem?_append_right (by omega),how];exact e
   have tell:∀{σ':St} {H8:Hp} {s8:Shared},Inv X' ([(D,({cls:=.type "list",data:=.seq its.toArray nn}:Obj))]++iV fp s5.heap) σ' H8 s8->s8.heap.get? D=some {cls:=.type "list",data:=.seq its.toArray nn}/\H8 D=none/\tn (i+1) s8.heap/\∀b∈fp,H8 b=none:=fun {σ' H8 s8} I8=>by
    have p1:=I8.pin (D,({cls:=.type "list",data:=.seq its.toArray nn}:Obj)) (by rw[pn0];simp);refine⟨p1.1,p1.2.1,T.keep _ _ _ st5 fun b hb o e=>(I8.pin (b,o) (List.mem_append_right _ (List.mem_append_right _ (dG hb e)))).1,fun b hb=>?_⟩;obtain⟨o,e,d⟩:=T.obj _ _ st5 b hb;exact(I8.pin (b,o) (List.mem_append_right _ (List.mem_append_right _ (dG hb e)))).2.1
   cases b with
   |false =>
    rw[if_neg Bool.false_ne_true]at q7 ⊢;obtain⟨p1,p2,p3,p4⟩:=tell I7;exact back (nn':=0) (I7.cY fun p hp=>by cases hp) p3 p4 p2 rv3 ⟨nn,p1⟩ (hNN _ _ q7)
   |true =>
    rw[if_pos rfl]at q7 ⊢;have a8:=he' _ s7 _ H7 _ I7 q7;rw[eP,ew,eA,ee,exe]at a8;refine wpAny_mono a8 (fun y s8 ⟨yv,H8,I8,r8,q8⟩=>?_) fun _ _ z=>False.elim z;obtain⟨p1,p2,p3,p4⟩:=tell I8;have hsz:its.toArray.size<=sizeLine:=by rw[List.size_toArray,<-rv3.length];exact hlen
    refine wpAny_list_append_plain (hsz:=hsz) ⟨nn,p1⟩ fun h9 pl9 sb9=>?_;have I8':Inv X' [] (ow++σ) H8 s8:=I8.cY fun p hp=>by cases hp
    have ltC:∀x c,X'.env.cells.lookup x=some c->c≠D:=fun x c e=>by
     have e1:X'.env.cells=bt X.env scope.names []:=by rw[ee];rfl
     rw[e1]at e;have q:=dI scope.names [] (fun n c e=>by simp at e) x c e;obtain⟨v,z⟩:=I.cell x c q;have:@LT.lt Nat _ c s.heap.objs.size:=z.lt;exact Nat.ne_of_lt (by show @LT.lt Nat _ c D;omega)
    have I9:Inv X' [] (ow++σ) H8 {s8 with heap:=h9,toks:=s8.toks}:=I8'.turned (it:=D) (fun b o hb e=>(sb9.2 b hb).trans e) p2 (by rw[el];exact Nat.ne_of_lt (by show @LT.lt Nat _ D C;omega)) (.inr (by rw[s0];show @LE.le Nat _ s.heap.objs.size D;omega)) ltC (fun p hp=>by rw[pn0]at hp;cases hp);have pe9:(its++[y]).toArray=its.toArray.push y:=by simp
    refine back (nn':=0) (s8:={s8 with heap:=h9,toks:=s8.toks}) I9 (T.keep _ _ _ p3 fun b hb o e=>(sb9.2 b ?_).trans e) p4 p2 (rv3.append (.cons r8 .nil)) (by rw[pe9];exact pl9) (hNN _ _ q8);have:=fplt b hb;exact Nat.ne_of_lt (by show @LT.lt Nat _ b D;omega)
 exact codeAny_compStart_list (start _ rfl) (T.self _ _ _ _ _ st4 (start _ rfl))
theorem jc{pins:List (Addr×Obj)}{σ:St}{H:Hp}{s:Shared}{Q:VK}{RR:Value->Addr->Result->Shared->Prop}{E:Value->Shared->Prop}
  (S:di X N own scope) (hc:X.calm=true) (hg:∀C s H ex,PG (cxC X N scope C s H ex) tg g) (hf:∀C s H ex,PIf (cxC X N scope C s H ex) ifs tt) (he:∀C s H ex,PE (cxC X N scope C s H ex) elt te)
  {it:Addr} {fp:List Addr} {tn:Nat->Heap->Prop} {J:It} (I:Inv X pins σ H s) (T:Turn X.prog X.w X.K tg J fp it tn) (st:tn 0 s.heap) (f2:∀b∈fp,f6 X pins H b) (W:tE own.length J g tt te Q σ H)
  (fin:∀D C s5 H5 ys its,@Eq Nat D s.heap.objs.size->@Eq Nat C (s.heap.objs.size+1)->Inv (cxC X N scope C s H fp) [] (List.replicate own.length none++σ) H5 s5->H5 D=none->Vals ys its->s5.heap.PlainList D its.toArray->ys.length<=sizeLine->(∀p,H5 p=none->Q (.ref p) (upd H5 p (.lst ys)))->RR (.ref D) C (.ok .next) s5) :
  wpAny (model X.prog X.w) X.A (newList []) (fun acc s₃=>wpAny (model X.prog X.w) X.A (newFunctionEnv scope X.env.globals (bt X.env scope.names []) [] X.env.qual none .none (some X.env)) (fun cenv s₄ =>
   codeAny (model X.prog X.w) X.A (.compStart (.ListComp elt [⟨tg,iter,ifs,0⟩] scope pos) 0 (.ref it) acc {cenv with scope:=relabel scope X.env}) (RR acc cenv.locals) s₄) E s₃) E s:=by
 refine wpAny_newObj_type (wpAny_newFunctionEnv S.nocell (by intro y hy;simp at hy) (fun h₁ hns₁ hsb₁=>?_) S.kind)
 dsimp only at hns₁ hsb₁ ⊢
 generalize hH2:s.heap.push {cls:=.type "list",dict:=none,data:=.seq ([]:List Value).toArray}=H2 at hns₁ hsb₁ ⊢;have hC:H2.objs.size=s.heap.objs.size+1:=by rw[<-hH2,Heap.size_push]
 have hDC:s.heap.objs.size≠H2.objs.size:=by rw[hC];exact Nat.ne_of_lt (Nat.lt_succ_self _)
 have below:∀b:Addr,b<s.heap.objs.size->b≠H2.objs.size:=fun b hb=>Nat.ne_of_lt (by have hb':@LT.lt Nat _ b s.heap.objs.size:=hb;show @LT.lt Nat _ b H2.objs.size;omega);have old:∀b o,s.heap.get? b=some o->h₁.get? b=some o:=fun b o e=>hsb₁.extBut b o (below b (Heap.lt_size e)) (Heap.get?_push_of_some _ (hH2▸Heap.get?_push_of_some _ e));have hacc:h₁.PlainList s.heap.objs.size #[]:=⟨_,hsb₁.extBut _ _ hDC (Heap.get?_push_of_some _ (hH2▸Heap.get?_push_size _ rfl))⟩
 exact tH (s:=s) (s4:={s with heap:=h₁,toks:=s.toks+([]:List (Str×Value)).length}) (C:=H2.objs.size) (D:=s.heap.objs.size) S hc hg hf he I T st f2 W rfl hC rfl rfl old ⟨_,hns₁⟩ hacc
  fun s5 H5 ys its I5 n5 rv5 pl5 hl5 q5=>fin _ _ s5 H5 ys its rfl hC I5 n5 rv5 pl5 hl5 q5
theorem wj(S:di X N own scope)(hc:X.calm=true)(hi:PI X tg iter wi)(hg:∀C s H ex,PG (cxC X N scope C s H ex) tg g)(hf:∀C s H ex,PIf (cxC X N scope C s H ex) ifs tt)(he:∀C s H ex,PE (cxC X N scope C s H ex) elt te)
  (hs:∀x,foldedSetIterable iter X.env x=pure x:=by intro _;rfl):PE X (.ListComp elt [⟨tg,iter,ifs,0⟩] scope pos) (tF own.length wi g tt te):=by
 intro pins s σ H Q I h;rw[eval_ListComp];refine wpAny_comprehension_free (use:=none) (cl:=bt X.env scope.names []) rfl hs (du (S.cells I.ok)) S.kind S.names ?_;refine thn (hi pins s σ H _ I h) fun v s1 h1=>thn h1 fun itv s2 h2=>?_;obtain⟨it,fp,tn,J,H2,e,I2,T,st2,f2,W⟩:=h2;subst e;refine jc (RR:=fun acc C=>compPost (model X.prog X.w) X.A X.xe none (EP X pins σ Q) acc C) S hc hg hf he I2 T st2 f2 W ?_;intro D C s5 H5 ys its hD hC I5 n5 rv5 pl5 hl5 q5;obtain⟨m5,hn5,_⟩:=I5.loc;exact⟨m5,hn5,fun h' sb=>⟨.ref D,_,mZ I2 I5 (Nat.le_of_eq hD.symm) (by show @LE.le Nat _ s2.heap.objs.size C;omega) (Nat.ne_of_lt (by show @LT.lt Nat _ D C;omega)) n5 rv5 pl5 hl5 sb f2,rfl,q5 D n5⟩⟩
theorem wm{i:Nat}{y:Str}{py spos:Pos}(S:di X N own scope)(hc:X.calm=true)(hN:X.N.Nodup)(hiN:X.N[i]?=some y)(hy:X.env.scope.names.lookup y=some .local)
  (hi:PI X tg iter wi) (hg:∀C s H ex,PG (cxC X N scope C s H ex) tg g) (hf:∀C s H ex,PIf (cxC X N scope C s H ex) ifs tt) (he:∀C s H ex,PE (cxC X N scope C s H ex) elt te)
  (hsw:swapsWith (.ListComp elt [⟨tg,iter,ifs,0⟩] scope pos) (some (.Name y py)) spos.line X.env=pure true:=by rfl)
  (hs:∀x,foldedSetIterable iter X.env x=pure x:=by intro _;rfl):PS X (.Assign [.Name y py] (.ListComp elt [⟨tg,iter,ifs,0⟩] scope pos) spos) (yu (tF own.length wi g tt te) (p9 i)):=by
 intro pins s σ H D I h;rw[exec_Assign_Name_used _ _ _ _ hsw];refine wpAny_bind (wpAny_standAt (wpAny_bind ?_));show wpAny _ X.A (do let _ <-comprehension (.ListComp elt [⟨tg,iter,ifs,0⟩] scope pos) scope X.env _ (newList []) false (eval iter X.env) (some (assign (.Name y py) X.env))) _ _ s;refine wpAny_bind (wpAny_mono (wpAny_comprehension_free (use:=some (assign (.Name y py) X.env)) (cl:=bt X.env scope.names []) (Q:=fun _ s'=>SP X pins D .next s') rfl hs (du (S.cells I.ok)) S.kind S.names ?_) (fun _ s' hq=>wpAny_pure (wpAny_pure hq)) fun _ _ e=>e);refine thn (hi pins s σ H _ I h) fun v s1 h1=>thn h1 fun itv s2 h2=>?_;obtain⟨it,fp,tn,J,H2,e,I2,T,st2,f2,W⟩:=h2;subst e;refine jc (RR:=fun acc C=>compPost (model X.prog X.w) X.A X.xe (some (assign (.Name y py) X.env)) (fun _ s'=>SP X pins D .next s') acc C) S hc hg hf he I2 T st2 f2 W ?_;intro DD C s5 H5 ys its hD hC I5 n5 rv5 pl5 hl5 q5;obtain⟨m5,hn5,_⟩:=I5.loc;have nC5:H5 C=none:=I5.free;have B:Inv X pins σ (upd H5 DD (.lst ys)) {s5 with heap:=s5.heap}:=mZ I2 I5 (Nat.le_of_eq hD.symm) (by show @LE.le Nat _ s2.heap.objs.size C;omega) (Nat.ne_of_lt (by show @LT.lt Nat _ DD C;omega)) n5 rv5 pl5 hl5 (Heap.SameBut.refl ..) f2;show wpAny _ X.A (assign (.Name y py) X.env (.ref DD)) _ _ s5;refine wpAny_assign_Name (kq (s:=s5) B hN hiN (.inl hy) (show RelV (.ref DD) (.ref DD) from rfl) (fun s6 I6 ⟨a,sb,ha⟩=>?_) (.inr hy));have ltC:@LT.lt Nat _ X.env.locals C:=by have:@LT.lt Nat _ X.env.locals s2.heap.objs.size:=I2.lt;omega
 have cellsC:∀x c,X.env.cells.lookup x=some c->c≠C:=fun x c e=>by
  obtain⟨v,z⟩:=I2.cell x c e;have:@LT.lt Nat _ c s2.heap.objs.size:=z.lt;exact Nat.ne_of_lt (by show @LT.lt Nat _ c C;omega)
 have hCa:C≠a:=by
  rcases ha with z|z
  ·rw[z];exact Nat.ne_of_gt ltC
  ·exact(cellsC _ _ z).symm
 refine⟨m5,hn5.sameBut sb hCa,fun h' sb'=>?_⟩;refine⟨σ.set i (some (.ref DD)),upd H5 DD (.lst ys),I6.turned (it:=C) (t':=s6.toks) (fun b o hb e=>(sb'.2 b hb).trans e) ?_ (Nat.ne_of_gt ltC) (.inr (by have:@LE.le Nat _ X.s₀.heap.objs.size s2.heap.objs.size:=I2.sz;show @LE.le Nat _ X.s₀.heap.objs.size C;omega)) cellsC (fun p hp=>?_),q5 DD n5⟩
 ·rw[aG (Nat.ne_of_gt (by show @LT.lt Nat _ DD C;omega))];exact nC5
 ·have:@LT.lt Nat _ p.1 s2.heap.objs.size:=Heap.lt_size (I2.pin p hp).1;exact Nat.ne_of_lt (by show @LT.lt Nat _ p.1 C;omega)
end
end L2
namespace L2
open PySem PySem.Spec PyProof.Rows
section
variable{X:Cx}{tg:Expr}
end
section
variable{X:Cx}
noncomputable def AH:V->Option Int->Option Int->Hp->VK->Prop:=fun x lo hi H Q=>∃z,x=.str z/\z.length<=sizeLine/\Q (.str (PySem.StrLaws.sliceText z lo hi)) H
theorem ka(x:Str)(lo hi:Option Int)(hz:x.length<=sizeLine):(PySem.StrLaws.sliceText x lo hi).length<=sizeLine:=Nat.le_trans (Txt.slice_le x lo hi) hz
theorem yN:SlR X AH:=by
 intro pins s σ H x v vl vu lo hi sl Q I rx hs pl pu h;obtain⟨z,rfl,hz,q⟩:=h;obtain⟨t,rfl⟩:=rx;refine⟨"str",_,slot_str_getitem.lookup,typeIs_str _ _ _,?_⟩;have fin:(PySem.StrLaws.sliceText z lo hi).length<=sizeLine/\∀t' k,EP X pins σ Q (.str (PySem.StrLaws.sliceText z lo hi) t') {s with toks:=k}:=⟨ka z lo hi hz,fun t' k=>⟨.str _,H,I.tok k,⟨_,rfl⟩,q⟩⟩
 cases pl with
 |none =>
  cases pu with
  |none=>exact wpAny_getItem_str_slice (l:=none) (u:=none) (st:=none) hs rfl (post_val_or_str fin)
  |int j tj=>exact wpAny_getItem_str_slice (l:=none) (u:=some (j,tj)) (st:=none) hs rfl (post_val_or_str fin)
 |int i ti =>
  cases pu with
  |none=>exact wpAny_getItem_str_slice (l:=some (i,ti)) (u:=none) (st:=none) hs rfl (post_val_or_str fin)
  |int j tj=>exact wpAny_getItem_str_slice (l:=some (i,ti)) (u:=some (j,tj)) (st:=none) hs rfl (post_val_or_str fin)
theorem kD:∀(l:List (Str×Tok)),Vals (l.map fun p=>V.str p.1) (strValues l)
 |[]=>.nil
 |(x,t)::r=>.cons ⟨t,rfl⟩ (kD r)
theorem gc:∀{ys:List Str}{its:List Value},Vals (ys.map V.str) its->∃l:List (Str×Tok),its=strValues l/\l.map (·.1)=ys
 |[],_,.nil=>⟨[],rfl,rfl⟩
 |y::ys,_,.cons r t=>by
  obtain⟨tk,rfl⟩:=r;obtain⟨l,rfl,e⟩:=gc t;exact⟨(y,tk)::l,rfl,by rw[List.map_cons,e]⟩
theorem tI:MtR X "str.split" (fun x xs H Q=>∃a b,x=.str a/\xs=[.str b]/\(b.length==0)=false/\a.length+2<=sizeLine /\
  ∀p,H p=none->Q (.ref p) (upd H p (.lst ((Txt.split a b).map V.str)))):=by
 intro pins s σ H x xs v us Q I rx rs h;obtain⟨x,y,rfl,rfl,hy,hz,q⟩:=h;obtain⟨t,rfl⟩:=rx;obtain⟨u0,rfl,u,rfl⟩:=vals1 rs;have hf:H s.heap.objs.size=none:=I.hok.fresh (Nat.le_refl _);have q':=q _ hf;have fin:∀(l:List (Str×Tok)) (k:Nat),l.length<=sizeLine->l.map (·.1)=Txt.split x y->EP X pins σ Q (.ref s.heap.objs.size) {s with toks:=k,heap:=s.heap.push {cls:=.type "list",data:=.seq (strValues l).toArray}}:=fun l k hl e =>
  ⟨.ref s.heap.objs.size,_,I.laid (t':=k) (o:=.lst ((Txt.split x y).map V.str)) (fun b u e=>Heap.get?_push_of_some _ e) (Nat.le_refl _)
   ⟨by rw[<-e,List.length_map,List.length_map];exact hl,strValues l,_,by rw[<-e,List.map_map];exact kD l,Heap.get?_push_size _ rfl⟩,rfl,q'⟩
 have one:1<=sizeLine:=by decide
 cases h1:(decide (x.length<y.length)||decide (Builtin.Str.strKind x<Builtin.Str.strKind y))
 ·cases hf:(Builtin.Str.occurrences x y 0 x.length (x.length+1)).isEmpty
  ·have hn:(Builtin.Str.partsBetween x (Builtin.Str.occurrences x y 0 x.length (x.length+1)) y.length).length<=sizeLine:=by
    have:=PySem.StrLaws.occ_length_le x y 0 x.length (x.length+1);simp only[Builtin.Str.partsBetween,List.length_map,List.length_zip,List.length_cons,List.length_append];omega
   refine call_meets F.slot_str_split (typeIs_str _ _ _) F.entry_str_split (F.args_str_split_2 _ _) (meets_str_split_sep x y t u h1 hy hf (by omega) hn) ?_;show wants _ _ _ {s with toks:=_,heap:=s.heap.push {cls:=.type "list",data:=.seq (strsFrom s.toks (Builtin.Str.partsBetween x (Builtin.Str.occurrences x y 0 x.length (x.length+1)) y.length)).toArray}};rw[strsFrom_eq];refine fin (numbered s.toks _) _ ?_ ((numbered_texts _ _).trans ((if_neg (ne_true_of_eq_false h1)).trans (if_neg (ne_true_of_eq_false hf))).symm);have e:=congrArg List.length (numbered_texts s.toks (Builtin.Str.partsBetween x (Builtin.Str.occurrences x y 0 x.length (x.length+1)) y.length));rw[List.length_map]at e;omega
  ·exact call_meets F.slot_str_split (typeIs_str _ _ _) F.entry_str_split (F.args_str_split_2 _ _) (meets_str_split_not_found x y t u h1 hy hf)
    (fin [(x,t)] _ one ((if_neg (ne_true_of_eq_false h1)).trans (if_pos hf)).symm)
 ·exact call_meets F.slot_str_split (typeIs_str _ _ _) F.entry_str_split (F.args_str_split_2 _ _) (meets_str_split_cannot_occur x y t u h1)
   (fin [(x,t)] _ one (if_pos h1).symm)
theorem wo:MtR X "str.join" (fun x xs H Q=>∃a p ys,x=.str a/\xs=[.ref p]/\SqL X.K H p (ys.map V.str)/\JoinOk a ys=true/\Q (.str (Txt.join a ys)) H):=by
 intro pins s σ H x xs v us Q I rx rs h;obtain⟨a,p,ys,rfl,rfl,hq,hok,q⟩:=h;obtain⟨t,rfl⟩:=rx;obtain⟨u,rfl,r⟩:=vals1 rs;cases r;obtain⟨its,rv,pl,hz⟩:=I.list hq;obtain⟨l,rfl,e⟩:=gc rv;exact SC.join pl.isList e hok fun t' k=>⟨.str _,H,I.tok k,⟨_,rfl⟩,q⟩
theorem eB:∀{bs:List Bool}{its:List Value},Vals (bs.map V.bl) its->its=bs.map Value.bool
 |[],_,.nil=>rfl
 |b::bs,_,.cons r t=>by
  cases r;rw[eB t];rfl
theorem tJ:X.calm=true->d5 X (.builtin "all") (fun xs H Q=>∃(p:Addr) (bs:List Bool),xs=[.ref p]/\SqL X.K H p (bs.map V.bl)/\Q (.bl (bs.all id)) H):=by
 intro hc pins s σ H xs us Q I rs h;obtain⟨p,bs,rfl,hq,q⟩:=h;obtain⟨u,rfl,r⟩:=vals1 rs;cases r;obtain⟨its,rv,pl,hz⟩:=I.list hq;have e:=eB rv;subst e;have hlt:p<s.heap.objs.size:=by obtain⟨_,_,e,_⟩:=pl;exact Heap.lt_size e
 refine call_all_walk (wpAny_pyIter_list pl.isList ?_);refine⟨s.heap.objs.size,[s.heap.objs.size,p],[s.heap.objs.size],(bs.map Value.bool).toArray.size,_,_,fun i=>(bs[i]?).getD true,rfl,Walks.list (A:=X.A.in1) (I.ok.hd hc) _ p (Nat.ne_of_lt hlt) (bs.map Value.bool).toArray,
  ⟨⟨_,Heap.get?_push_size _ rfl,rfl,rfl⟩,pl.isList.push _⟩,fun i v s' Q' E' hP hQ=>?_,fun h' tk hk=>?_⟩
 ·have hP':(bs.map Value.bool)[i]?=some v:=by simpa using hP
  rw[List.getElem?_map]at hP';cases e:bs[i]? with
  |none=>rw[e]at hP';cases hP'
  |some b =>
   rw[e]at hP';cases hP';simp only[e,Option.getD_some]at hQ;exact wpAny_truthy_bool hQ
 ·have e:((List.range (bs.map Value.bool).toArray.size).all fun i=>(bs[i]?).getD true)=bs.all id:=by
   rw[List.size_toArray,List.length_map];exact PyProof.Rows.LSm.range_all bs
  rw[e];exact⟨.bl _,H,I.kept (t':=tk) (PyProof.Rows.LSm.kept_iter hk),rfl,q⟩
end
section
variable{X:Cx}
theorem lR:d5 X (.builtin "repr") (fun xs H Q=>∃b,xs=[.bl b]/\Q (.str (if b then "True" else "False")) H):=by
 intro pins s σ H xs us Q I rs h;obtain⟨b,rfl,q⟩:=h;obtain⟨u,rfl,r⟩:=vals1 rs;cases r;exact PySem.P.repr_of_bool ⟨.str _,H,I.tok _,⟨_,rfl⟩,q⟩
end
end L2
namespace L2
open PySem PySem.Spec PyProof.Rows
noncomputable def yO(N own:List Str)(scope:Scope)(out:List (Str×NameKind)):Bool :=
 decide (scope.kind=.function)&&scope.names.all (fun y=>decide (y.2≠.cell))&&scope.names.all (fun y=>decide (y.2≠.local)||decide (scope.names.lookup y.1=some .local))&&decide N.Nodup&&decide (N.take own.length=own) &&
 scope.names.all (fun y=>decide (y.2≠.local)||decide (y.1∈own)||decide (y.1=".0"))&&decide ((".0":Str)∉N)&&scope.names.all (fun y=>decide (y.2≠.free)||decide (out.lookup y.1=some .cell)||decide (out.lookup y.1=some .free))&&scope.names.all (fun y=>decide (y.1≠".")&&decide (y.1≠".."))
theorem tK{X:Cx}{N own:List Str}{scope:Scope}{out:List (Str×NameKind)}(hn:X.env.scope.names=out)(ht:dh (N.drop own.length) X.N)(h:yO N own scope out=true):di X N own scope:=by
 unfold yO at h;simp only[Bool.and_eq_true,List.all_eq_true,Bool.or_eq_true,decide_eq_true_eq]at h;obtain⟨⟨⟨⟨⟨⟨⟨⟨h1,h2⟩,h3⟩,h4⟩,h5⟩,h6⟩,h7⟩,h8⟩,h9⟩:=h;refine⟨h1,h2,fun y hy e=>?_,h4,h5,fun y hy e=>?_,h7,ht,fun y hy e=>?_,h9⟩
 ·rcases h3 y hy with z|z
  ·exact absurd e z
  ·exact z
 ·rcases h6 y hy with(z|z)|z
  ·exact absurd e z
  ·exact .inl z
  ·exact .inr z
 ·rw[hn];rcases h8 y hy with(z|z)|z
  ·exact absurd e z
  ·exact .inl z
  ·exact .inr z
end L2
namespace L2
open PySem PySem.Spec PyProof.Rows
section
variable{prog:Program}{w:World}
noncomputable def bg(prog:Program)(w:World)(h:Heap)(k:Str×List Str)(a:Addr):Prop :=
 ∃o n t b,h.get? a=some o/\o.cls=.type "tuple"/\o.data=.seq #[.str k.1 t,.ref b] n/\IsTupleKey (PySem.strKind prog w) h k.2 b
theorem bg.typeIs{s:Shared}{k:Str×List Str}{a:Addr}(x:bg prog w s.heap k a):s.TypeIs (.ref a) "tuple":=let ⟨o,_,_,_,ho,hc,_⟩:=x;⟨o,ho,hc⟩
theorem bg.inj{h:Heap}{a:Addr}{x y:Str×List Str}(hx:bg prog w h x a)(hy:bg prog w h y a):x=y:=by
 obtain⟨o,n,t,b,ho,_,hd,hi⟩:=hx;obtain⟨o',n',t',b',ho',_,hd',hi'⟩:=hy;obtain rfl:o=o':=Option.some.inj (ho.symm.trans ho');rw[hd]at hd';injection hd' with h1 _
 simp only[Array.mk.injEq,List.cons.injEq,Value.str.injEq,Value.ref.injEq,and_true]at h1;obtain⟨⟨e1,_⟩,e2⟩:=h1;subst e2;exact Prod.ext e1 (hi.inj hi')
theorem bg.keeps{h h':Heap}{k:Str×List Str}{a d:Addr}{o:Obj}{es ep}(x:bg prog w h k a)(ho:h.get? d=some o)(hd:o.data=.dict es ep)(hs:Heap.SameBut d h h'):bg prog w h' k a:=by
 obtain⟨o',n,t,b,ho',hc,hd',hi⟩:=x;have hne:a≠d:=by
  rintro rfl;obtain rfl:o'=o:=Option.some.inj (ho'.symm.trans ho);rw[hd]at hd';exact nomatch hd'
 exact⟨o',n,t,b,(hs.2 a hne).trans ho',hc,hd',hi.keeps ho hd hs⟩
noncomputable def lS(prog:Program)(w:World)(k:Str×List Str):Int:=reduceHash (Builtin.Tuple.tupleHashOf [(PySem.strKind prog w).hash k.1,tupleKeyHash (PySem.strKind prog w) k.2])
variable{A:Around}{E:Value->Shared->Prop}{s:Shared}
noncomputable def tL(prog:Program)(w:World)(hh:Heap)(v:Value)(n:Int)(d:Nat):Prop :=
 ∀{A:Around} {E:Value->Shared->Prop} {s:Shared} {Q:Int->Shared->Prop},s.heap=hh->A.units<cLine->Q n {s with toks:=s.toks+d}->wpAny (model prog w) A (pyHash v) Q E s
theorem oO{hh:Heap}(x:Str)(t:Tok):tL prog w hh (.str x t) ((PySem.strKind prog w).hash x) 1:=fun _ _ h=>(PySem.strKind prog w).pyHash (by simp[PySem.strKind,Value.isStrOf]) h
theorem lT{hh:Heap}{ks:List Str}{b:Addr}(hk:IsTupleKey (PySem.strKind prog w) hh ks b):tL prog w hh (.ref b) (tupleKeyHash (PySem.strKind prog w) ks) (ks.length+1):=fun e hu h=>by
 subst e;exact wpAny_pyHash_tuple hu hk h
theorem gN{k:Str×List Str}{a:Addr}{Q:Int->Shared->Prop}(hu:A.units+1<cLine)(hk:bg prog w s.heap k a)(h:Q (lS prog w k) {s with toks:=s.toks+(k.2.length+3)}):
  wpAny (model prog w) A (pyHash (.ref a)) Q E s:=by
 have hT:=hk.typeIs;obtain⟨o,n,t,b,ho,_,hd,hi⟩:=hk;unfold pyHash
 first|unfold pyHashByItsType|skip
 first|refine wpAny_bind (wpAny_cRoomFor_or (.inr (by omega)) ?_)|skip
 refine wpAny_bind (wpAny_specialOf hT PySem.F.slot_tuple_hash.lookup ?_);show wpAny _ _ (if (some (Value.builtin "tuple.__hash__")==some Value.none)=true then _ else _) Q E s;rw[if_neg (by rw[beq_builtin_none];exact Bool.false_ne_true)];refine wpAny_bind (wpAny_specialOf hT PySem.F.slot_tuple_hash.lookup ?_);show wpAny _ _ (callSpecialIfBoundUnlessNone? (.ref a) "__hash__" _ >>= _) Q E s;refine wpAny_bind (wpAny_callSpecialIfBoundUnlessNone?_slot hT PySem.F.slot_tuple_hash (wpAny_call_entry PySem.F.slot_tuple_hash hT PySem.F.entry_tuple_hash ?_ (PySem.F.args_tuple_hash_1 _)));show wpAny _ _ (Builtin.Tuple.tupleItemsOf (.ref a) >>= _) _ _ s;refine wpAny_bind (wpAny_tupleItemsOf ho hd ?_);refine wpAny_bind ?_;rw[<-Array.forIn_toList];refine wpAny_forIn_list _
  (fun rest (b':Array Int) s'=>(rest=[Value.str k.1 t,Value.ref b]/\b'=#[]/\s'=s)\/(rest=[Value.ref b]/\b'.toList=[(PySem.strKind prog w).hash k.1]/\s'={s with toks:=s.toks+1}) \/
   (rest=[]/\b'.toList=[(PySem.strKind prog w).hash k.1,tupleKeyHash (PySem.strKind prog w) k.2]/\s'={s with toks:=s.toks+1+(k.2.length+1)}))
  _ ?_ ?_ _ _ (.inl ⟨rfl,rfl,rfl⟩)
 ·rintro x rest b' s' (⟨e,rfl,rfl⟩|⟨e,hb,rfl⟩|⟨e,_,_⟩)
  ·cases e;refine wpAny_bind (oO k.1 t (hh:=s'.heap) rfl (by show A.units+1<cLine;exact hu) ?_)
   first
    |exact wpAny_pure (.inr (.inl ⟨rfl,rfl,rfl⟩))
    |exact wpAny_bind (wpAny_pure (wpAny_pure (.inr (.inl ⟨rfl,rfl,rfl⟩))))
  ·cases e;refine wpAny_bind (lT hi rfl (by show A.units+1<cLine;exact hu) ?_)
   first
    |exact wpAny_pure (.inr (.inr ⟨rfl,by simp[hb],rfl⟩))
    |exact wpAny_bind (wpAny_pure (wpAny_pure (.inr (.inr ⟨rfl,by simp[hb],rfl⟩))))
  ·cases e
 ·rintro b' s' (⟨e,_,_⟩|⟨e,_,_⟩|⟨_,hb,rfl⟩)
  ·cases e
  ·cases e
  ·show wpAny _ _ (retInt (Builtin.Tuple.tupleHashOf b'.toList)) _ _ _;rw[hb];refine wpAny_ret_mkInt ?_;have et:s.toks+1+(k.2.length+1)+1=s.toks+(k.2.length+3):=by omega
   show wpAny _ _ (if (decide (-(2:Int) ^ 63<=Builtin.Tuple.tupleHashOf [(PySem.strKind prog w).hash k.1,tupleKeyHash (PySem.strKind prog w) k.2])&&decide (Builtin.Tuple.tupleHashOf [(PySem.strKind prog w).hash k.1,tupleKeyHash (PySem.strKind prog w) k.2]<2 ^ 63))=true then _ else _) Q E _;unfold lS reduceHash at h;by_cases hr:(decide (-(2:Int) ^ 63<=Builtin.Tuple.tupleHashOf [(PySem.strKind prog w).hash k.1,tupleKeyHash (PySem.strKind prog w) k.2])&&decide (Builtin.Tuple.tupleHashOf [(PySem.strKind prog w).hash k.1,tupleKeyHash (PySem.strKind prog w) k.2]<2 ^ 63))=true
   ·rw[if_pos hr];rw[if_pos hr]at h;exact wpAny_pure (by rw[et];exact h)
   ·rw[if_neg hr];rw[if_neg hr]at h;exact wpAny_bind (wpAny_rule (wpAny_pure (by rw[et];exact h)))
theorem m6{x y:Str×List Str}{a b:Addr}{P:Fin->Shared->Prop}(hu:A.units<cLine)(hx:bg prog w s.heap x a)(hy:bg prog w s.heap y b)(h:P (.done (.ret (.bool (decide (x=y))))) s):
  wpAny (model prog w) A (Builtin.«tuple.__eq__» ⟨[.ref a,.ref b],[]⟩) P E s:=by
 have hTb:=hy.typeIs;obtain⟨oa,na,ta,pa,hoa,_,hda,hia⟩:=hx;obtain⟨ob,nb,tb,pb,hob,_,hdb,hib⟩:=hy;show wpAny _ _ (isInstance (.ref b) (.type "tuple") >>= _) _ _ s;refine wpAny_bind (wpAny_isInstance hTb isSubtype_tuple_tuple ?_);simp only[Bool.not_true,Bool.false_eq_true,if_false];refine wpAny_bind (wpAny_tupleItemsOf hoa hda ?_);refine wpAny_bind (wpAny_tupleItemsOf hob hdb ?_);refine wpAny_bind ?_;refine wpAny_forIn_list _
  (fun rest r s'=>r.1=none/\s'=s/\((rest=[(Value.str x.1 ta,Value.str y.1 tb),(Value.ref pa,Value.ref pb)])\/(rest=[(Value.ref pa,Value.ref pb)]/\x.1=y.1)\/(rest=[]/\x=y)))
  _ ?_ ?_ _ _ ⟨rfl,rfl,.inl rfl⟩
 ·rintro⟨u,v⟩ rest r s' ⟨hr,rfl,(e|⟨e,e1⟩|⟨e,_⟩)⟩
  ·cases e;refine wpAny_bind ((PySem.strKind prog w).eqBool (a:=x.1) (b:=y.1) (by simp[PySem.strKind,Value.isStrOf]) (by simp[PySem.strKind,Value.isStrOf]) ?_);by_cases hk:x.1=y.1
   ·rw[decide_eq_true hk];simp only[Bool.not_true,Bool.false_eq_true,if_false];exact wpAny_pure ⟨rfl,rfl,.inr (.inl ⟨by first|rfl|trivial,hk⟩)⟩
   ·rw[decide_eq_false hk];simp only[Bool.not_false,if_true];rw[decide_eq_false (fun z=>hk (by rw[z]))]at h;exact wpAny_bind (wpAny_pure (wpAny_pure (wpAny_pure h)))
  ·cases e;refine wpAny_bind (wpAny_eqBool_tuple hu hia hib ?_);by_cases hk:x.2=y.2
   ·rw[decide_eq_true hk];simp only[Bool.not_true,Bool.false_eq_true,if_false];exact wpAny_pure ⟨rfl,rfl,.inr (.inr ⟨by first|rfl|trivial,Prod.ext e1 hk⟩)⟩
   ·rw[decide_eq_false hk];simp only[Bool.not_false,if_true];rw[decide_eq_false (fun z=>hk (by rw[z]))]at h;exact wpAny_bind (wpAny_pure (wpAny_pure (wpAny_pure h)))
  ·cases e
 ·rintro⟨r1,r2⟩ s' ⟨hr,rfl,(e|⟨e,_⟩|⟨_,rfl⟩)⟩
  ·cases e
  ·cases e
  ·simp only at hr;subst hr;refine wpAny_pure ?_;rw[decide_eq_true rfl]at h;exact h
theorem gO{x y:Str×List Str}{a b:Addr}{Q:Bool->Shared->Prop}(hu:A.units+2<cLine)(hx:bg prog w s.heap x a)(hy:bg prog w s.heap y b)(h:Q (decide (x=y)) s):
  wpAny (model prog w) A (eqBool (.ref a) (.ref b)) Q E s:=by
 unfold eqBool
 try with_reducible refine wpAny_holding ?_
 show wpAny _ _ (if (Value.ref a==Value.ref b)=true then _ else _) Q E s;by_cases hab:(Value.ref a==Value.ref b)=true
 ·rw[if_pos hab];have e:a=b:=by have:=eq_of_beq hab;injection this
  subst e;obtain rfl:=hx.inj hy;exact wpAny_bind (wpAny_rule (wpAny_pure (by simpa using h)))
 ·rw[if_neg hab];exact wpAny_bind (wpAny_richCompare_same_room (op:=.Eq) hx.typeIs hy.typeIs PySem.F.slot_tuple_eq
   (wpAny_call_entry PySem.F.slot_tuple_eq hx.typeIs PySem.F.entry_tuple_eq (m6 (by first|(show A.units+1<cLine;omega)|(show A.units<cLine;omega)|(show A.units+1+1<cLine;omega)) hx hy ⟨_,rfl,(fun e=>nomatch e),wpAny_truthy_bool h⟩) (PySem.F.args_tuple_eq_2 _ _)) (by omega))
theorem gf{ks:List Str}{a:Addr}{n:Nat}{Q:Bool->Shared->Prop}(hk:IsTupleKey (PySem.strKind prog w) s.heap ks a)(h:Q true s):wpAny (model prog w) A (eqIsQuiet (n+1) (.ref a)) Q E s:=by
 have hT:=hk.typeIs;obtain⟨o,items,n',ho,_,hd,hi⟩:=hk;unfold eqIsQuiet;refine wpAny_bind (wpAny_specialOf hT PySem.F.slot_tuple_eq.lookup ?_);show wpAny _ _ (isInstance (.ref a) (.type "tuple") >>= _) _ _ s;refine wpAny_bind (wpAny_isInstance hT isSubtype_tuple_tuple ?_);simp only[Bool.not_true,Bool.false_eq_true,if_false];refine wpAny_bind (wpAny_seqItems ho hd ?_);refine wpAny_bind ?_;show wpAny _ _ (forIn items _ _) _ _ s;rw[<-Array.forIn_toList];refine wpAny_forIn_list _ (fun rest r s'=>r.1=none/\s'=s/\∀v∈rest,carriedByValue v=true) _ ?_ ?_ _ _ ⟨rfl,rfl,hi.byValue⟩
 ·rintro v rest r s' ⟨hr,rfl,hall⟩;rw[eqIsQuiet_byValue _ (hall v List.mem_cons_self)];refine wpAny_bind (wpAny_pure ?_);simp only[Bool.not_true,Bool.false_eq_true,if_false];exact wpAny_pure ⟨rfl,rfl,fun u hu'=>hall u (List.mem_cons_of_mem _ hu')⟩
 ·rintro⟨r1,r2⟩ s' ⟨hr,rfl,_⟩;simp only at hr;subst hr;exact wpAny_pure h
theorem iA{k:Str×List Str}{a:Addr}{Q:Bool->Shared->Prop}(hk:bg prog w s.heap k a)(h:Q true s):wpAny (model prog w) A (eqIsQuiet 8 (.ref a)) Q E s:=by
 have hT:=hk.typeIs;obtain⟨o,n,t,b,ho,_,hd,hi⟩:=hk;unfold eqIsQuiet;refine wpAny_bind (wpAny_specialOf hT PySem.F.slot_tuple_eq.lookup ?_);show wpAny _ _ (isInstance (.ref a) (.type "tuple") >>= _) _ _ s;refine wpAny_bind (wpAny_isInstance hT isSubtype_tuple_tuple ?_);simp only[Bool.not_true,Bool.false_eq_true,if_false];refine wpAny_bind (wpAny_seqItems ho hd ?_);refine wpAny_bind ?_;rw[<-Array.forIn_toList];refine wpAny_forIn_list _ (fun rest r s'=>r.1=none/\s'=s/\(rest=[Value.str k.1 t,Value.ref b]\/rest=[Value.ref b]\/rest=[])) _ ?_ ?_ _ _ ⟨rfl,rfl,.inl rfl⟩
 ·rintro v rest r s' ⟨hr,rfl,(e|e|e)⟩
  ·cases e;rw[eqIsQuiet_byValue _ rfl];refine wpAny_bind (wpAny_pure ?_);simp only[Bool.not_true,Bool.false_eq_true,if_false];exact wpAny_pure ⟨rfl,rfl,.inr (.inl (by first|rfl|trivial))⟩
  ·cases e;refine wpAny_bind (gf hi ?_);simp only[Bool.not_true,Bool.false_eq_true,if_false];exact wpAny_pure ⟨rfl,rfl,.inr (.inr (by first|rfl|trivial))⟩
  ·cases e
 ·rintro⟨r1,r2⟩ s' ⟨hr,rfl,_⟩;simp only at hr;subst hr;exact wpAny_pure h
end
noncomputable def gh(prog:Program)(w:World):HeapKind prog w (Str×List Str) where
 is:=bg prog w
 hash:=lS prog w
 draws:=fun k=>k.2.length+3
 room:=fun A=>A.units+2<cLine
 inj:=fun hx hy=>hx.inj hy
 keeps:=fun x ho hd hs=>x.keeps ho hd hs
 pyHash:=fun hu hk h=>gN (by omega) hk h
 eqBool:=fun hu hx hy h=>gO hu hx hy h
 quiet:=fun hk h=>iA hk h
end L2
namespace L2
open PySem PySem.Spec PyProof.Rows
noncomputable abbrev dJ:=Str×List Str
noncomputable def eC(K:PySem.W.Frag)(H:Hp)(v:V)(k:dJ):Prop:=∃a b,v=.ref a/\SqT K H a [.str k.1,.ref b]/\SqT K H b (k.2.map V.str)
noncomputable def h_(P:Program)(w:World)(d:Addr)(xs:List (dJ×Addr×Value)):HO:=.ext fun h=>(d==sysModules)=false/\∃o es ep,h.get? d=some o/\o.ExactDict/\o.data=.dict es ep/\es.toList=xs.map (entryOfKey (gh P w))/\(xs.map (·.1)).Nodup
noncomputable def d7(P:Program)(w:World)(K:PySem.W.Frag)(H:Hp)(d:Addr)(ks:List dJ):Prop:=∃xs,H d=some (h_ P w d xs)/\xs.map (·.1)=ks/\∀x∈xs,eC K H (.ref x.2.1) x.1
theorem jd{P:Program}{w:World}:∀{ks:List Str}{its:List Value},Vals (ks.map V.str) its->ItemsAre (PySem.strKind P w) ks its
 |[],_,.nil=>.nil
 |k::ks,_,.cons r t=>by
  obtain⟨tk,rfl⟩:=r;exact .cons (by simp[PySem.strKind,Value.isStrOf]) (jd t)
theorem wq{X:Cx}{pins:List (Addr×Obj)}{σ:St}{H:Hp}{s:Shared}{b:Addr}{ks:List Str}(I:Inv X pins σ H s)(e:SqT X.K H b (ks.map V.str)):IsTupleKey (PySem.strKind X.prog X.w) s.heap ks b:=by
 obtain⟨its,r,⟨o,h1,h2,n,h3⟩,_⟩:=I.tuple e;exact⟨o,its.toArray,n,h1,h2,h3,by simpa using jd r⟩
theorem iG{X:Cx}{pins:List (Addr×Obj)}{σ:St}{H:Hp}{s:Shared}{a:Addr}{k:dJ}(I:Inv X pins σ H s)(e:eC X.K H (.ref a) k):bg X.prog X.w s.heap k a:=by
 obtain⟨a',b,q,e1,e2⟩:=e;cases q;obtain⟨its,r,⟨o,h1,h2,n,h3⟩,_⟩:=I.tuple e1;cases r with
 |cons r1 r2 =>
  cases r2 with
  |cons r2 r3 =>
   cases r3;obtain⟨t,rfl⟩:=r1;cases r2;exact⟨o,n,t,b,h1,h2,h3,wq I e2⟩
section
variable{X:Cx}{pins:List (Addr×Obj)}{σ:St}{H:Hp}{s:Shared}{pos:Pos}
theorem Inv.BR(I:Inv X pins σ H s):sysModules<s.heap.objs.size:=by
 obtain⟨o,es,ep,ho,_⟩:=I.mod.glob;have h1:@LT.lt Nat _ mainGlobals s.heap.objs.size:=Heap.lt_size (I.bk _ _ ho);obtain⟨mb,⟨o',es',ep',ho',_⟩,_⟩:=I.mod.blt;have h2:@LT.lt Nat _ builtinsNs s.heap.objs.size:=Heap.lt_size (I.bk _ _ ho');revert h1 h2;show @LT.lt Nat _ mainGlobals s.heap.objs.size->@LT.lt Nat _ builtinsNs s.heap.objs.size->@LT.lt Nat _ sysModules s.heap.objs.size;unfold mainGlobals builtinsNs sysModules;omega
theorem je(I:Inv X pins σ H s){d:Addr}{xs:List (dJ×Addr×Value)}(h:H d=some (h_ X.prog X.w d xs))(hk:∀x∈xs,eC X.K H (.ref x.2.1) x.1):(d==sysModules)=false/\s.heap.DictOfH (gh X.prog X.w) d xs:=by
 obtain⟨⟨h1,o,es,ep,h2,h3,h4,h5,h6⟩,_⟩:=I.hok d _ h;exact⟨h1,o,es,ep,h2,h3,h4,h5,fun x hx=>iG I (hk x hx),h6⟩
theorem xS{P:Program}{w:World}{H':Hp}{h:Heap}{d:Addr}{xs:List (dJ×Addr×Value)}(hd:(d==sysModules)=false)(x:h.DictOfH (gh P w) d xs):bI P w H' h d (h_ P w d xs):=by
 obtain⟨o,es,ep,h2,h3,h4,h5,_,h6⟩:=x;exact⟨⟨hd,o,es,ep,h2,h3,h4,h5,h6⟩,⟨o,h2⟩,fun h1 h2 ⟨q0,o,es,ep,q1,q2,q3,q4,q5⟩ k=>⟨q0,o,es,ep,k _ q1,q2,q3,q4,q5⟩⟩
theorem wt:PE X (.Dict [] [] pos) (fun _ H Q=>∀p,H p=none->Q (.ref p) (upd H p (h_ X.prog X.w p []))):=fun pins s σ H Q I h =>
 wpAny_Dict_empty ⟨.ref s.heap.objs.size,_,I.laid (a:=s.heap.objs.size) (o:=h_ X.prog X.w s.heap.objs.size []) (t':=s.toks) (fun _ _ q=>Heap.get?_push_of_some _ q) (Nat.le_refl _)
  (xS (beq_eq_false_iff_ne.mpr (Ne.symm (Nat.ne_of_lt I.BR))) (Heap.DictOfH.new s.heap)),rfl,h _ (I.hok.fresh (Nat.le_refl _))⟩
theorem fK{xs:List (dJ×Addr×Value)}(k:dJ):(atKey xs k).isSome=decide (k∈xs.map (·.1)):=by
 unfold atKey;rw[Option.isSome_map,Bool.eq_iff_iff,List.find?_isSome,decide_eq_true_eq,List.mem_map];constructor
 ·rintro⟨x,hx,e⟩;exact⟨x,hx,of_decide_eq_true e⟩
 ·rintro⟨x,hx,e⟩;exact⟨x,hx,decide_eq_true e⟩
theorem rG(hu:X.A.units+3<cLine):OpR X (compareOp .NotIn) (fun x y H Q=>∃k d ks,eC X.K H x k/\y=.ref d/\d7 X.prog X.w X.K H d ks/\Q (.bl (!decide (k∈ks))) H):=by
 intro pins s σ H x y v u Q I rx ry h;obtain⟨k,d,ks,hx,rfl,⟨xs,hd,hks,hall⟩,q⟩:=h;cases ry;obtain⟨a,b,rfl,e1,e2⟩:=id hx;cases rx;obtain⟨h1,h2⟩:=je I hd hall;refine wpAny_notIn_heap (knd:=gh X.prog X.w) (k:=k) (by show X.A.units+1+2<cLine;omega) (iG I hx) h1 h2 ?_;rw[fK,hks];exact⟨.bl _,H,I.tok _,rfl,q⟩
theorem wu(hu:X.A.units+3<cLine):j9 X (fun o i v H Q=>∃d k ks,o=.ref d/\eC X.K H i k/\d7 X.prog X.w X.K H d ks/\k∉ks/\ks.length<=1000/\∀H',d7 X.prog X.w X.K H' d (ks++[k])->(∀b,b≠d->H' b=H b)->Q H'):=by
 intro pins s σ H o i v ov iv u Q I ro ri rv h;obtain⟨d,k,ks,rfl,hi,⟨xs,hd,hks,hall⟩,hn,hl,q⟩:=h;cases ro;obtain⟨a,b,rfl,e1,e2⟩:=id hi;cases ri;obtain⟨h1,h2⟩:=je I hd hall;have hxl:xs.length<=sizeLine:=by
  have:=congrArg List.length hks;rw[List.length_map]at this;rw[this];exact Nat.le_of_lt (rC hl)
 refine wpAny_setItem_heap (hsz:=hxl) (knd:=gh X.prog X.w) (k:=k) (by show X.A.units+1+2<cLine;omega) (iG I hi) h2 fun h' h2' sb=>?_;have hno:atKey xs k=none:=by
  have:=fK (xs:=xs) k;rw[hks,decide_eq_false hn]at this;cases e:atKey xs k with
  |none=>rfl
  |some _=>rw[e]at this;cases this
 rw[storedH_new hno]at h2';obtain⟨o',es',ep',g1,_⟩:=id h2';refine⟨upd H d (h_ X.prog X.w d (xs++[(k,a,u)])),I.write (x:=d) (e:=d) (by rw[hd];exact True.intro) (.inl rfl) (fun b q hb z=>(sb.2 b hb).trans z) ⟨o',g1⟩ (xS h1 h2'),q _ ⟨_,aS,by rw[List.map_append,hks];rfl,fun x hx=>?_⟩ fun b hb=>aG hb⟩;have kT:∀{a':Addr} {ys:List V},SqT X.K H a' ys->SqT X.K (upd H d (h_ X.prog X.w d (xs++[(k,a,u)]))) a' ys:=fun {a' ys} z=>by
  rcases z with(z|⟨o,z⟩)|z
  ·exact .inl (.inl (by rw[aG (sF z hd (fun z=>nomatch z))];exact z))
  ·exact .inl (.inr ⟨o,by rw[aG (sF z hd (fun z=>nomatch z))];exact z⟩)
  ·exact .inr z
 have keep:∀{y:V} {k':dJ},eC X.K H y k'->eC X.K (upd H d (h_ X.prog X.w d (xs++[(k,a,u)]))) y k':=fun {y k'} ⟨a',b',z1,z2,z3⟩=>⟨a',b',z1,kT z2,kT z3⟩
 rcases List.mem_append.mp hx with m|m
 ·exact keep (hall x m)
 ·have:x=(k,a,u):=by simpa using m
  subst this;exact keep hi
end
end L2
namespace L2
open PySem PySem.Spec PyProof.Rows
noncomputable def leS(a b:Str):Bool:=!decide (b.cps.toList<a.cps.toList)
theorem gk(a b:Str):leS a b=true↔a.cps.toList<=b.cps.toList:=by
 simp only[leS,Bool.not_eq_true',decide_eq_false_iff_not];exact List.not_lt
theorem gP(a b c:Str)(h1:leS a b=true)(h2:leS b c=true):leS a c=true:=by
 rw[gk]at h1 h2 ⊢;exact List.le_trans h1 h2
theorem rH(a b:Str):(leS a b||leS b a)=true:=by
 rw[Bool.or_eq_true,gk,gk];exact List.le_total _ _
theorem tM{x y:Str}(h:x.cps.toList=y.cps.toList):x=y:=by
 cases x;cases y;congr
 exact Array.toList_inj.mp h
theorem gm{a b:Str}(h1:leS a b=true)(h2:leS b a=true):a=b:=by
 rw[gk]at h1 h2;exact tM (List.le_antisymm h1 h2)
noncomputable def aH(l:List Str):List Str:=l.mergeSort leS
theorem bW(l:List Str):(aH l).Perm l:=List.mergeSort_perm l leS
theorem dv(l:List Str):(aH l).Pairwise (fun a b=>leS a b=true):=List.pairwise_mergeSort gP rH l
theorem gn:∀(l:List Str) (p:Str),risingS p l=true->(p::l).Pairwise (fun a b=>leS a b=true)
 |[],p,_=>by simp
 |x::r,p,h=>by
  have h':(!ltCps x.cps.toList p.cps.toList&&risingS x r)=true:=h;obtain⟨h1,h2⟩:=Bool.and_eq_true_iff.mp h';have ih:=gn r x h2;have hpx:leS p x=true:=by rw[ltCps_eq]at h1;exact h1
  refine List.pairwise_cons.mpr ⟨fun y hy=>?_,ih⟩;rcases List.mem_cons.mp hy with e|e
  ·rw[e];exact hpx
  ·exact gP _ _ _ hpx ((List.pairwise_cons.mp ih).1 y e)
theorem lU{l:List Str}(h:sortedS l=true):l.Pairwise (fun a b=>leS a b=true):=by
 cases l with
 |nil=>exact .nil
 |cons x r=>exact gn r x h
theorem fg:∀{l m:List Str},l.Perm m->l.Pairwise (fun a b=>leS a b=true)->m.Pairwise (fun a b=>leS a b=true)->l=m
 |[],m,hp,_,_=>(List.Perm.nil_eq hp)
 |x::l,m,hp,h1,h2=>by
  cases m with
  |nil=>exact absurd hp.length_eq (by simp)
  |cons y m =>
   obtain⟨a1,a2⟩:=List.pairwise_cons.mp h1;obtain⟨b1,b2⟩:=List.pairwise_cons.mp h2;have hxy:x=y:=by
    have m1:x∈y::m:=hp.mem_iff.mp List.mem_cons_self;have m2:y∈x::l:=hp.mem_iff.mpr List.mem_cons_self;rcases List.mem_cons.mp m1 with e|e
    ·exact e
    ·rcases List.mem_cons.mp m2 with e'|e'
     ·exact e'.symm
     ·exact gm (a1 y e') (b1 x e)
   subst hxy;rw[fg (List.Perm.cons_inv hp) a2 b2]
theorem tN{l m:List Str}(hp:l.Perm m)(hs:sortedS l=true):l=aH m:=fg (hp.trans (bW m).symm) (lU hs) (dv m)
theorem ia{l m:List Str}(hp:l.Perm m):aH l=aH m:=fg ((bW l).trans (hp.trans (bW m).symm)) (dv l) (dv m)
theorem a5(l:List Str):(aH l).length=l.length:=(bW l).length_eq
section
variable{prog:Program}{w:World}{A:Around}{E:Value->Shared->Prop}{s:Shared}
theorem bX:∀{ys:List Str}{its:List Value},Vals (ys.map V.str) its->StrsAre its ys
 |[],_,.nil=>.nil
 |y::ys,_,.cons r t=>by
  obtain⟨tk,rfl⟩:=r;exact .cons y tk (bX t)
theorem dM:∀{its:List Value}{ys:List Str},StrsAre its ys->Vals (ys.map V.str) its
 |_,_,.nil=>.nil
 |_,_,.cons x t h=>.cons ⟨t,rfl⟩ (dM h)
theorem fL{x:Value}{Q:Value->Shared->Prop}(hc:wpAny (model prog w) A.in1 (collect x) (fun vs s1=>∃ss,StrsAre vs ss/\vs.length<64 /\
      ∀(h':Heap) (vs':List Value) (e:Nat),(∀b o,s1.heap.get? b=some o->h'.get? b=some o)->h'.get? s1.heap.objs.size=some (seqObj "list" vs'.toArray e)->StrsAre vs' (aH ss)->Q (.ref s1.heap.objs.size) {s1 with heap:=h' }) E s) :
    wpAny (model prog w) A (call (.builtin "sorted") [x]) Q E s:=by
  refine Calls.call_function_entry kind_sorted plain_sorted entry_sorted (args_sorted1 _) ?_;unfold Builtin.«sorted»;refine wpAny_bind (m:=checkCount "sorted" 1 1 _) (wpAny_pure ?_);refine wpAny_bind (wpAny_mono hc (fun vs s1 h1=>?_) fun _ _ e=>e);obtain⟨ss,hS,h64,h⟩:=h1
  refine wpAny_bind (wpAny_newList ?_ (by have : (64 : Nat) ≤ sizeLine := by decide
                                          omega))
  have hoL:(s1.heap.push (seqObj "list" vs.toArray 0)).get? s1.heap.objs.size=some (seqObj "list" vs.toArray 0):=Heap.get?_push_size _ rfl;show wpAny _ _ _ _ _ {s1 with heap:=s1.heap.push (seqObj "list" vs.toArray 0)};refine wpAny_bind (wpAny_holding (wpAny_call_entry slot_list_sort ⟨_,hoL,rfl⟩ entry_list_sort (list_sort_treeK strKind_oneLt hoL hS.keysOf (fun v₁ v₂ rest e=>keyKind_strs (by rw[<-e];exact hS)) h64 fun st' a1 a2=>⟨_,rfl,?_⟩) (args_list_sort _)));obtain⟨ss',b1,b2,b3⟩:=sorted_out_str hS a1 a2;obtain⟨e,he⟩:=sortedHeap_at (out:=(arrOf st').map (·.2)) hoL;rw[tN b2 b3]at b1;refine wpAny_pure ⟨_,rfl,h _ ((arrOf st').map (·.2)).toList e (fun b o q=>?_) (by rw[Array.toArray_toList];exact he) b1⟩;have hlt:b<s1.heap.objs.size:=Heap.lt_size q;show(sortedHeap (s1.heap.push (seqObj "list" vs.toArray 0)) s1.heap.objs.size vs ((arrOf st').map (·.2))).get? b=some o;rw[sortedHeap_old (Nat.ne_of_lt hlt) (by rw[size_push'];exact Nat.lt_succ_of_lt hlt)];exact Heap.get?_push_of_some _ q
theorem kb{l:Addr}{vs:List Value}{Q:List Value->Shared->Prop}(hl:IsTup s.heap l vs.toArray)
  (h:Q vs {s with heap:=(s.heap.push (seqObj "list" #[] 0)).update s.heap.objs.size (Obj.mapSeq (·++vs.toArray))}) (hsz:vs.length<=sizeLine) :
  wpAny (model prog w) A (collect (.ref l)) Q E s:=by
 obtain⟨o,ho,hc,n,hd⟩:=id hl;unfold collect;refine wpAny_bind (wpAny_runValue (codeAny_builtin entry_proto_collect' ?_));show wpAny _ _ (do again (.builtin "list.__iadd__" ⟨[<-newList [],.ref l],[]⟩)) _ _ s;refine wpAny_bind (wpAny_newList (wpAny_pure ⟨Code.quiet_builtin _ (by decide +kernel),codeAny_builtin entry_list_iadd' ?_⟩));show wpAny _ _ (Builtin.List.listExtendWith (.ref s.heap.objs.size) (.ref l) (.ref s.heap.objs.size)) _ _ {s with heap:=s.heap.push (seqObj "list" #[] 0)};unfold Builtin.List.listExtendWith;have ho':(s.heap.push (seqObj "list" #[] 0)).get? l=some o:=Heap.get?_push_of_some _ ho;refine wpAny_bind (wpAny_typeOf (T:="tuple") ⟨o,ho',hc⟩ ?_);have ht:(Value.type "tuple"==Value.type "tuple")=true:=by rfl
 rw[if_pos (by rw[ht];simp)];refine wpAny_bind (listItems_at ho' hd ?_);refine wpAny_bind (listItems_at (xs:=#[]) (n:=0) (Heap.get?_push_size _ rfl) rfl ?_);rw[if_neg (by simp)];refine wpAny_bind (listUpdate_at (xs:=#[]) (n:=0) (Heap.get?_push_size _ rfl) rfl ?_ (Nat.zero_le _) (by show(#[]++vs.toArray).size<=sizeLine+1;simp only[Array.size_append,List.size_toArray,List.length_nil];omega));refine wpAny_pure ?_;show wpAny (model prog w) A (do
   let o <-load s.heap.objs.size
   match o.data with
   |.seq xs _=>pure xs.toList
   |_=>unsupported "internal:collect") Q E {s with heap:=(s.heap.push (seqObj "list" #[] 0)).update s.heap.objs.size (Obj.mapSeq (·++vs.toArray))}
 refine wpAny_bind (wpAny_load (get?_update_seq (Heap.get?_push_size _ rfl) _) ?_);show wpAny _ _ (pure ((#[]:Array Value)++vs.toArray).toList) Q E _;rw[show((#[]:Array Value)++vs.toArray).toList=vs by simp];exact wpAny_pure h
end
section
variable{X:Cx}
theorem fB{h:Heap}{vs:List Value}{b:Addr}{o:Obj}(e:h.get? b=some o):((h.push (seqObj "list" #[] 0)).update h.objs.size (Obj.mapSeq (·++vs.toArray))).get? b=some o:=by
 rw[Heap.get?_update_ne _ _ _ _ (Nat.ne_of_lt (Heap.lt_size e))];exact Heap.get?_push_of_some _ e
theorem m7{pins:List (Addr×Obj)}{σ:St}{H:Hp}{s s1:Shared}{Q:VK}{ss:List Str}{h':Heap}{vs':List Value}{e:Nat}(I:Inv X pins σ H s)(k1:∀b o,s.heap.get? b=some o->s1.heap.get? b=some o)(hs1:∃h1 t1,s1={s with heap:=h1,toks:=t1})
  (hk:∀b o,s1.heap.get? b=some o->h'.get? b=some o) (hat:h'.get? s1.heap.objs.size=some (seqObj "list" vs'.toArray e)) (hS:StrsAre vs' (aH ss)) (hsz:s.heap.objs.size<=s1.heap.objs.size) (hl:ss.length<=sizeLine)
  (q:∀p,H p=none->Q (.ref p) (upd H p (.lst ((aH ss).map V.str)))):EP X pins σ Q (.ref s1.heap.objs.size) {s1 with heap:=h' }:=by
 obtain⟨h1,t1,rfl⟩:=hs1;have I1:Inv X pins σ H {s with heap:=h1,toks:=t1}:=I.kept (t':=t1) k1;refine⟨.ref h1.objs.size,_,I1.laid (t':=t1) (o:=.lst ((aH ss).map V.str)) hk (Nat.le_refl _) ⟨by rw[List.length_map,a5];exact hl,vs',e,dM hS,hat⟩,rfl,q _ (I1.hok.fresh (Nat.le_refl _))⟩
theorem ib:d5 X (.builtin "sorted") (fun xs H Q=>∃(p:Addr) (ys:List Str),xs=[.ref p]/\(SqL X.K H p (ys.map V.str)\/SqT X.K H p (ys.map V.str))/\ys.length<64/\∀q,H q=none->Q (.ref q) (upd H q (.lst ((aH ys).map V.str)))):=by
 intro pins s σ H xs us Q I rs h;obtain⟨p,ys,rfl,hq,h64,q⟩:=h;obtain⟨u,rfl,r⟩:=vals1 rs;cases r;have hl:ys.length<=sizeLine:=Nat.le_of_lt (Nat.lt_of_lt_of_le h64 (by decide));have fin:∀(its:List Value),Vals (ys.map V.str) its->∀(h':Heap) (vs':List Value) (e:Nat),(∀b o,((s.heap.push (seqObj "list" #[] 0)).update s.heap.objs.size (Obj.mapSeq (·++its.toArray))).get? b=some o->h'.get? b=some o) ->
   h'.get? ((s.heap.push (seqObj "list" #[] 0)).update s.heap.objs.size (Obj.mapSeq (·++its.toArray))).objs.size=some (seqObj "list" vs'.toArray e)->StrsAre vs' (aH ys) ->
   EP X pins σ Q (.ref ((s.heap.push (seqObj "list" #[] 0)).update s.heap.objs.size (Obj.mapSeq (·++its.toArray))).objs.size) {s with heap:=h' }:=fun its rv h' vs' e hk hat hS =>
  m7 (s1:={s with heap:=(s.heap.push (seqObj "list" #[] 0)).update s.heap.objs.size (Obj.mapSeq (·++its.toArray))}) I (fun b o z=>fB z) ⟨_,s.toks,rfl⟩ hk hat hS (by show s.heap.objs.size<=((s.heap.push (seqObj "list" #[] 0)).update s.heap.objs.size (Obj.mapSeq (·++its.toArray))).objs.size;rw[Heap.size_update,size_push'];exact Nat.le_succ _) hl q
 rcases hq with hq|hq
 ·obtain⟨its,rv,pl,hz⟩:=I.list hq;have el:its.length=ys.length:=by rw[<-rv.length,List.length_map]
  exact fL (collect_list pl.isList ⟨ys,bX rv,by omega,fun h' vs' e hk hat hS=>fin its rv h' vs' e hk hat hS⟩ (by omega))
 ·obtain⟨its,rv,pl,hz⟩:=I.tuple hq;have el:its.length=ys.length:=by rw[<-rv.length,List.length_map]
  exact fL (kb pl ⟨ys,bX rv,by omega,fun h' vs' e hk hat hS=>fin its rv h' vs' e hk hat hS⟩ (by omega))
end
end L2
namespace L2
open PySem PySem.Spec PyProof.Rows
noncomputable abbrev sK(P:Program)(w:World):=PySem.strKind P w
noncomputable def aK(P:Program)(w:World)(h:Heap)(a:Addr)(led:Bool)(D:List Str):Prop :=
 ∃(L:List (Str×Tok)) (es:Array (Int×Value)) (ep:Nat) (t:SetTable),h.get? a=some {cls:=.type "set",dict:=none,data:=.set es ep t}/\es.toList=L.map (fun p=>((sK P w).hash p.1,Value.str p.1 p.2)) /\
  (L.map (·.1)).Perm D/\D.Nodup/\t.fits es.size=true/\es.size<scanBound/\t.led=led/\(es.size=0\/t.plain=false)
section
variable{prog:Program}{w:World}{A:Around}{E:Value->Shared->Prop}{s:Shared}
theorem jf{L:List (Str×Tok)}:ElemsOf (sK prog w) (L.map fun p=>((sK prog w).hash p.1,Value.str p.1 p.2)):=by
 intro e he;obtain⟨p,_,rfl⟩:=List.mem_map.mp he;exact⟨⟨p.1,by simp[PySem.strKind,Value.isStrOf],rfl⟩,rfl⟩
theorem fC(x y:Str)(t:Tok):(sK prog w).is x (.str y t)=decide (x=y):=by
 rw[Bool.eq_iff_iff];simp[PySem.strKind,Value.isStrOf];exact⟨fun h=>h.symm,fun h=>h.symm⟩
theorem oP(t:SetTable)(es:Array (Int×Value))(h:Int)(x:Value):(layNew t es h x).2.1.led=t.led:=by
 unfold layNew;split
 ·show(SetTable.orStandIn (t.put _).1 _).led=t.led;unfold SetTable.orStandIn;split<;>rfl
 ·rfl
theorem lV(t:SetTable)(es:Array (Int×Value))(n:Nat):(relayAll t es n).2.1.led=t.led:=by
 unfold relayAll;split
 ·rename_i t' order he;have:t'.led=t.led:=by
   unfold SetTable.relaid SetTable.laid at he;cases hc:SetTable.layClean (SetTable.sizeAbove n - 1) (es.map (·.1)) with
   |none=>rw[hc]at he;cases he
   |some o=>rw[hc]at he;cases he;rfl
  dsimp only
  split
  ·exact this
  ·rfl
 ·rfl
theorem jg(t:SetTable)(es:Array (Int×Value))(n:Nat)(h:t.plain=false):(relayAll t es n).2.1.plain=false:=by
 unfold relayAll;split
 ·rename_i t' order he;have:t'.plain=t.plain:=by
   unfold SetTable.relaid SetTable.laid at he;cases hc:SetTable.layClean (SetTable.sizeAbove n - 1) (es.map (·.1)) with
   |none=>rw[hc]at he;cases he
   |some o=>rw[hc]at he;cases he;rfl
  dsimp only
  split
  ·rw[this];exact h
  ·rfl
 ·rfl
theorem cv{L:List (Str×Tok)}{l:List (Int×Value)}(h:l.Perm (L.map fun p=>((sK prog w).hash p.1,Value.str p.1 p.2))):∃L':List (Str×Tok),l=L'.map (fun p=>((sK prog w).hash p.1,Value.str p.1 p.2))/\L'.Perm L:=by
 have all:∀e∈l,∃p:Str×Tok,e=((sK prog w).hash p.1,Value.str p.1 p.2):=fun e he=>by
  obtain⟨p,_,rfl⟩:=List.mem_map.mp (h.mem_iff.mp he);exact⟨p,rfl⟩
 have ex:∀l:List (Int×Value),(∀e∈l,∃p:Str×Tok,e=((sK prog w).hash p.1,Value.str p.1 p.2))->∃L':List (Str×Tok),l=L'.map (fun p=>((sK prog w).hash p.1,Value.str p.1 p.2)):=by
  intro l;induction l with
  |nil=>intro _;exact⟨[],rfl⟩
  |cons e l ih =>
   intro ha;obtain⟨p,rfl⟩:=ha e List.mem_cons_self;obtain⟨L',rfl⟩:=ih fun e he=>ha e (List.mem_cons_of_mem _ he);exact⟨p::L',rfl⟩
 obtain⟨L',rfl⟩:=ex l all;refine⟨L',rfl,?_⟩;have g:(L'.map fun p=>((sK prog w).hash p.1,Value.str p.1 p.2)).map (fun e=>match e.2 with|.str x t=>(x,t)|_=>(Str.empty,0))=L':=by
  rw[List.map_map];exact List.map_id _
 have g2:(L.map fun p=>((sK prog w).hash p.1,Value.str p.1 p.2)).map (fun e=>match e.2 with|.str x t=>(x,t)|_=>(Str.empty,0))=L:=by
  rw[List.map_map];exact List.map_id _
 have:=h.map (fun e=>match e.2 with|.str x t=>(x,t)|_=>(Str.empty,0));rw[g,g2]at this;exact this
theorem jh{a:Addr}{led:Bool}{D:List Str}{x:Str}{tk:Tok}{Q:Bool->Shared->Prop}(hS:aK prog w s.heap a led D)(hroom:D.length+1<scanBound)
    (h:∀h',Heap.SameBut a s.heap h'->aK prog w h' a led (if x∈D then D else D++[x])->Q (decide (x∉D)) {s with heap:=h' }) :
    wpAny (model prog w) A (setAddHashed a (.str x tk) ((sK prog w).hash x)) Q E s:=by
  obtain⟨L,es,ep,t,ho,hes,hperm,hnd,hf,hb,hled,hpl⟩:=hS;have hkey:(sK prog w).is x (.str x tk)=true:=by rw[fC];simp
  have hel:ElemsOf (sK prog w) es.toList:=by rw[hes];exact jf
  have hlen:es.size=D.length:=by rw[<-Array.length_toList,hes,List.length_map,<-List.length_map (f:=Prod.fst) (as:=L),hperm.length_eq]
  unfold setAddHashed setAddHashedIn;refine wpAny_holding (wpAny_bind (wpAny_setState_of ho rfl hf ?_))
  dsimp only
  rw[byScan_of (knd:=sK prog w) rfl hb hel];simp only[↓reduceIte];unfold setAddByScan;refine wpAny_bind ?_;refine wpAny_bind (wpAny_rule ?_);refine wpAny_bind (wpAny_setScan_of (knd:=sK prog w) hkey ho rfl hf hel ?_);have mem_iff:(∃e∈es.toList,(sK prog w).is x e.2=true)↔x∈D:=by
    rw[hes,<-hperm.mem_iff,List.mem_map];constructor
    · rintro⟨e,he,hi⟩
      obtain⟨p,hp,rfl⟩:=List.mem_map.mp he;rw[fC,decide_eq_true_eq]at hi;exact⟨p,hp,hi.symm⟩
    · rintro⟨p,hp,e⟩
      exact⟨_,List.mem_map.mpr ⟨p,hp,rfl⟩,by rw[fC];simp[e]⟩
  cases hr:List.findIdx? (fun e=>(sK prog w).is x e.2) es.toList with
  | some j =>
    dsimp only
    obtain⟨hj,hpj,_⟩:=List.findIdx?_eq_some_iff_getElem.mp hr;have hx:x∈D:=mem_iff.mp ⟨es.toList[j],List.getElem_mem hj,hpj⟩;refine wpAny_pure (wpAny_pure ?_);have e:s={s with heap:=s.heap}:=by cases s;rfl
    have:=h s.heap (Heap.SameBut.refl a s.heap) (by rw[if_pos hx];exact⟨L,es,ep,t,ho,hes,hperm,hnd,hf,hb,hled,hpl⟩);rw[decide_eq_false (fun z=>z hx)]at this;rw[e];exact this
  | none =>
    dsimp only
    have hx:x∉D:=fun hx=>by
      obtain⟨e,he,hp⟩:=mem_iff.mpr hx;have:=List.findIdx?_eq_none_iff.mp hr e he;rw[hp]at this;exact Bool.noConfusion this
    have hgw:∀(b:Bool) {s₁:Shared} {Q':Unit->Shared->Prop},Q' () s₁->wpAny (model prog w) A (match b with|true=>rule "set.scan.the-table-gave-way"|false=>pure ()) Q' E s₁ :=
      fun b s₁ Q' hq=>by cases b<;>first|exact wpAny_pure hq|exact wpAny_rule hq
    have hp1:=layNew_perm t es ((sK prog w).hash x) (.str x tk);have hfits:=layNew_fits t es ((sK prog w).hash x) (.str x tk);have hl1:=oP t es ((sK prog w).hash x) (.str x tk);generalize hL:layNew t es ((sK prog w).hash x) (.str x tk)=NL at hp1 hfits hl1 ⊢;obtain⟨es1,t1,wasDummy,gave⟩:=NL
    dsimp only at hp1 hfits hl1 ⊢
    rw[Array.toList_push,hes,show [((sK prog w).hash x,Value.str x tk)]=[(x,tk)].map (fun p=>((sK prog w).hash p.1,Value.str p.1 p.2)) from rfl,<-List.map_append]at hp1;obtain⟨L1,e1,pL1⟩:=cv hp1;have hsz1:es1.size=D.length+1:=by rw[<-Array.length_toList,hp1.length_eq,List.length_map,List.length_append,<-hlen,<-Array.length_toList,hes,List.length_map];rfl
    have hb1:es1.size<scanBound:=by omega
    have perm1:(L1.map (·.1)).Perm (D++[x]):=(pL1.map _).trans (by rw[List.map_append];exact hperm.append_right _);have nd1:(D++[x]).Nodup:=by
      rw[List.nodup_append]
      exact ⟨hnd, by simp, fun y hy z hz => by have : z = x := by simpa using hz
                                               subst this;rintro rfl;exact hx hy⟩
    refine wpAny_bind (hgw _ ?_);have hend:∀h',Heap.SameBut a s.heap h'->aK prog w h' a led (D++[x])->Q true {s with heap:=h' }:=fun h' sb hs=>by
      have:=h h' sb (by rw[if_neg hx];exact hs);rw[decide_eq_true hx]at this;exact this
    have tail:∀(g:Bool->Sem Unit),(∀(b:Bool) (s₁:Shared) (Q':Unit->Shared->Prop),Q' () s₁->wpAny (model prog w) A (g b) Q' E s₁)->∀(R:Option Bool->Shared->Prop),(∀h',Heap.SameBut a s.heap h'->aK prog w h' a led (D++[x])->R (some true) {s with heap:=h' })->∀t2:SetTable,t2.fits es1.size=true->t2.led=led->t2.plain=false->wpAny (model prog w) A (do
        storeSet a es1 t2
        if (!wasDummy&&t2.tooFull)=true then do
            g (relayAll t2 es1 (SetTable.grown es1.size)).2.2
            storeSet a (relayAll t2 es1 (SetTable.grown es1.size)).1 (relayAll t2 es1 (SetTable.grown es1.size)).2.1
            pure (some true)
          else pure (some true)) R E s:=by
      intro g hg R hR t2 hf2 hl2 hpl2;refine wpAny_bind (wpAny_storeSet_of ho rfl ?_ (fits_of_scanBound hb1));have hg1:(s.heap.update a (Obj.putSet es1 t2)).get? a=some {cls:=.type "set",dict:=none,data:=.set es1 (ep+1) t2}:=by
        have:=Heap.get?_update_self (Obj.putSet es1 t2) ho rfl;exact this
      have hsb1:=Heap.SameBut.update s.heap a (Obj.putSet es1 t2);split
      · have hp:=relayAll_perm t2 es1 (SetTable.grown es1.size)
        have hfr:=relayAll_fits t2 es1 (SetTable.grown es1.size);have hlr:=lV t2 es1 (SetTable.grown es1.size);have hpr:=jg t2 es1 (SetTable.grown es1.size) hpl2;generalize hRl:relayAll t2 es1 (SetTable.grown es1.size)=Rl at hp hfr hlr hpr ⊢;obtain⟨es2,t3,gave2⟩:=Rl
        dsimp only at hp hfr hlr hpr ⊢
        rw[e1]at hp;obtain⟨L2,e2,pL2⟩:=cv hp;have hsz:es2.size=es1.size:=by rw[<-Array.length_toList,hp.length_eq,<-e1,Array.length_toList]
        refine wpAny_bind (hg _ _ _ ?_);refine wpAny_bind (wpAny_storeSet_of hg1 rfl ?_ (fits_of_scanBound (by omega)));have hg2:((s.heap.update a (Obj.putSet es1 t2)).update a (Obj.putSet es2 t3)).get? a=some {cls:=.type "set",dict:=none,data:=.set es2 (ep+1+1) t3}:=Heap.get?_update_self (Obj.putSet es2 t3) hg1 rfl;refine wpAny_pure (hR _ (hsb1.trans (Heap.SameBut.update _ a _)) ⟨L2,es2,_,t3,hg2,e2,(pL2.map _).trans perm1,nd1,hfr,by omega,hlr.trans hl2,.inr hpr⟩)
      · exact wpAny_pure (hR _ hsb1 ⟨L1,es1,_,t2,hg1,e1,perm1,nd1,hf2,hb1,hl2,.inr hpl2⟩)
    split
    · rename_i hp
      refine wpAny_bind ?_;rw[hashByValue_scannable 8 rfl];refine wpAny_pure ?_;have ep:(if plainKind (Value.str x tk)=true then t1 else {t1 with plain:=false})={t1 with plain:=false}:=rfl;rw[ep];refine tail _ ?_ _ ?_ {t1 with plain:=false} (SetTable.fits_plain_off hfits) (hl1.trans hled) rfl
      · intro b s₁ Q' hq;cases b<;>first|exact wpAny_pure hq|exact wpAny_rule hq
      · intro h' hsb hS';dsimp only;exact wpAny_pure (hend h' hsb hS')
    · rename_i hp
      refine wpAny_bind (wpAny_pure ?_);simp only[↓reduceIte];refine tail _ ?_ _ ?_ t1 hfits (hl1.trans hled) (Bool.eq_false_iff.mpr hp)
      · intro b s₁ Q' hq;cases b<;>first|exact wpAny_pure hq|exact wpAny_rule hq
      · intro h' hsb hS';dsimp only;exact wpAny_pure (hend h' hsb hS')
end
end L2
namespace L2
open PySem PySem.Spec PyProof.Rows
noncomputable def iB(D:List Str)(x:Str):List Str:=if x∈D then D else D++[x]
noncomputable def ak(l:List Str):List Str:=l.foldl iB []
theorem oQ{D:List Str}{x:Str}(h:D.Nodup):(iB D x).Nodup:=by
  unfold iB;split
  · exact h
  · rename_i hx
    rw[List.nodup_append]
    exact ⟨h, by simp, fun y hy z hz => by have : z = x := by simpa using hz
                                           subst this;rintro rfl;exact hx hy⟩
theorem dN:∀(l D:List Str),D.Nodup->(l.foldl iB D).Nodup/\(∀x,x∈l.foldl iB D↔x∈D\/x∈l)/\(l.foldl iB D).length<=D.length+l.length
 |[],D,h=>⟨h,by simp,by simp⟩
 |y::l,D,h=>by
  obtain⟨h1,h2,h3⟩:=dN l (iB D y) (oQ h);have hm:∀x,x∈iB D y↔x∈D\/x=y:=fun x=>by
   unfold iB;split
   ·rename_i hy;exact⟨.inl,fun z=>z.elim id (fun e=>e▸hy)⟩
   ·simp
  have hl:(iB D y).length<=D.length+1:=by
   unfold iB;split
   ·omega
   ·simp
  refine⟨h1,fun x=>?_,by rw[List.foldl_cons,List.length_cons];omega⟩;rw[List.foldl_cons,h2,hm,List.mem_cons,or_assoc]
theorem bS(l:List Str):(ak l).Nodup:=(dN l [] List.nodup_nil).1
theorem bY(l:List Str)(x:Str):x∈ak l↔x∈l:=by rw[ak,(dN l [] List.nodup_nil).2.1];simp
theorem cP(l:List Str):(ak l).length<=l.length:=by have:=(dN l [] List.nodup_nil).2.2;simpa[ak] using this
theorem m8(l:List Str)(x:Str):ak (l++[x])=iB (ak l) x:=by unfold ak;rw[List.foldl_append];rfl
section
variable{prog:Program}{w:World}{A:Around}{R:Result->Shared->Prop}{I:Addr}{fp wr:List Addr}{G:Array GenState->Array GenState->Prop}{n:Nat}{P:Nat->Value->Prop}{St:Nat->Shared->Prop}
theorem gQ(W:WalksS prog w A.in1 I fp wr G n P St)(S:Addr)(hSf:S∉fp)(led:Bool)
  (ys:List Str) (hn:ys.length=n) (hval:∀i v,P i v->∃x t,ys[i]?=some x/\v=.str x t) (hb:n+1<scanBound) :
  ∀(k i:Nat) (s:Shared),n - i=k->i<=n->St i s->aK prog w s.heap S led (ak (ys.take i)) ->
   (∀s',Moved (S::wr) G s s'->aK prog w s'.heap S led (ak ys)->R (.ok (.ret .none)) s') ->
   codeAny (model prog w) A (.builtin "set.update.loop" ⟨[.ref S,.ref I],[]⟩) R s:=by
 have hSw:S∉wr:=fun h=>hSf (W.sub _ h);have hsub:∀b∈wr,b∈S::wr:=fun b hb=>List.mem_cons_of_mem _ hb;intro k;induction k with
 |zero =>
  intro i s hk hi hst hS hR;have hin:i=n:=by omega
  subst hin;refine codeAny_builtin PyProof.Rows.F.entry_set_update_loop ?_;rw[Around.under_plainId PyProof.Rows.F.plain_set_update_loop _];show wpAny _ A.in1 (pyNext (.ref I) >>= _) _ _ s;refine wpAny_bind (W.done s _ _ hst fun s' hm=>?_);show wpAny _ A.in1 (ret Value.none) _ _ s';rw[List.take_of_length_le (by omega)]at hS;exact wpAny_pure (hR s' (hm.mono hsub) (by
   obtain⟨L,es,ep,t,ho,rest⟩:=hS;exact⟨L,es,ep,t,hm.heap S _ hSw ho,rest⟩))
 |succ k ih =>
  intro i s hk hi hst hS hR;have hlt:i<n:=by omega
  refine codeAny_builtin PyProof.Rows.F.entry_set_update_loop ?_;rw[Around.under_plainId PyProof.Rows.F.plain_set_update_loop _];show wpAny _ A.in1 (pyNext (.ref I) >>= _) _ _ s;refine wpAny_bind (W.item i s _ _ hlt hst fun v s' hP hst' hm=>?_);obtain⟨x,t,hx,rfl⟩:=hval i v hP;have hS':aK prog w s'.heap S led (ak (ys.take i)):=by
   obtain⟨L,es,ep,tb,ho,rest⟩:=hS;exact⟨L,es,ep,tb,hm.heap S _ hSw ho,rest⟩
  show wpAny _ A.in1 (holding [Value.str x t] (setAdd S (.str x t)) >>= _) _ _ s';refine wpAny_bind (wpAny_holding ?_);unfold setAdd;refine wpAny_holding ?_;refine wpAny_bind ((sK prog w).pyHash (k:=x) (by rw[fC];simp) ?_);have hroom:(ak (ys.take i)).length+1<scanBound:=by have:=cP (ys.take i);rw[List.length_take]at this;omega
  refine jh (s:={s' with toks:=s'.toks+1}) hS' hroom fun h' hsb hS2=>?_;have hSi:aK prog w h' S led (ak (ys.take (i+1))):=by
   rw[List.take_add_one,hx];show aK prog w h' S led (ak (ys.take i++[x]));rw[m8];exact hS2
  refine wpAny_pure ⟨plainId_quiet PyProof.Rows.F.plain_set_update_loop _,ih (i+1) _ (by omega) hlt (W.frame _ s' _ _ hst' (Nat.le_succ _) fun b hb o e=>?_) hSi fun s'' hm'' hS''=>?_⟩
  ·rw[hsb.2 b (fun h:b=S=>hSf (by rw[<-h];exact hb))];exact e
  ·refine hR s'' (Moved.trans W.gtrans ((hm.mono hsub).then_heap (Nat.le_succ _) fun b o hb e=>?_) hm'') hS'';rw[hsb.2 b (fun h:b=S=>hb (by rw[h];exact List.mem_cons_self))];exact e
end
section
variable{prog:Program}{w:World}{A:Around}{E:Value->Shared->Prop}{s:Shared}
theorem kf(a:Value){Q₁:Value->Shared->Prop}
  (h:Q₁ (.ref s.heap.objs.size) {s with heap:=s.heap.push {cls:=.type "set",dict:=none,data:=.set #[] 0 (.fresh 0 0 (!w.params.followText "set-order"))}}) :
  codeAny (model prog w) A (.call (.builtin "set.__new__") ⟨[.type "set",a],[]⟩) (wants Q₁ E) s:=by
 refine codeAny_of_tree ?_;show wpAny _ A.in1 (do checkBuiltinCall "set.__new__" ⟨[.type "set",a],[]⟩;again (.builtin "set.__new__" ⟨[.type "set",a],[]⟩)) _ _ s;refine wpAny_bind (wpAny_of_eq (PySem.F.newCall_set_1 a) (wpAny_pure ⟨plainId_quiet PySem.F.plain_set_new _,codeAny_builtin PySem.F.entry_set_new ?_⟩));rw[Around.under_plainId PySem.F.plain_set_new _];unfold Builtin.«set.__new__» Builtin.Frozenset.newClass;have hsub:=sub_set_self;obtain⟨hp,g,d,tk,os⟩:=s
 dsimp only
 wp_walk
 refine wpAny_askSetting (wpAny_pure ?_)
 dsimp only
 simp only[newObj];refine wpAny_bind (wpAny_alloc (wpAny_pure ?_));exact wpAny_pure h
theorem fM{h:Heap}{a:Addr}{led:Bool}(hg:h.get? a=some {cls:=.type "set",dict:=none,data:=.set #[] 0 (.fresh 0 0 led)}):aK prog w h a led [] :=
 ⟨[],#[],0,_,hg,rfl,.nil,List.nodup_nil,rfl,by unfold scanBound;decide,rfl,.inl rfl⟩
end
end L2
namespace L2
open PySem PySem.Spec PyProof.Rows
theorem sub_tuple_set:isSubtype (.type "tuple") (.type "set")=pure false:=by rw[isSubtype_type];kernel_rfl
theorem sub_tuple_frozenset:isSubtype (.type "tuple") (.type "frozenset")=pure false:=by rw[isSubtype_type];kernel_rfl
section
variable{prog:Program}{w:World}{A:Around}{E:Value->Shared->Prop}{s:Shared}
noncomputable abbrev aD(w:World):Bool:=!w.params.followText "set-order"
noncomputable abbrev oR(led:Bool):Obj:={cls:=.type "set",dict:=none,data:=.set #[] 0 (.fresh 0 0 led)}
theorem gp{l:Addr}{T:String}{ys:List Str}{Q:Value->Shared->Prop}
  (hT0:s.TypeIs (.ref l) T) (hsls:isSubtype (.type T) (.type "set")=pure false) (hslf:isSubtype (.type T) (.type "frozenset")=pure false) (hne:(Value.type T==Value.type "dict")=false)
  (hb:ys.length+1<scanBound)
  (hit:∀(s1:Shared) (B:Around) (Q':Value->Shared->Prop),B.handled=A.handled->(∀b o,s.heap.get? b=some o->s1.heap.get? b=some o)->s.heap.objs.size<s1.heap.objs.size ->
   (∀I fp wr G P St h1,WalksS prog w B.in1 I fp wr G ys.length P St->(∀g g',G g g'->g'=g)->s.heap.objs.size∉fp->(∀b∈wr,s.heap.objs.size<b)->(∀i v,P i v->∃x t,ys[i]?=some x/\v=.str x t)->St 0 {s1 with heap:=h1}->(∀b o,s1.heap.get? b=some o->h1.get? b=some o)->Q' (.ref I) {s1 with heap:=h1})->wpAny (model prog w) B (pyIter (.ref l)) Q' E s1)
  (h:∀(h':Heap) (tk:Nat),aK prog w h' s.heap.objs.size (aD w) (ak ys)->(∀b o,b<s.heap.objs.size->s.heap.get? b=some o->h'.get? b=some o)->Q (.ref s.heap.objs.size) {s with heap:=h',toks:=tk}) :
  wpAny (model prog w) A (call (.type "set") [.ref l]) Q E s:=by
 obtain⟨c,tl,hmro⟩:=PySem.F.called_set.mro;have hmade:=PySem.F.called_set.made;have hsub:=PySem.F.called_set.sub;refine wpAny_call (codeAny_of_tree ?_);show wpAny _ _ (callAny (.type "set") _) _ _ _;refine wpAny_pure ⟨Code.quiet_builtin _ (by decide +kernel),codeAny_builtin PySem.F.entry_type_call ?_⟩;rw[Around.under_plain (weight_type_call_type "set" [.ref l] []) rfl];have h1:=PySem.F.called_set.notType;have h2:=PySem.F.called_set.canCreate;have hct:=PySem.F.typeCall_set_1 (.ref l)
 repeat (any_goals (first|assumption|wp_step))
 refine codeAny_mono (kf (.ref l) (E:=E) (Q₁:=fun obj s₁=>obj=.ref s.heap.objs.size/\s₁={s with heap:=s.heap.push (oR (aD w))}) ⟨rfl,rfl⟩) fun r s₁ hr=>?_;cases r with
 |error e=>exact hr
 |ok fl =>
  cases fl with
  |ret obj =>
   obtain⟨rfl,rfl⟩:=hr;have hS:(s.heap.push (oR (aD w))).get? s.heap.objs.size=some (oR (aD w)):=Heap.get?_push_size _ rfl;have hT:Shared.TypeIs {s with heap:=s.heap.push (oR (aD w))} (.ref s.heap.objs.size) "set":=⟨_,hS,rfl⟩
   have hli:=PySem.F.called_set.init.lookup;have hbi:=PySem.F.called_set.init.bind (.ref s.heap.objs.size)
   repeat (any_goals (first|assumption|wp_step))
   refine codeAny_mono (codeAny_call_builtin (R:=wants (fun r s₂=>r=.none/\∃h' tk,s₂={s with heap:=h',toks:=tk} /\
     aK prog w h' s.heap.objs.size (aD w) (ak ys) /\
     (∀b o,b<s.heap.objs.size->s.heap.get? b=some o->h'.get? b=some o)) E) PySem.F.called_set.init.plain PySem.F.entry_set_init (check_set_init_1 hT ?_)) fun r₂ s₂ hr₂=>?_
   ·obtain⟨ol,hol,hcl⟩:=hT0;obtain⟨ocls,odict,odata,oslots⟩:=ol;simp only at hcl;subst hcl;have hol':(s.heap.push (oR (aD w))).get? l=some {cls:=.type T,dict:=odict,data:=odata,slots:=oslots}:=Heap.get?_push_of_some _ hol;have hT1:Shared.TypeIs {s with heap:=s.heap.push (oR (aD w))} (.ref l) T:=⟨_,hol',rfl⟩
    unfold Builtin.«set.__init__» noKeywords Builtin.Frozenset.updateFrom;generalize hPI:pyIter=PI
    wp_walk
    subst hPI;refine hit {s with heap:=s.heap.push (oR (aD w))} _ _ rfl (fun b o e=>Heap.get?_push_of_some _ e) (by rw[size_push'];exact Nat.lt_succ_self _) fun I fp wr G P St h1 W hG hf hwr hval hst hk=>?_;refine wpAny_bind (wpAny_runValue ?_);refine gQ W s.heap.objs.size hf (aD w) ys rfl hval hb (ys.length - 0) 0 _ (by omega) (Nat.zero_le _) hst (fM (hk _ _ hS)) ?_;intro s' hm hS';obtain⟨h',g',d',tk',os'⟩:=s';have eg:g'=s.gens:=hG _ _ hm.gens;have ed:d'=s.drawn:=hm.drawn;have eo:os'=s.os:=hm.os;subst eg;subst ed;subst eo;show wpAny _ _ _ _ _ _;refine wpAny_pure ?_;show wpAny _ _ (ret Value.none) _ _ _;refine wpAny_pure ⟨rfl,h',tk',rfl,hS',fun b o hb' e=>?_⟩;exact hm.heap b o (fun z=>by
     rcases List.mem_cons.mp z with z|z
     ·rw[z]at hb';exact Nat.lt_irrefl _ hb'
     ·exact absurd (hwr b z) (Nat.not_lt_of_lt hb')) (hk _ _ (Heap.get?_push_of_some _ e))
   ·cases r₂ with
    |error e=>exact hr₂
    |ok fl₂ =>
     cases fl₂ with
     |ret r =>
      obtain⟨rfl,h',tk,rfl,hS',hk'⟩:=hr₂
      repeat (any_goals (first|assumption|wp_step))
      exact h _ _ hS' hk'
     |_=>exact hr₂.elim
  |_=>exact hr.elim
end
end L2
namespace L2
open PySem PySem.Spec PyProof.Rows
section
variable{prog:Program}{w:World}{A:Around}{E:Value->Shared->Prop}{s:Shared}
theorem lW:∀{vs:List Value}{ss:List Str},StrsAre vs ss->∀(i:Nat) (v:Value),vs[i]?=some v->∃x t,ss[i]?=some x/\v=.str x t
 |_,_,.nil,i,v,h=>by simp at h
 |_,_,.cons x t h,0,v,e=>by simp at e;exact⟨x,t,rfl,e.symm⟩
 |_,_,.cons x t h,i+1,v,e=>by rw[List.getElem?_cons_succ]at e;rw[List.getElem?_cons_succ];exact lW h i v e
theorem gq:∀{vs:List Value}{ss:List Str},StrsAre vs ss->vs.length=ss.length
 |_,_,.nil=>rfl
 |_,_,.cons x t h=>by simp[gq h]
theorem qg{n l S:Addr}(h1:n≠S)(h2:n≠l):n∉[S,l]:=by simp[h1,h2]
theorem eE{l:Addr}{vs:List Value}{ys:List Str}{Q:Value->Shared->Prop}(hh:A.handled=none)(hl:s.heap.IsList l vs.toArray)(hS:StrsAre vs ys)(hb:ys.length+1<scanBound)
  (h:∀(h':Heap) (tk:Nat),aK prog w h' s.heap.objs.size (aD w) (ak ys)->(∀b o,b<s.heap.objs.size->s.heap.get? b=some o->h'.get? b=some o)->Q (.ref s.heap.objs.size) {s with heap:=h',toks:=tk}) :
  wpAny (model prog w) A (call (.type "set") [.ref l]) Q E s:=by
 have hlS:l<s.heap.objs.size:=let ⟨o,ho,_⟩:=hl;Heap.lt_size ho;refine gp hl.typeIs PySem.F.sub_list_set PySem.F.sub_list_frozenset (by decide) hb (fun s1 B Q' hB hk hlt hq=>?_) h;have hl1:s1.heap.IsList l vs.toArray:=let ⟨o,ho,r⟩:=hl;⟨o,hk _ _ ho,r⟩;refine wpAny_pyIter_list hl1 ?_;have hneI:l≠s1.heap.objs.size:=Nat.ne_of_lt (Nat.lt_trans hlS hlt);have W:=(Walks.list (prog:=prog) (w:=w) (A:=B.in1) (by simp[hB,hh]) s1.heap.objs.size l hneI vs.toArray).toS;have el:vs.toArray.size=ys.length:=by simp[gq hS]
 rw[el]at W;refine hq _ _ _ _ _ _ _ W (fun _ _ e=>e) (qg (Nat.ne_of_lt hlt) (Nat.ne_of_gt hlS)) (fun b hb=>by rw[List.mem_singleton.mp hb];exact hlt) (fun i v hv=>lW hS i v (by simpa using hv)) ⟨⟨_,Heap.get?_push_size _ rfl,rfl,rfl⟩,hl1.push _⟩ fun b o e=>Heap.get?_push_of_some _ e
theorem fD{l:Addr}{vs:List Value}{ys:List Str}{Q:Value->Shared->Prop}(hh:A.handled=none)(hl:s.heap.IsTuple l vs.toArray)(hS:StrsAre vs ys)(hb:ys.length+1<scanBound)
  (h:∀(h':Heap) (tk:Nat),aK prog w h' s.heap.objs.size (aD w) (ak ys)->(∀b o,b<s.heap.objs.size->s.heap.get? b=some o->h'.get? b=some o)->Q (.ref s.heap.objs.size) {s with heap:=h',toks:=tk}) :
  wpAny (model prog w) A (call (.type "set") [.ref l]) Q E s:=by
 have hlS:l<s.heap.objs.size:=let ⟨o,ho,_⟩:=hl;Heap.lt_size ho;refine gp hl.typeIs sub_tuple_set sub_tuple_frozenset (by decide) hb (fun s1 B Q' hB hk hlt hq=>?_) h;have hl1:s1.heap.IsTuple l vs.toArray:=let ⟨o,ho,r⟩:=hl;⟨o,hk _ _ ho,r⟩;refine wpAny_pyIter_tuple hl1 ?_;have hneI:l≠s1.heap.objs.size:=Nat.ne_of_lt (Nat.lt_trans hlS hlt);have W:=(Walks.tuple (prog:=prog) (w:=w) (A:=B.in1) (by simp[hB,hh]) s1.heap.objs.size l hneI vs.toArray).toS;have el:vs.toArray.size=ys.length:=by simp[gq hS]
 rw[el]at W;refine hq _ _ _ _ _ _ _ W (fun _ _ e=>e) (qg (Nat.ne_of_lt hlt) (Nat.ne_of_gt hlS)) (fun b hb=>by rw[List.mem_singleton.mp hb];exact hlt) (fun i v hv=>lW hS i v (by simpa using hv)) ⟨⟨_,Heap.get?_push_size _ rfl,rfl,rfl⟩,let ⟨o,ho,r⟩:=hl1;⟨o,Heap.get?_push_of_some _ ho,r⟩⟩ fun b o e=>Heap.get?_push_of_some _ e
theorem lX{M:Model}{src:Source}{n:Nat}{Q:Nat->Shared->Prop}(hn:n≠0)(h:∀i<n,Q i {s with drawn:=s.drawn.bump src}):wpAny M A (choose src n) Q E s:=fun Γ p hΓ=>by
 show Sem.wp M Γ (.choose src n .pure) _ _ p s;rw[Sem.wp_choose];exact⟨hn,h _ (Nat.mod_lt _ (Nat.pos_of_ne_zero hn))⟩
theorem fN{α:Type}:∀{xs:List α}{i:Nat}{x:α},xs[i]?=some x->(x::xs.eraseIdx i).Perm xs
 |[],i,x,h=>by simp at h
 |y::ys,0,x,h=>by simp at h;subst h;exact .refl _
 |y::ys,i+1,x,h=>by
  rw[List.getElem?_cons_succ]at h;rw[List.eraseIdx_cons_succ];exact(List.Perm.swap y x _).trans ((fN h).cons y)
theorem fE{M:Model}{α:Type}:∀(n:Nat) (xs:List α) (s:Shared) (Q:List α->Shared->Prop),xs.length=n->(∀ys d,ys.Perm xs->Q ys {s with drawn:=d})->wpAny M A (drawOrder n xs) Q E s
 |0,xs,s,Q,hn,h=>by
  have:xs=[]:=List.length_eq_zero_iff.mp hn;subst this;exact wpAny_pure (h [] s.drawn (.refl _))
 |n+1,[],s,Q,hn,h=>by simp at hn
 |n+1,y::ys,s,Q,hn,h=>by
  show wpAny M A (choose .order (y::ys).length >>= _) Q E s;refine wpAny_bind (lX (by simp) fun i hi=>?_);have e:(y::ys)[i]?=some ((y::ys)[i]'hi):=List.getElem?_eq_getElem hi;have hp:=fN e;generalize (y::ys)[i]'hi=x at e hp;simp only[e];refine wpAny_bind (fE n _ _ _ (by have:=hp.length_eq;simp at this hn ⊢;omega) fun zs d hz=>?_);exact wpAny_pure (h (x::zs) d ((hz.cons x).trans hp))
theorem ic{α:Type}(next:Nat->Nat):∀(fuel k:Nat) (left:List α) (out:Array α),left.length=fuel->(pickOrder.go next fuel k left out).toList.Perm (out.toList++left)
 |0,k,left,out,hl=>by
  have:left=[]:=List.length_eq_zero_iff.mp hl;subst this;simp[pickOrder.go]
 |fuel+1,k,left,out,hl=>by
  unfold pickOrder.go;have hlt:next k % left.length<left.length:=Nat.mod_lt _ (by omega);have e:left[next k % left.length]?=some (left[next k % left.length]'hlt):=List.getElem?_eq_getElem hlt;have hp:=fN e;generalize left[next k % left.length]'hlt=x at e hp;simp only[e];refine(ic next fuel _ _ _ (by have:=hp.length_eq;simp at this;omega)).trans ?_;rw[Array.toList_push,List.append_assoc];exact(hp.append_left _)
theorem cQ{α:Type}(next:Nat->Nat)(xs:Array α):(pickOrder next xs).toList.Perm xs.toList:=by
 have:=ic next xs.size 0 xs.toList #[] (by simp);simpa[pickOrder] using this
end
end L2
namespace L2
open PySem PySem.Spec PyProof.Rows
namespace SI
theorem m9:Manifest.owners.lookup (String.ofList ['r','o','t','a','r','e','t','i','_','t','e','s'].reverse)=some Manifest.sig_set_iterator:=by kernel_rfl
theorem slot_next:Slot "set_iterator" "__next__" "set_iterator.__next__" :=
 .of (owner:="set_iterator") (n:="__next__") (by rw[typeLookup_type,builtinLookup_eq_fast];kernel_rfl) (by decide +kernel) (by decide +kernel) (by decide +kernel)
  (by first|exact .inl (by decide +kernel)|exact .inr (by decide +kernel)) (by rw[isSubtype_type];kernel_rfl)
theorem entry_next:entryFor table "set_iterator.__next__"=some Builtin.«set_iterator.__next__»:=entryFor_of_tree (by kernel_rfl)
theorem args_next(a:Value):argsOk "set_iterator.__next__" ⟨[a],[]⟩:=by
 unfold argsOk;rw[signature?_of (id:="set_iterator.__next__") (n:=['_','_','t','x','e','n','_','_']) (o:=['r','o','t','a','r','e','t','i','_','t','e','s']) (by kernel_rfl) m9];kernel_rfl
theorem kF:Slot "set_iterator" "__iter__" "set_iterator.__iter__" :=
 .of (owner:="set_iterator") (n:="__iter__") (by rw[typeLookup_type,builtinLookup_eq_fast];kernel_rfl) (by decide +kernel) (by decide +kernel) (by decide +kernel)
  (by first|exact .inl (by decide +kernel)|exact .inr (by decide +kernel)) (by rw[isSubtype_type];kernel_rfl)
theorem rJ(a:Value):argsOk "set_iterator.__iter__" ⟨[a],[]⟩:=by
 unfold argsOk;rw[signature?_of (id:="set_iterator.__iter__") (n:=['_','_','r','e','t','i','_','_']) (o:=['r','o','t','a','r','e','t','i','_','t','e','s']) (by kernel_rfl) m9];kernel_rfl
theorem oS:entryFor table "set_iterator.__iter__"=some Builtin.«dict_keyiterator.__iter__» :=
 entryFor_alias (id':="dict_keyiterator.__iter__") (by kernel_rfl) (by first|rfl|decide +kernel|(unfold String.splitOn;simp +decide [String.splitOnAux])) (by decide +kernel) (by kernel_rfl)
theorem ji:entryFor table "set.__iter__"=some Builtin.«frozenset.__iter__» :=
 entryFor_alias (id':="frozenset.__iter__") (by kernel_rfl) rfl (by decide +kernel) (by kernel_rfl)
end SI
section
variable{prog:Program}{w:World}{A:Around}{E:Value->Shared->Prop}{s:Shared}
noncomputable def fO(h:Heap)(I:Addr)(first:Value)(i:Nat)(S:Addr)(n ep:Nat):Prop:=∃o,h.get? I=some o/\o.cls=.type "set_iterator"/\o.data=.fields #[first,rawInt i,.ref S,rawInt n,rawInt ep]
theorem fO.typeIs{I S:Addr}{f:Value}{i n ep:Nat}(x:fO s.heap I f i S n ep):s.TypeIs (.ref I) "set_iterator":=let ⟨o,ho,hc,_⟩:=x;⟨o,ho,hc⟩
theorem wx{I S:Addr}{f:Value}{i n ep:Nat}{Q:Value->Shared->Prop}(hit:fO s.heap I f i S n ep)(h:Q (.ref I) s):wpAny (model prog w) A (pyIter (.ref I)) Q E s:=by
 refine wpAny_pyIter_slot hit.typeIs SI.kF (wpAny_call_entry SI.kF hit.typeIs SI.oS ?_ (SI.rJ _));show wpAny _ _ (ret (.ref I)) _ _ s;exact wpAny_pure ⟨_,rfl,"set_iterator",_,hit.typeIs,SI.slot_next.lookup,h⟩
theorem bZ{M:Model}{Q:Bool->Shared->Prop}(h:Q (M.w.params.followText "set-order") s):wpAny M A setsByText Q E s:=by
 unfold setsByText;exact wpAny_bind (wpAny_askSetting (wpAny_pure h))
end
end L2
namespace L2
open PySem PySem.Spec PyProof.Rows
section
variable{prog:Program}{w:World}{A:Around}{E:Value->Shared->Prop}{s:Shared}
noncomputable abbrev lY(es:Array (Int×Value))(ep:Nat)(t:SetTable):Obj:={cls:=.type "set",dict:=none,data:=.set es ep t}
theorem m_{I:Addr}{B:Around}{Q:Option Value->Shared->Prop}{h1:Heap}{k:Value->Sem (Option Value)}(hh:B.handled=none)
  (hQ:∀h',(∀b o,h1.get? b=some o->h'.get? b=some o)->∀e,Shared.TypeIs {s with heap:=h' } e "StopIteration"->E e {s with heap:=h' }) {Q':Fin->Shared->Prop} :
  wpAny (model prog w) B (newExc (.type "StopIteration") [] >>= fun e=>(raiseNew e:Sem Fin)) Q' E {s with heap:=h1}:=by
 refine wpAny_bind ?_;simp only[newExc,newTuple];refine wpAny_bind (wpAny_newObj_type ?_ (by size_fits));refine wpAny_bind (m:=firstArgMember _ _) (wpAny_of_eq (a:=Value.none) (by first|rfl|(simp only[firstArgMember];rfl)) ?_);refine wpAny_newObj_type ?_ (by size_fits);simp only[raiseNew];refine wpAny_bind (wpAny_handled ?_);rw[hh];refine wpAny_bind (wpAny_pure (wpAny_throw ?_));exact hQ _ (fun b o e=>Heap.get?_push_of_some _ (Heap.get?_push_of_some _ e)) _ ⟨_,Heap.get?_push_size _ rfl,rfl⟩
theorem qh{I S:Addr}{first:Value}{i ep:Nat}{es:Array (Int×Value)}{t:SetTable}{Q:Option Value->Shared->Prop}(hit:fO s.heap I first i S es.size ep)(ho:s.heap.get? S=some (lY es ep t))(hf:t.fits es.size=true)
  (hrest:∀(Q':Fin->Shared->Prop) (E':Value->Shared->Prop) ,(∀v s',Q (some v) s'->Q' (.done (.ret v)) s')->(∀e s',s'.TypeIs e "StopIteration"->Q none s'->E' e s') ->
   wpAny (model prog w) A.in1 (if let .int slot _:=first then(do
     match <-setNext S slot.toNat i ep with
     |some (x,next) =>
      setField (.ref I) 0 (rawInt next)
      setField (.ref I) 1 (rawInt ((i:Int)+1))
      ret x
     |none=>setField (.ref I) 2 .none;raiseNew (<-newExc (.type "StopIteration") []))
    else(do
     let some places <-seqItems? first|unsupported "internal:set_iterator"
     match places[i]? with
     |some (.int place _) =>
      let x <-setNextDrawn S place.toNat ep
      setField (.ref I) 1 (rawInt ((i:Int)+1))
      ret x
     |some _=>unsupported "internal:set_iterator"
     |none=>setField (.ref I) 0 (rawInt 0);setField (.ref I) 2 .none;raiseNew (<-newExc (.type "StopIteration") []))) Q' E' s):wpAny (model prog w) A (pyNext (.ref I)) Q E s:=by
 obtain⟨o,hI,hc,hd⟩:=id hit;unfold pyNext;refine wpAny_bind (wpAny_attempt (wpAny_callSpecial?_slot (name:=Str.ofString "__next__") hit.typeIs SI.slot_next
  (wpAny_call_entry SI.slot_next hit.typeIs SI.entry_next ?_ (SI.args_next _))))
 unfold Builtin.«set_iterator.__next__»;refine wpAny_bind (wpAny_of_eq (a:=(Value.ref I,[])) rfl ?_)
 try dsimp only
 refine wpAny_bind (wpAny_fieldsOf hI hd ?_)
 try dsimp only
 refine wpAny_bind (wpAny_setEntries_of ho rfl hf ?_);rw[if_neg (by simp)];refine wpAny_mono (hrest (fun fin s'=>∃r,fin=.done (.ret r)/\Q (some r) s') (fun e s'=>s'.TypeIs e "StopIteration"/\Q none s') (fun v s' q=>⟨v,rfl,q⟩) fun e s' z q=>⟨z,q⟩) ?_ ?_
 ·rintro fin s' ⟨r,rfl,q⟩;exact⟨r,rfl,wpAny_pure q⟩
 ·rintro e s' ⟨z,q⟩;refine wpAny_bind (wpAny_isInstance (T:="StopIteration") (b:=true) z isSubtype_stop ?_);exact wpAny_pure q
end
end L2
namespace L2
open PySem PySem.Spec PyProof.Rows
section
variable{prog:Program}{w:World}{A:Around}{E:Value->Shared->Prop}{s:Shared}
theorem qi{I S:Addr}{f f':Value}{i n ep:Nat}{h:Heap}{o:Obj}(hI:h.get? I=some o)(hc:o.cls=.type "set_iterator")(hd:o.data=.fields #[f,rawInt i,.ref S,rawInt n,rawInt ep]):
  fO (h.update I (Obj.mapFields (·.setIfInBounds 1 (rawInt ((i:Int)+1))))) I f (i+1) S n ep :=
 ⟨_,Heap.get?_update_self _ hI (Obj.isFreed_of_fields (Obj.data_mapFields hd _)),(Obj.cls_mapFields ..).trans hc,by rw[Obj.data_mapFields hd];simp⟩
theorem ng{I S:Addr}{f f':Value}{i n ep:Nat}{h:Heap}{o:Obj}(hI:h.get? I=some o)(hc:o.cls=.type "set_iterator")(hd:o.data=.fields #[f,rawInt i,.ref S,rawInt n,rawInt ep]):
  ∃o',(h.update I (Obj.mapFields (·.setIfInBounds 0 f'))).get? I=some o'/\o'.cls=.type "set_iterator"/\o'.data=.fields #[f',rawInt i,.ref S,rawInt n,rawInt ep] :=
 ⟨_,Heap.get?_update_self _ hI (Obj.isFreed_of_fields (Obj.data_mapFields hd _)),(Obj.cls_mapFields ..).trans hc,by rw[Obj.data_mapFields hd];simp⟩
theorem tP{I S:Addr}{slot i ep:Nat}{es:Array (Int×Value)}{t:SetTable}{Q:Option Value->Shared->Prop}(hit:fO s.heap I (rawInt slot) i S es.size ep)(ho:s.heap.get? S=some (lY es ep t))(hf:t.fits es.size=true)(hh:A.handled=none)
  {r:Option (Value×Nat)} (hn:∀(B:Around) (E':Value->Shared->Prop) (Q':Option (Value×Nat)->Shared->Prop),Q' r s->wpAny (model prog w) B (setNext S slot i ep) Q' E' s)
  (h1:∀x nx,r=some (x,nx)->∀h',fO h' I (rawInt nx) (i+1) S es.size ep->Heap.SameBut I s.heap h'->Q (some x) {s with heap:=h' })
  (h2:r=none->∀h',(∀b o,b≠I->s.heap.get? b=some o->h'.get? b=some o)->Q none {s with heap:=h' }):wpAny (model prog w) A (pyNext (.ref I)) Q E s:=by
 refine qh hit ho hf fun Q' E' q1 q2=>?_;obtain⟨o,hI,hc,hd⟩:=id hit;show wpAny _ _ (setNext S slot i ep >>= _) _ _ s;refine wpAny_bind (hn _ _ _ ?_);cases r with
 |some p =>
  obtain⟨x,nx⟩:=p
  dsimp only
  refine wpAny_bind (wpAny_setField hI hd (by simp) ?_);obtain⟨o',e1,e2,e3⟩:=ng (f':=rawInt nx) hI hc hd;refine wpAny_bind (wpAny_setField (s:={s with heap:=_}) e1 e3 (by simp) ?_);exact wpAny_pure (q1 _ _ (h1 x nx rfl _ (qi (f':=rawInt nx) e1 e2 e3) ((Heap.SameBut.update ..).trans (Heap.SameBut.update ..))))
 |none =>
  dsimp only
  refine wpAny_bind (wpAny_setField hI hd (by simp) ?_);refine m_ (I:=I) (k:=fun _=>pure none) (Q:=fun _ _=>True) (s:=s) (by simpa using hh) fun h' hk e he=>q2 e _ he (h2 rfl h' fun b ob hb eb=>hk b ob ?_);rw[Heap.get?_update_ne _ _ _ _ hb];exact eb
theorem yP{I S T:Addr}{i ep:Nat}{es:Array (Int×Value)}{t:SetTable}{pl:List Nat}{Q:Option Value->Shared->Prop}(hit:fO s.heap I (.ref T) i S es.size ep)(ho:s.heap.get? S=some (lY es ep t))(hf:t.fits es.size=true)(hh:A.handled=none)
  (hT:s.heap.IsTuple T ((pl.map fun(j:Nat)=>rawInt j).toArray))
  (h1:∀(j:Nat) (e:Int×Value),pl[i]?=some j->es[j]?=some e->∀h',fO h' I (.ref T) (i+1) S es.size ep->Heap.SameBut I s.heap h'->Q (some e.2) {s with heap:=h' })
  (hp:∀j∈pl,j<es.size)
  (h2:pl[i]?=none->∀h',(∀b o,b≠I->s.heap.get? b=some o->h'.get? b=some o)->Q none {s with heap:=h' }):wpAny (model prog w) A (pyNext (.ref I)) Q E s:=by
 refine qh hit ho hf fun Q' E' q1 q2=>?_;obtain⟨o,hI,hc,hd⟩:=id hit;obtain⟨oT,hoT,hcT,nT,hdT⟩:=hT;show wpAny _ _ (seqItems? (.ref T) >>= _) _ _ s;refine wpAny_bind (wpAny_seqItems hoT hdT ?_);cases e:pl[i]? with
 |some j =>
  have e':(pl.map fun(j:Nat)=>rawInt j).toArray[i]?=some (rawInt j):=by simp[e]
  simp only[e'];have hj:j<es.size:=hp j (List.mem_of_getElem? e);have ej:es[j]?=some (es[j]'hj):=by simp[hj]
  show wpAny _ _ (setNextDrawn S (j:Int).toNat ep >>= _) _ _ s;unfold setNextDrawn;rw[Int.toNat_natCast];refine wpAny_bind (wpAny_bind (wpAny_setState_of ho rfl hf ?_))
  dsimp only
  rw[if_neg (by simp)];generalize es[j]'hj=p at ej;simp only[ej];refine wpAny_pure ?_;refine wpAny_bind (wpAny_setField hI hd (by simp) ?_);exact wpAny_pure (q1 _ _ (h1 j p e ej _ (qi (f':=.ref T) hI hc hd) (Heap.SameBut.update ..)))
 |none =>
  have e':(pl.map fun(j:Nat)=>rawInt j).toArray[i]?=none:=by simp at e ⊢;exact e
  simp only[e'];refine wpAny_bind (wpAny_setField hI hd (by simp) ?_);obtain⟨o',e1,e2,e3⟩:=ng (f':=rawInt 0) hI hc hd;refine wpAny_bind (wpAny_setField (s:={s with heap:=_}) e1 e3 (by simp) ?_);refine m_ (I:=I) (k:=fun _=>pure none) (Q:=fun _ _=>True) (s:=s) (by simpa using hh) fun h' hk ex he=>q2 ex _ he (h2 e h' fun b ob hb eb=>hk b ob ?_);rw[Heap.get?_update_ne _ _ _ _ hb,Heap.get?_update_ne _ _ _ _ hb];exact eb
end
end L2
namespace L2
open PySem PySem.Spec PyProof.Rows
section
variable{prog:Program}{w:World}{A:Around}{E:Value->Shared->Prop}{s:Shared}
theorem fO.at{h h':Heap}{I S:Addr}{f:Value}{i n ep:Nat}(x:fO h I f i S n ep)(e:∀o,h.get? I=some o->h'.get? I=some o):fO h' I f i S n ep:=let ⟨o,ho,r⟩:=x;⟨o,e _ ho,r⟩
theorem jj{I S:Addr}{es:Array (Int×Value)}{ep:Nat}{t:SetTable}(hh:A.handled=none)(hne:S≠I)(hf:t.fits es.size=true)(T:Addr)(hT:T≠I)(ord:List Value)(hlen:ord.length=es.size)
  (first:Nat->Value) (side:Heap->Prop) (hside:∀h h',side h->(∀o,h.get? T=some o->h'.get? T=some o)->side h')
  (hstep:∀(s:Shared) (i:Nat) (E:Value->Shared->Prop) (Q:Option Value->Shared->Prop),i<=es.size->side s.heap->fO s.heap I (first i) i S es.size ep->s.heap.get? S=some (lY es ep t) ->
   (∀x,ord[i]?=some x->∀h',fO h' I (first (i+1)) (i+1) S es.size ep->Heap.SameBut I s.heap h'->Q (some x) {s with heap:=h' }) ->
   (ord[i]?=none->∀h',(∀b o,b≠I->s.heap.get? b=some o->h'.get? b=some o)->Q none {s with heap:=h' })->wpAny (model prog w) A (pyNext (.ref I)) Q E s) :
  Walks prog w A I [I,S,T] [I] es.size (fun i v=>ord[i]?=some v) (fun i h=>i<=es.size/\fO h I (first i) i S es.size ep/\h.get? S=some (lY es ep t)/\side h) where
 sub:=fun b hb=>by rw[List.mem_singleton.mp hb];simp
 frame:=fun i h h' x hk=>⟨x.1,x.2.1.at fun o e=>hk I (by simp) o e,hk S (by simp) _ x.2.2.1,hside h h' x.2.2.2 fun o e=>hk T (by simp) o e⟩
 item:=fun i s Q E hi x hQ=>by
  refine hstep s i E Q x.1 x.2.2.2 x.2.1 x.2.2.1 (fun v hv h' hit hs=>?_) fun z=>absurd z (by simp;omega);refine hQ v h' s.toks hv ⟨hi,hit,?_,hside _ h' x.2.2.2 fun o e=>?_⟩ fun b o hb e=>?_
  ·rw[hs.2 S hne];exact x.2.2.1
  ·rw[hs.2 T hT];exact e
  ·rw[hs.2 b fun z=>hb (by simp[z])];exact e
 done:=fun s Q E x hQ=>by
  refine hstep s es.size E Q x.1 x.2.2.2 x.2.1 x.2.2.1 (fun v hv=>absurd hv (by rw[List.getElem?_eq_none (by omega)];simp)) fun _ h' hk=>hQ h' s.toks fun b o hb e=>hk b o (fun z=>hb (by simp[z])) e
 self:=fun i s Q E x hQ=>wx x.2.1 hQ
theorem lZ{S:Addr}{es:Array (Int×Value)}{ep:Nat}{t:SetTable}{Q:Bool->Shared->Prop}(ho:s.heap.get? S=some (lY es ep t))(hf:t.fits es.size=true)(h:Q (!w.params.followText "set-order"&&(!t.plain&&decide (es.size>1))) s):wpAny (model prog w) A (setDrawn S) Q E s:=by
 unfold setDrawn;refine wpAny_bind (wpAny_setState_of ho rfl hf ?_)
 dsimp only
 exact wpAny_bind (bZ (wpAny_pure h))
theorem l0{S:Addr}{es:Array (Int×Value)}{ep i:Nat}{t:SetTable}{Q:Option (Value×Nat)->Shared->Prop}(hw:w.params.followText "set-order"=true)(ho:s.heap.get? S=some (lY es ep t))(hf:t.fits es.size=true)
  (h:Q ((pickOrder (w.params.setOrder S ep) es)[i]?.map fun e=>(e.2,0)) s):wpAny (model prog w) A (setNext S 0 i ep) Q E s:=by
 unfold setNext;refine wpAny_bind (wpAny_setState_of ho rfl hf ?_)
 dsimp only
 refine wpAny_bind (bZ ?_);show wpAny _ _ (if (w.params.followText "set-order")=true then _ else _) _ _ s;rw[if_pos hw];rw[if_neg (by simp)];unfold setWalk;refine wpAny_bind (wpAny_bind (wpAny_setState_of ho rfl hf ?_))
 dsimp only
 refine wpAny_bind (bZ ?_);show wpAny _ _ (if (w.params.followText "set-order")=true then _ else _) _ _ s;rw[if_pos hw];refine wpAny_bind (wpAny_askSetting (wpAny_pure ?_));exact wpAny_pure h
theorem nh{S:Addr}{es:Array (Int×Value)}{ep i slot:Nat}{t:SetTable}{Q:Option (Value×Nat)->Shared->Prop}(hw:w.params.followText "set-order"=false)(ho:s.heap.get? S=some (lY es ep t))(hf:t.fits es.size=true)(hl:t.led=true)(h1:es.size<=1)
    (h:Q (match es[SetTable.below t.place slot]?,t.place[SetTable.below t.place slot]? with|some (_,x),some j=>some (x,j+1)|_,_=>none) s):wpAny (model prog w) A (setNext S slot i ep) Q E s:=by
  unfold setNext;refine wpAny_bind (wpAny_setState_of ho rfl hf ?_)
  dsimp only
  refine wpAny_bind (bZ ?_);show wpAny _ _ (if (w.params.followText "set-order")=true then _ else _) _ _ s;rw[if_neg (by rw[hw];simp)];show wpAny _ _ (if (!t.plain&&decide (es.size>1))=true then _ else _) _ _ s
  rw [if_neg (by have : decide (es.size > 1) = false := decide_eq_false (by omega)
                 rw[this];simp)]
  show wpAny _ _ ((if (!t.led&&!es.isEmpty)=true then _ else _) >>= _) _ _ s;rw[if_neg (by rw[hl];simp)];exact wpAny_bind (wpAny_pure (wpAny_pure h))
theorem ni(es:Array (Int×Value))(pl:Array Nat)(i:Nat)(h1:es.size<=1)(h2:pl.size=es.size)(h3:i<=es.size):
  (match es[SetTable.below pl (if i=0 then 0 else(pl[0]?).getD 0+1)]?,pl[SetTable.below pl (if i=0 then 0 else(pl[0]?).getD 0+1)]? with|some (_,x),some j=>some (x,j+1)|_,_=>none)=es[i]?.map fun e=>(e.2,(pl[0]?).getD 0+1):=by
 obtain⟨es⟩:=es;obtain⟨pl⟩:=pl
 match es,pl,h1,h2,h3 with
 |[],[],_,_,h3=>simp
 |[e],[p],_,_,h3 =>
  match i,h3 with
  |0,_ =>
   have:SetTable.below #[p] 0=0:=by simp[SetTable.below,SetTable.below.go]
   simp[this]
  |1,_ =>
   have:SetTable.below #[p] (p+1)=1:=by simp[SetTable.below,SetTable.below.go]
   simp[this]
  |n+2,h=>simp at h
 |[],_::_,_,h,_=>simp at h
 |[_],[],_,h,_=>simp at h
 |[_],_::_::_,_,h,_=>simp at h
 |_::_::_,_,h,_,_=>simp at h
theorem tQ{S:Addr}{D:List Str}{Q:Value->Shared->Prop}{B:Around}(hh:B.handled=none)(hS:aK prog w s.heap S (aD w) D)
  (h:∀(I:Addr) (fp:List Addr) (n:Nat) (P:Nat->Value->Prop) (St:Nat->Heap->Prop) (ys:List Str) (h':Heap) (d':Drawn),Walks prog w B I fp [I] n P St->ys.Perm D->n=ys.length->(∀i v,P i v->∃x tk,ys[i]?=some x/\v=.str x tk)->s.heap.objs.size<=I->(∀b∈fp,b=S\/s.heap.objs.size<=b)->St 0 h' ->
   (∀b o,s.heap.get? b=some o->h'.get? b=some o)->Q (.ref I) {s with heap:=h',drawn:=d' }):wpAny (model prog w) A (pyIter (.ref S)) Q E s:=by
 obtain⟨L,es,ep,t,ho,hes,hperm,hnd,hf,hb,hled,hpl⟩:=hS;have hTS:s.TypeIs (.ref S) "set":=⟨_,ho,rfl⟩
 have hSlt:S<s.heap.objs.size:=Heap.lt_size ho;refine wpAny_pyIter_slot hTS PySem.F.slot_set_iter (wpAny_call_entry PySem.F.slot_set_iter hTS SI.ji ?_ (PySem.F.args_set_iter_1 _));unfold Builtin.«frozenset.__iter__» Builtin.Frozenset.slot0 slotArgs;simp only[List.isEmpty_nil,Bool.not_true,Bool.false_eq_true,↓reduceIte,bind_assoc,List.length_nil,bne_self_eq_false];unfold Builtin.Frozenset.addrOf Builtin.Frozenset.sizeOf;refine wpAny_bind (wpAny_pure ?_)
 try dsimp only
 refine wpAny_bind (wpAny_pure ?_);refine wpAny_bind (wpAny_bind (wpAny_setEntries_of ho rfl hf (wpAny_pure ?_)));have hLd:D.length=es.size:=by rw[<-hperm.length_eq,List.length_map,<-Array.length_toList,hes,List.length_map]
 have look:∀(l:List (Int×Value)),l.Perm es.toList->∃ys:List Str,ys.Perm D/\ys.length=es.size/\∀(i:Nat) (v:Value),(l.map (·.2))[i]?=some v->∃(x:Str) (tk:Tok),ys[i]?=some x/\v=Value.str x tk:=by
  intro l hl;rw[hes]at hl;obtain⟨L',e',p'⟩:=cv hl;refine⟨L'.map (·.1),(p'.map _).trans hperm,by rw[((p'.map _).trans hperm).length_eq,hLd],fun i v hv=>?_⟩;subst e';rw[List.map_map,List.getElem?_map]at hv;rw[List.getElem?_map];cases q:L'[i]? with
  |none=>rw[q]at hv;simp at hv
  |some p=>rw[q]at hv;simp at hv;exact⟨p.1,p.2,rfl,hv.symm⟩
 refine wpAny_bind (lZ ho hf ?_);cases hw:w.params.followText "set-order" with
 |true =>
  simp only[Bool.not_true,Bool.false_and,Bool.false_eq_true,↓reduceIte];refine wpAny_bind (wpAny_pure ?_);refine wpAny_bind (wpAny_bind (wpAny_setState_of ho rfl hf (wpAny_pure ?_)));refine wpAny_bind (wpAny_newObj_type ?_);have hn:S≠s.heap.objs.size:=Nat.ne_of_lt hSlt;obtain⟨ys,y1,y2,y3⟩:=look (pickOrder (w.params.setOrder S ep) es).toList (cQ _ _);have W:=jj (prog:=prog) (w:=w) (A:=B) (I:=s.heap.objs.size) (S:=S) (es:=es) (ep:=ep) (t:=t) hh hn hf S hn ((pickOrder (w.params.setOrder S ep) es).toList.map (·.2)) (by rw[List.length_map,(cQ _ _).length_eq,Array.length_toList]) (fun _=>rawInt 0) (fun _=>True) (fun _ _ _ _=>trivial)
   (fun s i E Q _ _ hit ho' k1 k2=>tP (slot:=0) hit ho' hf hh (fun B E' Q' q=>l0 hw ho' hf q) (fun x nx e h' hit' hs=>by
    rw[Option.map_eq_some_iff]at e;obtain⟨p,e1,e2⟩:=e;cases e2;exact k1 _ (by rw[List.getElem?_map,Array.getElem?_toList,e1];rfl) h' hit' hs) (fun e=>k2 (by rw[List.getElem?_map,Array.getElem?_toList,Option.map_eq_none_iff];rwa [Option.map_eq_none_iff]at e)))
  refine wpAny_pure ⟨_,rfl,"set_iterator",_,⟨_,Heap.get?_push_size _ rfl,rfl⟩,SI.slot_next.lookup,?_⟩;exact h _ _ _ _ _ ys _ s.drawn W y1 y2.symm y3 (Nat.le_refl _) (fun b hb=>by
   simp only[List.mem_cons,List.not_mem_nil,or_false]at hb;rcases hb with rfl|rfl|rfl
   ·exact .inr (Nat.le_refl _)
   ·exact .inl rfl
   ·exact .inl rfl) ⟨Nat.zero_le _,⟨_,Heap.get?_push_size _ rfl,rfl,rfl⟩,Heap.get?_push_of_some _ ho,trivial⟩ fun b o e=>Heap.get?_push_of_some _ e
 |false =>
  by_cases hsz:es.size>1
  ·have hplain:t.plain=false:=by
    rcases hpl with z|z
    ·omega
    ·exact z
   have e1:(!false&&(!t.plain&&decide (es.size>1)))=true:=by rw[hplain,decide_eq_true hsz];rfl
   rw[e1];simp only[↓reduceIte];refine wpAny_bind (fE _ _ _ _ List.length_range fun pl d' hp=>?_);simp only[newTuple];have hpl2:∀j∈pl,j<es.size:=fun j hj=>by have:=hp.mem_iff.mp hj;simpa using this
   have hpll:pl.length=es.size:=by rw[hp.length_eq];simp
   refine wpAny_bind (wpAny_newObj_type ?_ (by
    show(pl.map fun(j:Nat)=>rawInt j).toArray.size<=_;have:es.size<4096:=hb;simp only[List.size_toArray,List.length_map,hpll];have:(4096:Nat)<=sizeLine:=by decide
    omega))
   have ho1:(s.heap.push {cls:=.type "tuple",data:=.seq (pl.map fun(j:Nat)=>rawInt j).toArray}).get? S=some (lY es ep t):=Heap.get?_push_of_some _ ho;refine wpAny_bind (wpAny_bind (wpAny_setState_of (s:={s with heap:=_,drawn:=d' }) ho1 rfl hf (wpAny_pure ?_)));refine wpAny_bind (wpAny_newObj_type ?_);have hIT:s.heap.objs.size≠(s.heap.push {cls:=.type "tuple",data:=.seq (pl.map fun(j:Nat)=>rawInt j).toArray}).objs.size:=by rw[size_push'];exact Nat.ne_of_lt (Nat.lt_succ_self _)
   have hn:S≠(s.heap.push {cls:=.type "tuple",data:=.seq (pl.map fun(j:Nat)=>rawInt j).toArray}).objs.size:=by rw[size_push'];exact Nat.ne_of_lt (Nat.lt_succ_of_lt hSlt)
   have hperm2:(pl.map fun j=>(es[j]?).getD (0,Value.none)).Perm es.toList:=by
    refine(hp.map _).trans ?_;have:(List.range es.size).map (fun j=>(es[j]?).getD (0,Value.none))=es.toList:=by
     apply List.ext_getElem
     ·simp
     ·intro i h1 h2;simp at h1 ⊢;simp[h1]
    rw[this]
   obtain⟨ys,y1,y2,y3⟩:=look _ hperm2;have W:=jj (prog:=prog) (w:=w) (A:=B) (I:=(s.heap.push {cls:=.type "tuple",data:=.seq (pl.map fun(j:Nat)=>rawInt j).toArray}).objs.size) (S:=S) (es:=es) (ep:=ep) (t:=t) hh hn hf s.heap.objs.size hIT ((pl.map fun j=>(es[j]?).getD (0,Value.none)).map (·.2)) (by simp[hpll]) (fun _=>.ref s.heap.objs.size) (fun h=>h.IsTuple s.heap.objs.size (pl.map fun(j:Nat)=>rawInt j).toArray) (fun h h' ⟨o,ho,r⟩ k=>⟨o,k _ ho,r⟩)
    (fun s' i E Q _ hside hit ho' k1 k2=>yP hit ho' hf hh hside (fun j e ej ee h' hit' hs=>k1 _ (by rw[List.getElem?_map,List.getElem?_map,ej];simp[ee]) h' hit' hs) hpl2 (fun e=>k2 (by rw[List.getElem?_map,List.getElem?_map,e];rfl)))
   refine wpAny_pure ⟨_,rfl,"set_iterator",_,⟨_,Heap.get?_push_size _ rfl,rfl⟩,SI.slot_next.lookup,?_⟩;refine h _ _ _ _ _ ys _ d' W y1 y2.symm y3 (by rw[size_push'];exact Nat.le_succ _) (fun b hb=>?_) ⟨Nat.zero_le _,⟨_,Heap.get?_push_size _ rfl,rfl,rfl⟩,Heap.get?_push_of_some _ ho1,⟨_,Heap.get?_push_of_some _ (Heap.get?_push_size _ rfl),rfl,_,rfl⟩⟩ fun b o e=>Heap.get?_push_of_some _ (Heap.get?_push_of_some _ e);rw[size_push']at hb;simp only[List.mem_cons,List.not_mem_nil,or_false]at hb;rcases hb with rfl|rfl|rfl
   ·exact .inr (Nat.le_succ _)
   ·exact .inl rfl
   ·exact .inr (Nat.le_refl _)
  ·have e1:(!false&&(!t.plain&&decide (es.size>1)))=false:=by rw[decide_eq_false hsz];simp
   rw[e1];simp only[Bool.false_eq_true,↓reduceIte];refine wpAny_bind (wpAny_pure ?_);refine wpAny_bind (wpAny_bind (wpAny_setState_of ho rfl hf (wpAny_pure ?_)));refine wpAny_bind (wpAny_newObj_type ?_);have hn:S≠s.heap.objs.size:=Nat.ne_of_lt hSlt;have hld:t.led=true:=by rw[hled];show(!w.params.followText "set-order")=true;rw[hw];rfl
   obtain⟨ys,y1,y2,y3⟩:=look es.toList (.refl _);have hps:t.place.size=es.size:=by
    unfold SetTable.fits at hf;simp only[Bool.and_eq_true,beq_iff_eq]at hf;exact hf.1
   have W:=jj (prog:=prog) (w:=w) (A:=B) (I:=s.heap.objs.size) (S:=S) (es:=es) (ep:=ep) (t:=t) hh hn hf S hn (es.toList.map (·.2)) (by simp) (fun i=>rawInt ((if i=0 then 0 else(t.place[0]?).getD 0+1:Nat):Nat)) (fun _=>True) (fun _ _ _ _=>trivial)
    (fun s' i E Q hi _ hit ho' k1 k2=>tP (slot:=if i=0 then 0 else(t.place[0]?).getD 0+1) hit ho' hf hh (fun B E' Q' q=>nh hw ho' hf hld (by omega) q) (fun x nx e h' hit' hs=>by
     rw[ni es t.place i (by omega) hps hi,Option.map_eq_some_iff]at e;obtain⟨p,e1,e2⟩:=e;cases e2;refine k1 _ (by rw[List.getElem?_map,Array.getElem?_toList,e1];rfl) h' ?_ hs;rw[if_neg (Nat.succ_ne_zero i)];exact hit') (fun e=>by
     rw[ni es t.place i (by omega) hps hi,Option.map_eq_none_iff]at e;exact k2 (by rw[List.getElem?_map,Array.getElem?_toList,e];rfl)))
   refine wpAny_pure ⟨_,rfl,"set_iterator",_,⟨_,Heap.get?_push_size _ rfl,rfl⟩,SI.slot_next.lookup,?_⟩;exact h _ _ _ _ _ ys _ s.drawn W y1 y2.symm y3 (Nat.le_refl _) (fun b hb=>by
    simp only[List.mem_cons,List.not_mem_nil,or_false]at hb;rcases hb with rfl|rfl|rfl
    ·exact .inr (Nat.le_refl _)
    ·exact .inl rfl
    ·exact .inl rfl) ⟨Nat.zero_le _,⟨_,Heap.get?_push_size _ rfl,rfl,rfl⟩,Heap.get?_push_of_some _ ho,trivial⟩ fun b o e=>Heap.get?_push_of_some _ e
end
end L2
namespace L2
open PySem PySem.Spec PyProof.Rows
theorem nj:typeLookup (.type "set") "__len__"=pure (some (.builtin "set.__len__")):=by rw[typeLookup_type,builtinLookup_eq_fast];kernel_rfl
section
variable{prog:Program}{w:World}{A:Around}{E:Value->Shared->Prop}{s:Shared}
theorem jk:∀{vs:List Value}{ys:List Str},vs.length=ys.length->(∀(i:Nat) (v:Value),vs[i]?=some v->∃x t,ys[i]?=some x/\v=.str x t)->StrsAre vs ys
 |[],[],_,_=>.nil
 |[],_::_,h,_=>by simp at h
 |_::_,[],h,_=>by simp at h
 |v::vs,y::ys,h,k=>by
  obtain⟨x,t,e1,e2⟩:=k 0 v rfl;cases e1;subst e2;exact .cons y t (jk (by simpa using h) fun i w hw=>k (i+1) w hw)
theorem nq{S:Addr}{D:List Str}{Q:List Value->Shared->Prop}(hh:A.handled=none)(hS:aK prog w s.heap S (aD w) D)(hn:D.length<=sizeLine)
  (hQ:∀(vs:List Value) (ys:List Str) (h':Heap) (d':Drawn) (tk:Nat),ys.Perm D->StrsAre vs ys->s.heap.objs.size<=h'.objs.size->s.toks<=tk->(∀b o,s.heap.get? b=some o->h'.get? b=some o)->Q vs {s with heap:=h',drawn:=d',toks:=tk}) :
  wpAny (model prog w) A (collect (.ref S)) Q E s:=by
 obtain⟨L,es,ep,t,ho,rest⟩:=id hS;have hSlt:S<s.heap.objs.size:=Heap.lt_size ho;unfold collect;refine wpAny_bind (wpAny_runValue (codeAny_builtin PySem.F.entry_proto_collect ?_));rw[Around.under_plainId PySem.F.plain_proto_collect _];show wpAny _ A.in1 (newList [] >>= fun l=>again (.builtin "list.__iadd__" ⟨[l,.ref S],[]⟩)) _ _ s;refine wpAny_bind (wpAny_newObj_type ?_);refine wpAny_pure ⟨plainId_quiet PySem.F.plain_list_iadd _,codeAny_builtin PySem.F.entry_list_iadd ?_⟩;rw[Around.under_plainId PySem.F.plain_list_iadd _];have ho1:(s.heap.push {cls:=.type "list",data:=.seq ([]:List Value).toArray}).get? S=some {cls:=.type "set",dict:=none,data:=.set es ep t}:=Heap.get?_push_of_some _ ho;have hT:Shared.TypeIs {s with heap:=s.heap.push {cls:=.type "list",data:=.seq ([]:List Value).toArray}} (.ref S) "set":=⟨_,ho1,rfl⟩
 show wpAny _ A.in1 (Builtin.List.listExtendWith (.ref s.heap.objs.size) (.ref S) (.ref s.heap.objs.size)) _ _ _;unfold Builtin.List.listExtendWith;refine wpAny_bind (wpAny_typeOf hT ?_);have hne:s.heap.objs.size≠S:=Nat.ne_of_gt hSlt;have h1:Builtin.List.listSameRef (.ref s.heap.objs.size) (.ref S)=false:=by simp[Builtin.List.listSameRef,hne]
 have h2:(Value.type "set"==Value.type "list")=false:=by decide
 have h3:(Value.type "set"==Value.type "tuple")=false:=by decide
 simp only[h1,h2,h3,Bool.or_false,Bool.false_eq_true,if_false];refine wpAny_bind (tQ (B:=A.in1) (by simpa using hh) ⟨L,es,ep,t,ho1,rest⟩ ?_);intro I fp n P St ys h' d' W hp hny hP hI hfp hst hk;have hT':Shared.TypeIs {s with heap:=h',drawn:=d' } (.ref S) "set":=⟨_,hk _ _ ho1,rfl⟩
 refine wpAny_bind (wpAny_holding ?_);unfold Builtin.List.listLengthHint;refine wpAny_bind (wpAny_specialOf hT' nj ?_);have hsp:splitId "set.__len__"=some ("set","__len__"):=by decide +kernel
 dsimp only
 rw[hsp]
 dsimp only
 refine wpAny_bind (wpAny_isInstance hT' sub_set_self ?_);rw[if_neg (by decide)];rw[if_pos (by decide +kernel)];refine wpAny_bind (wpAny_typeOf hT' ?_);refine wpAny_pure ?_;rw[if_pos (by decide +kernel)];have hSf:s.heap.objs.size∉fp:=fun hm=>by
  rcases hfp _ hm with z|z
  ·exact hne z
  ·rw[size_push']at z;exact absurd z (Nat.not_succ_le_self _)
 have hS1:h'.get? s.heap.objs.size=some {cls:=.type "list",data:=.seq ([]:List Value).toArray}:=hk _ _ (Heap.get?_push_size _ rfl);refine wpAny_bind (wpAny_rule ?_);refine wpAny_bind ?_;show wpAny _ A.in1 (updateSeq s.heap.objs.size (·.push .none) >>= fun _=>updateSeq s.heap.objs.size (·.pop)) _ _ _;refine wpAny_bind (wpAny_updateSeq hS1 rfl ?_);have hS2:=Heap.get?_update_self (Obj.mapSeq (·.push Value.none)) hS1 rfl;refine wpAny_updateSeq hS2 rfl ?_;have hS3:=Heap.get?_update_self (Obj.mapSeq (·.pop)) hS2 rfl;have oth:∀b o,b≠s.heap.objs.size->h'.get? b=some o->((h'.update s.heap.objs.size (Obj.mapSeq (·.push Value.none))).update s.heap.objs.size (Obj.mapSeq (·.pop))).get? b=some o :=
  fun b o hb e=>(Heap.get?_update_other _ _ (Ne.symm hb)).trans ((Heap.get?_update_other _ _ (Ne.symm hb)).trans e)
 refine wpAny_pure ⟨plainId_quiet PySem.F.plain_extend_loop _,codeAny_extend_loopS W.toS (by rw[hny,hp.length_eq];exact hn) _ hSf _ n 0 _ _ _ rfl (Nat.zero_le _) (W.frame 0 h' _ hst fun b hb o e=>oth b o (fun z=>hSf (z▸hb)) e) hS3 (ItemsOf.nil P) fun s' acc' c' hm hS' hacc=>?_⟩;show wpAny _ A (load s.heap.objs.size >>= _) _ _ s';refine wpAny_bind (wpAny_load hS' ?_);obtain⟨h2',g2,d2,tk2,os2⟩:=s';have eg:g2=s.gens:=hm.gens;have ed:d2=d':=hm.drawn;have eo:os2=s.os:=hm.os;subst eg;subst ed;subst eo;refine wpAny_pure (hQ _ ys h2' d2 tk2 hp (jk (by rw[Array.length_toList,hacc.1,hny]) fun i v hv=>hP i v (hacc.2 i v (by rwa [Array.getElem?_toList]at hv))) (Nat.le_of_lt (Heap.lt_size hS')) hm.toks fun b o e=>?_);have hb0:b≠s.heap.objs.size:=fun z=>by rw[z]at e;exact absurd (Heap.lt_size e) (Nat.lt_irrefl _)
 refine hm.heap b o (fun z=>?_) (oth b o hb0 (hk _ _ (Heap.get?_push_of_some _ e)));rcases List.mem_cons.mp z with z|z
 ·exact hb0 z
 ·rw[List.mem_singleton.mp z]at e;have:=Heap.lt_size e;rw[size_push']at hI;exact absurd (Nat.lt_of_lt_of_le this (Nat.le_trans (Nat.le_succ _) hI)) (Nat.lt_irrefl _)
end
end L2
namespace L2
open PySem PySem.Spec PyProof.Rows
section
variable{X:Cx}{pins:List (Addr×Obj)}{σ:List (Option V)}{H:Hp}{s:Shared}
theorem Inv.drawn(I:Inv X pins σ H s)(d:Drawn):Inv X pins σ H {s with drawn:=d}:=⟨I.ok,I.os,I.bare,I.base,I.loc,I.cell,I.free,I.freeC,I.pin,I.hok,I.len⟩
theorem gr{p:Addr}{ys:List Str}{Q:Value->Shared->Prop}(hc:X.calm=true)(I:Inv X pins σ H s)(hq:SqL X.K H p (ys.map V.str)\/SqT X.K H p (ys.map V.str))(hb:ys.length+1<scanBound)
  (h:∀(S:Addr) (h':Heap) (tk:Nat),aK X.prog X.w h' S (aD X.w) (ak ys)->Inv X pins σ H {s with heap:=h',toks:=tk}->Q (.ref S) {s with heap:=h',toks:=tk}) :
  wpAny (model X.prog X.w) X.A (call (.type "set") [.ref p]) Q X.xe s:=by
 have hh:X.A.handled=none:=I.ok.hd hc;rcases hq with hq|hq
 ·obtain⟨its,rv,pl,hz⟩:=I.list hq;exact eE hh pl.isList (bX rv) hb fun h' tk hS k=>h _ h' tk hS (I.kept fun b o e=>k b o (Heap.lt_size e) e)
 ·obtain⟨its,rv,pl,hz⟩:=I.tuple hq;exact fD hh pl (bX rv) hb fun h' tk hS k=>h _ h' tk hS (I.kept fun b o e=>k b o (Heap.lt_size e) e)
theorem fF{S:Addr}{D:List Str}{Q:VK}(hc:X.calm=true)(I:Inv X pins σ H s)(hS:aK X.prog X.w s.heap S (aD X.w) D)(h64:D.length<64)
  (q:∀p,H p=none->Q (.ref p) (upd H p (.lst ((aH D).map V.str)))):wpAny (model X.prog X.w) X.A (call (.builtin "sorted") [.ref S]) (EP X pins σ Q) X.xe s:=by
 have hh:X.A.handled=none:=I.ok.hd hc;have hl:D.length<=sizeLine:=Nat.le_of_lt (Nat.lt_of_lt_of_le h64 (by decide));refine fL (nq (A:=X.A.in1) (by simpa using hh) hS hl fun vs ys h' d' tk hp hv hsz htk hk=>⟨ys,hv,by rw[gq hv,hp.length_eq];exact h64,fun h2 vs' e k2 at2 s2=>?_⟩);rw[ia hp]at s2;have I1:Inv X pins σ H {s with heap:=h',toks:=tk}:=I.kept (t':=tk) hk;have I2:Inv X pins σ H {s with heap:=h',drawn:=d',toks:=tk}:=I1.drawn d';exact⟨.ref h'.objs.size,_,I2.laid (t':=tk) (o:=.lst ((aH D).map V.str)) k2 (Nat.le_refl _) ⟨by rw[List.length_map,a5];exact hl,vs',e,dM s2,at2⟩,rfl,q _ (I2.hok.fresh (Nat.le_refl _))⟩
theorem jl{S:Addr}{D:List Str}{Q:VK}(I:Inv X pins σ H s)(hS:aK X.prog X.w s.heap S (aD X.w) D)
  (q:Q (.int D.length) H):wpAny (model X.prog X.w) X.A (call (.builtin "len") [.ref S]) (EP X pins σ Q) X.xe s:=by
 obtain⟨L,es,ep,t,ho,hes,hperm,hnd,hf,hb,hled,hpl⟩:=hS;have hlen:es.size=D.length:=by rw[<-Array.length_toList,hes,List.length_map,<-List.length_map (f:=Prod.fst) (as:=L),hperm.length_eq]
 have hb':es.size<4096:=hb;refine call_len_set ho ⟨rfl,rfl,rfl⟩ rfl hf (by omega) ?_;exact⟨.int es.size,_,I.kept (t':=s.toks+1+1) (fun _ _ e=>e),⟨_,rfl⟩,by rw[hlen];exact q⟩
end
end L2
namespace L2
open PySem
noncomputable def cR(mask:Nat):Nat->Nat×Nat->Nat×Nat
 |0,q=>q
 |t+1,q=>cR mask t (SetTable.leap mask q.1 q.2)
theorem kG(mask:Nat):∀(a b:Nat) (q:Nat×Nat),cR mask (a+b) q=cR mask b (cR mask a q)
 |0,b,q=>by rw[Nat.zero_add];rfl
 |a+1,b,q=>by rw[show a+1+b=(a+b)+1 by omega];exact kG mask a b _
theorem kH(mask:Nat):∀(t:Nat) (q:Nat×Nat),(cR mask t q).2=q.2 / 32 ^ t
 |0,q=>by simp[cR]
 |t+1,q=>by
  show(cR mask t (SetTable.leap mask q.1 q.2)).2=_;rw[kH mask t];show q.2 / 32 / 32 ^ t=_;rw[Nat.div_div_eq_div_mul,Nat.pow_succ,Nat.mul_comm]
theorem nu(mask:Nat):∀(t:Nat) (q:Nat×Nat),q.1<mask+1->(cR mask t q).1<mask+1
 |0,q,h=>h
 |t+1,q,h=>nu mask t _ (Nat.mod_lt _ (Nat.succ_pos _))
noncomputable def orb(m:Nat):Nat->Nat->Nat
 |0,i=>i
 |t+1,i=>orb m t ((i * 5+1) % m)
theorem kI(mask:Nat):∀(t i:Nat),cR mask t (i,0)=(orb (mask+1) t i,0)
 |0,i=>rfl
 |t+1,i=>by
  show cR mask t ((i * 5+1+0 / 32) % (mask+1),0 / 32)=(orb (mask+1) t ((i * 5+1) % (mask+1)),0)
  rw[Nat.zero_div,Nat.add_zero];exact kI mask t _
theorem iH(m:Nat):∀(a b i:Nat),orb m (a+b) i=orb m b (orb m a i)
 |0,b,i=>by rw[Nat.zero_add];rfl
 |a+1,b,i=>by rw[show a+1+b=(a+b)+1 by omega];exact iH m a b _
noncomputable def rK(m:Nat):Nat->Nat->List Nat
 |0,_=>[]
 |t+1,i=>i::rK m t ((i * 5+1) % m)
theorem qj(m:Nat):∀(n i t:Nat),t<n->(rK m n i)[t]?=some (orb m t i)
 |0,_,_,h=>by omega
 |n+1,i,0,_=>rfl
 |n+1,i,t+1,h=>by
  show(rK m n ((i * 5+1) % m))[t]?=_;exact qj m n _ t (by omega)
theorem nv(m:Nat):∀(n i:Nat),(rK m n i).length=n
 |0,_=>rfl
 |n+1,i=>by show(rK m n _).length+1=_;rw[nv m n]
noncomputable def Full(m:Nat):Bool:=(List.range m).all (fun j=>(rK m m 0).contains j)&&(orb m m 0==0)
theorem xT:Full 8=true:=by decide +kernel
theorem tR:Full 16=true:=by decide +kernel
theorem tS:Full 32=true:=by decide +kernel
theorem tV:Full 64=true:=by decide +kernel
theorem qk:Full 128=true:=by decide +kernel
theorem rL{m:Nat}(h:Full m=true){i j:Nat}(hi:i<m)(hj:j<m):∃t,t<m/\orb m t i=j:=by
 unfold Full at h;rw[Bool.and_eq_true,List.all_eq_true]at h;obtain⟨h1,h2⟩:=h;have h2:orb m m 0=0:=by simpa using h2
 have get:∀k,k<m->∃a,a<m/\orb m a 0=k:=fun k hk=>by
  have:=h1 k (List.mem_range.mpr hk);rw[List.contains_iff_mem]at this;obtain⟨a,ha⟩:=List.mem_iff_getElem?.mp this;have hlt:a<m:=by have:=(List.getElem?_eq_some_iff.mp ha).1;rw[nv]at this;exact this
  rw[qj m m 0 a hlt]at ha;exact⟨a,hlt,by simpa using ha⟩
 obtain⟨a,ha,ea⟩:=get i hi;obtain⟨b,hb,eb⟩:=get j hj;by_cases hab:a<=b
 ·exact⟨b - a,by omega,by rw[<-ea,<-iH,show a+(b - a)=b by omega,eb]⟩
 ·refine⟨m - a+b,by omega,?_⟩;rw[<-ea,<-iH,show a+(m - a+b)=m+b by omega,iH,h2,eb]
theorem kJ{mask:Nat}{owner:Array (Option Nat)}:∀(f i p:Nat),SetTable.layClean.free mask owner f i p=none->∀t,t<f->(owner.getD (cR mask t (i,p)).1 (some 0)).isNone=false
 |0,_,_,_,t,h=>by omega
 |f+1,i,p,h,t,ht=>by
  unfold SetTable.layClean.free at h;cases hf:(List.range (SetTable.runEnd mask i+1 - i)).find? (fun k=>(owner.getD (i+k) (some 0)).isNone) with
  |some k=>rw[hf]at h;cases h
  |none =>
   rw[hf]at h;cases t with
   |zero =>
    have:=List.find?_eq_none.mp hf 0 (List.mem_range.mpr (by unfold SetTable.runEnd;split<;>omega));rw[Nat.add_zero]at this;show(owner.getD i (some 0)).isNone=false;cases e:(owner.getD i (some 0)).isNone with
    |false=>rfl
    |true=>exact absurd e this
   |succ t=>exact kJ f _ _ h t (by omega)
theorem kK{mask:Nat}{owner:Array (Option Nat)}:∀(f i p j:Nat),SetTable.layClean.free mask owner f i p=some j->owner[j]?=some none
 |0,_,_,_,h=>by cases h
 |f+1,i,p,j,h=>by
  unfold SetTable.layClean.free at h;cases hf:(List.range (SetTable.runEnd mask i+1 - i)).find? (fun k=>(owner.getD (i+k) (some 0)).isNone) with
  |some k =>
   rw[hf]at h;cases h;have h1:=List.find?_some hf;have h2:i+k<owner.size:=by
    refine Classical.byContradiction fun z=>?_;have:owner.getD (i+k) (some 0)=some 0:=by simp[Array.getD,z]
    rw[this]at h1;cases h1
   have h3:owner.getD (i+k) (some 0)=owner[i+k]:=by simp[Array.getD,h2]
   rw[h3]at h1;rw[Array.getElem?_eq_getElem h2];cases e:owner[i+k] with
   |none=>rfl
   |some _=>rw[e]at h1;cases h1
  |none =>
   rw[hf]at h;exact kK f _ _ j h
theorem wy{mask:Nat}(hm:Full (mask+1)=true){owner:Array (Option Nat)}{j0:Nat}(hj:owner[j0]?=some none)(hsz:owner.size=mask+1){i p:Nat}(hi:i<mask+1)(hp:p<2 ^ 64):∃j,SetTable.layClean.free mask owner (SetTable.turns mask) i p=some j/\owner[j]?=some none:=by
 cases e:SetTable.layClean.free mask owner (SetTable.turns mask) i p with
 |some j=>exact⟨j,rfl,kK _ _ _ _ e⟩
 |none =>
  have hj0:j0<mask+1:=by rw[<-hsz];exact(Array.getElem?_eq_some_iff.mp hj).1
  have h13:(cR mask 13 (i,p)).2=0:=by
   rw[kH];exact Nat.div_eq_of_lt (Nat.lt_trans hp (by decide))
  obtain⟨t,ht,et⟩:=rL hm (nu mask 13 (i,p) hi) hj0;have el:cR mask (13+t) (i,p)=(j0,0):=by
   rw[kG,show cR mask 13 (i,p)=((cR mask 13 (i,p)).1,0) from Prod.ext rfl h13,kI,et]
  have:=kJ _ _ _ e (13+t) (by unfold SetTable.turns;omega);rw[el]at this;have h3:owner.getD j0 (some 0)=none:=by
   have hlt:j0<owner.size:=by omega
   rw[Array.getElem?_eq_getElem hlt]at hj;simp[Array.getD,hlt];exact Option.some.inj hj
  rw[h3]at this;cases this
noncomputable def vals(L:List (Option Nat)):List Nat:=L.filterMap id
theorem ny{k:Nat}:∀{L:List (Option Nat)}{j:Nat},L[j]?=some none->(vals (L.set j (some k))).Perm (k::vals L)
 |[],j,h=>by simp at h
 |x::L,0,h=>by
  have:x=none:=by simpa using h
  subst this;exact List.Perm.refl _
 |x::L,j+1,h=>by
  have ih:=ny (k:=k) (L:=L) (j:=j) (by simpa using h);cases x with
  |none=>exact ih
  |some y =>
   show(y::vals (L.set j (some k))).Perm (k::y::vals L);exact(List.Perm.cons y ih).trans (List.Perm.swap k y _)
theorem kL:∀{L:List (Option Nat)},(vals L).length<L.length->∃j:Nat,L[j]?=some none
 |[],h=>by simp at h
 |none::L,_=>⟨0,rfl⟩
 |some y::L,h=>by
  obtain⟨j,hj⟩:=kL (L:=L) (by
   have:(vals L).length+1<L.length+1:=h;omega)
  exact⟨j+1,by simpa using hj⟩
theorem tW{mask:Nat}(hm:Full (mask+1)=true):∀(hs:List Int) (owner:Array (Option Nat)) (k:Nat),owner.size=mask+1->(vals owner.toList).Perm (List.range k)->k+hs.length<=mask ->
  ∃owner',hs.foldl (fun acc h=>do
   let (owner,k) <-acc
   let j <-SetTable.layClean.free mask owner (SetTable.turns mask) (SetTable.bits h % (mask+1)) (SetTable.bits h)
   pure (owner.setIfInBounds j (some k),k+1)) (some (owner,k))=some (owner',k+hs.length)/\owner'.size=mask+1/\(vals owner'.toList).Perm (List.range (k+hs.length))
 |[],owner,k,h1,h2,_=>⟨owner,rfl,h1,h2⟩
 |h::hs,owner,k,h1,h2,h3=>by
  rw[List.length_cons]at h3;obtain⟨j0,hj0⟩:=kL (L:=owner.toList) (by rw[h2.length_eq,List.length_range,Array.length_toList];omega);obtain⟨j,e,hj⟩:=wy hm (owner:=owner) (j0:=j0) (by rw[<-Array.getElem?_toList];exact hj0) h1 (i:=SetTable.bits h % (mask+1)) (p:=SetTable.bits h) (Nat.mod_lt _ (Nat.succ_pos _)) (by unfold SetTable.bits;omega);have hjt:owner.toList[j]?=some none:=by rw[Array.getElem?_toList];exact hj
  have hp:(vals (owner.setIfInBounds j (some k)).toList).Perm (List.range (k+1)):=by
   rw[Array.toList_setIfInBounds,List.range_succ];exact(ny hjt).trans ((List.Perm.cons k h2).trans (List.perm_append_singleton k _).symm)
  obtain⟨o',q1,q2,q3⟩:=tW hm hs (owner.setIfInBounds j (some k)) (k+1) (by rw[Array.size_setIfInBounds];exact h1) hp (by omega);refine⟨o',?_,q2,by rw[show k+(h::hs).length=k+1+hs.length by simp;omega];exact q3⟩;rw[List.foldl_cons,show k+(h::hs).length=k+1+hs.length by simp;omega,<-q1];congr 1
  show(SetTable.layClean.free mask owner (SetTable.turns mask) (SetTable.bits h % (mask+1)) (SetTable.bits h)).bind _=_;rw[e];rfl
theorem oU(L:List (Option Nat)):(List.range L.length).filterMap (fun j=>L.getD j none)=vals L:=by
 have h:(List.range L.length).map (fun j=>L.getD j none)=L:=by
  apply List.ext_getElem
  ·simp
  ·intro i h1 h2;simp[List.getD,h2]
 have h2:vals ((List.range L.length).map (fun j=>L.getD j none))=vals L:=congrArg vals h;unfold vals at h2;rw[List.filterMap_map]at h2;exact h2
theorem ql{mask finger moves:Nat}{led plain:Bool}{hs:Array Int}(hm:Full (mask+1)=true)(hn:hs.size<=mask):∃t order,SetTable.laid mask finger moves led plain hs=some (t,order)/\t.fits hs.size=true/\t.led=led/\t.plain=plain/\t.mask=mask/\t.dummies=#[]/\order.toList.Perm (List.range hs.size):=by
 obtain⟨owner,q1,q2,q3⟩:=tW hm hs.toList (Array.replicate (mask+1) none) 0 (by simp) (by
  have:∀n:Nat,vals (List.replicate n none)=[]:=fun n=>by
   induction n with
   |zero=>rfl
   |succ n ih=>rw[List.replicate_succ];exact ih
  rw[Array.toList_replicate,this];exact List.Perm.refl _) (by rw[Array.length_toList];omega)
 rw[Nat.zero_add,Array.length_toList]at q1 q3;have hc:SetTable.layClean mask hs=some owner:=by
  unfold SetTable.layClean;rw[<-Array.foldl_toList];rw[q1];rfl
 have hv:((List.range (mask+1)).filterMap fun j=>owner.getD j none)=vals owner.toList:=by
  rw[<-oU,Array.length_toList,q2];congr 1
  funext j
  simp only[Array.getD_eq_getD_getElem?,List.getD_eq_getElem?_getD,Array.getElem?_toList]
 have hs2:(((List.range (mask+1)).filterMap fun j=>(owner.getD j none).map (j,·)).map (·.2))=vals owner.toList:=by
  rw[<-hv,List.map_filterMap];congr 1
  funext j
  cases owner.getD j none<;>rfl
 have hl:((List.range (mask+1)).filterMap fun j=>(owner.getD j none).map (j,·)).length=hs.size:=by
  have:=congrArg List.length hs2;rw[List.length_map,q3.length_eq,List.length_range]at this;exact this
 refine⟨_,_,by unfold SetTable.laid;rw[hc];rfl,?_,rfl,rfl,rfl,rfl,?_⟩
 ·unfold SetTable.fits SetTable.fill;simp only[List.size_toArray,List.length_map,hl];simp;exact hn
 ·show(((List.range (mask+1)).filterMap fun j=>(owner.getD j none).map (j,·)).map (·.2)).Perm _;rw[hs2];exact q3
end L2
namespace L2
open PySem PySem.Spec PyProof.Rows
noncomputable def yQ(P:Program)(w:World)(p:Str×Tok):Int×Value:=((sK P w).hash p.1,Value.str p.1 p.2)
section
variable{prog:Program}{w:World}{A:Around}{E:Value->Shared->Prop}{s:Shared}
theorem aK.perm{h:Heap}{a:Addr}{led:Bool}{D D':List Str}(hS:aK prog w h a led D)(p:D.Perm D'):aK prog w h a led D' :=
 let ⟨L,es,ep,t,h1,h2,h3,h4,h5⟩:=hS;⟨L,es,ep,t,h1,h2,h3.trans p,p.nodup_iff.mp h4,h5⟩
theorem aK.at{h h':Heap}{a:Addr}{led:Bool}{D:List Str}(hS:aK prog w h a led D)(k:∀o,h.get? a=some o->h'.get? a=some o):aK prog w h' a led D :=
 let ⟨L,es,ep,t,h1,h2⟩:=hS;⟨L,es,ep,t,k _ h1,h2⟩
theorem aK.sz{h:Heap}{a:Addr}{led:Bool}{D:List Str}{L:List (Str×Tok)}{es:Array (Int×Value)}(h2:es.toList=L.map (fun p=>((sK prog w).hash p.1,Value.str p.1 p.2)))(h3:(L.map (·.1)).Perm D):es.size=D.length:=by
 rw[<-Array.length_toList,h2,List.length_map,<-h3.length_eq,List.length_map]
theorem aK.of{h:Heap}{a:Addr}{led:Bool}{D:List Str}(hS:aK prog w h a led D):h.SetOf (sK prog w) a (fun x=>decide (x∈D)) D.length:=by
 obtain⟨L,es,ep,t,ho,hes,hperm,hnd,hf,hb,hled,hpl⟩:=hS;refine⟨_,es,ep,t,ho,⟨rfl,rfl,rfl⟩,rfl,by rw[hes];exact jf,fun x=>?_,hb,hf,aK.sz (h:=h) (a:=a) (led:=led) hes hperm⟩;rw[decide_eq_true_eq,hes,<-hperm.mem_iff,List.mem_map];constructor
 ·rintro⟨p,hp,e⟩;exact⟨_,List.mem_map.mpr ⟨p,hp,rfl⟩,by rw[fC];simp[e]⟩
 ·rintro⟨e,he,hi⟩;obtain⟨p,hp,rfl⟩:=List.mem_map.mp he;rw[fC,decide_eq_true_eq]at hi;exact⟨p,hp,hi.symm⟩
theorem nA{a:Addr}{led:Bool}{D:List Str}{x:Str}{tk:Tok}{Q:Option Nat->Shared->Prop}(hS:aK prog w s.heap a led D)(h:∀r:Option Nat,r.isSome=decide (x∈D)->Q r s):
  wpAny (model prog w) A (setFind a (.str x tk) ((sK prog w).hash x)) Q E s :=
 wpAny_setFind_of (knd:=sK prog w) (by rw[fC];simp) rfl hS.of h
theorem dw{a:Addr}{es es':Array (Int×Value)}{ep:Nat}{t t':SetTable}{led:Bool}{L':List (Str×Tok)}{D':List Str}(ho:s.heap.get? a=some {cls:=.type "set",dict:=none,data:=.set es ep t})(hes:es'.toList=L'.map (fun p=>((sK prog w).hash p.1,Value.str p.1 p.2)))(hperm:(L'.map (·.1)).Perm D')(hnd:D'.Nodup)
  (hf:t'.fits es'.size=true) (hb:es'.size<scanBound) (hl:t'.led=led) (hp:es'.size=0\/t'.plain=false) {Q:Unit->Shared->Prop} (h:∀h',Heap.SameBut a s.heap h'->h'.get? a=some {cls:=.type "set",dict:=none,data:=.set es' (ep+1) t' }->aK prog w h' a led D'->Q () {s with heap:=h' }) :
  wpAny (model prog w) A (storeSet a es' t') Q E s:=by
 refine wpAny_storeSet_of ho rfl ?_ (fits_of_scanBound hb);have hg1:(s.heap.update a (Obj.putSet es' t')).get? a=some {cls:=.type "set",dict:=none,data:=.set es' (ep+1) t' }:=Heap.get?_update_self (Obj.putSet es' t') ho rfl;exact h _ (Heap.SameBut.update s.heap a (Obj.putSet es' t')) hg1 ⟨L',es',ep+1,t',hg1,hes,hperm,hnd,hf,hb,hl,hp⟩
theorem dO{α:Type}(xs:Array α)(i:Nat):(SetTable.eraseAt xs i).toList=xs.toList.eraseIdx i:=by
 unfold SetTable.eraseAt;rw[Array.toList_append,Array.toList_extract,Array.toList_extract,List.eraseIdx_eq_take_drop_succ];simp[List.extract];rw[List.take_of_length_le (by simp)]
theorem rM{t:SetTable}{n i:Nat}(h:t.fits n=true)(hi:i<n):(t.drop i).fits (n - 1)=true:=by
 simp only[SetTable.fits,Bool.and_eq_true,beq_iff_eq,decide_eq_true_eq]at h;obtain⟨h1,h2⟩:=h;have hi':i<t.place.size:=by omega
 have e1:(SetTable.eraseAt t.place i).size=t.place.size - 1:=by
  rw[<-Array.length_toList,dO,List.length_eraseIdx,if_pos (by simpa using hi'),Array.length_toList]
 have e2:∀p x,(SetTable.insertAt t.dummies p x).size=t.dummies.size+1:=fun p x=>by
  have:=(SetTable.insertAt_perm t.dummies p x).length_eq;rw[Array.length_toList,Array.length_toList,Array.size_push]at this;exact this
 unfold SetTable.drop;rw[Array.getElem?_eq_getElem hi'];simp only[SetTable.fits,SetTable.fill,Bool.and_eq_true,beq_iff_eq,decide_eq_true_eq,e1,e2]at h2 ⊢;constructor<;>omega
theorem tX(t:SetTable)(i:Nat):(t.drop i).led=t.led/\(t.drop i).plain=t.plain:=by
 unfold SetTable.drop;split<;>exact⟨rfl,rfl⟩
theorem erase_filter:∀{l:List Str}{j:Nat}{x:Str},l.Nodup->l[j]?=some x->l.eraseIdx j=l.filter fun y=>decide (y≠x)
 |[],j,x,_,h=>by simp at h
 |y::l,0,x,hn,h=>by
  obtain⟨h1,h2⟩:=List.nodup_cons.mp hn;have:y=x:=by simpa using h
  subst this;rw[List.eraseIdx_cons_zero,List.filter_cons_of_neg (by simp)];exact(List.filter_eq_self.mpr fun z hz=>by
   have:z≠y:=fun e=>h1 (e▸hz);simpa using this).symm
 |y::l,j+1,x,hn,h=>by
  obtain⟨h1,h2⟩:=List.nodup_cons.mp hn;have hj:l[j]?=some x:=by simpa using h
  have:y≠x:=fun e=>h1 (e▸List.mem_of_getElem? hj);rw[List.eraseIdx_cons_succ,erase_filter h2 hj,List.filter_cons_of_pos (by simpa using this)]
theorem eF{α β:Type}(f:α->β):∀(l:List α) (j:Nat),(l.map f).eraseIdx j=(l.eraseIdx j).map f
 |[],_=>rfl
 |x::l,0=>rfl
 |x::l,j+1=>by
  show f x::(l.map f).eraseIdx j=f x::(l.eraseIdx j).map f;rw[eF f l j]
theorem nB{a:Addr}{led:Bool}{D:List Str}{x:Str}{tk:Tok}{Q:Bool->Shared->Prop}(hS:aK prog w s.heap a led D)(h:∀b h',Heap.SameBut a s.heap h'->aK prog w h' a led (D.filter fun y=>decide (y≠x))->Q b {s with heap:=h' }):
  wpAny (model prog w) A (setDiscardHashed a (.str x tk) ((sK prog w).hash x)) Q E s:=by
 have hS0:=hS;obtain⟨L,es,ep,t,ho,hes,hperm,hnd,hf,hb,hled,hpl⟩:=hS;have hkey:(sK prog w).is x (.str x tk)=true:=by rw[fC];simp
 have hel:ElemsOf (sK prog w) es.toList:=by rw[hes];exact jf
 have hsz:=aK.sz (h:=s.heap) (a:=a) (led:=led) hes hperm;unfold setDiscardHashed setFind setFindIn;refine wpAny_bind (wpAny_bind (wpAny_setState_of ho rfl hf ?_))
 dsimp only
 rw[byScan_of (knd:=sK prog w) rfl hb hel];simp only[↓reduceIte];refine wpAny_bind (wpAny_rule ?_);refine wpAny_bind (wpAny_setScan_of (knd:=sK prog w) hkey ho rfl hf hel ?_);cases hr:List.findIdx? (fun e=>(sK prog w).is x e.2) es.toList with
 |none =>
  dsimp only
  refine wpAny_pure (wpAny_pure ?_);have hx:x∉D:=fun hx=>by
   rw[<-hperm.mem_iff,List.mem_map]at hx;obtain⟨p,hp,e⟩:=hx;have hm:((sK prog w).hash p.1,Value.str p.1 p.2)∈es.toList:=by rw[hes];exact List.mem_map.mpr ⟨p,hp,rfl⟩
   have:=List.findIdx?_eq_none_iff.mp hr _ hm;rw[fC,decide_eq_false_iff_not]at this;exact this e.symm
  have e:D.filter (fun y=>decide (y≠x))=D:=List.filter_eq_self.mpr fun z hz=>by
   have:z≠x:=fun e=>hx (e▸hz);simpa using this
  have e2:s={s with heap:=s.heap}:=by cases s;rfl
  rw[e2];exact h false s.heap (Heap.SameBut.refl a s.heap) (by rw[e];exact hS0)
 |some j =>
  dsimp only
  obtain⟨hj,hpj,_⟩:=List.findIdx?_eq_some_iff_getElem.mp hr;rw[Nat.zero_add];refine wpAny_pure ?_
  dsimp only
  refine wpAny_bind (wpAny_setState_of ho rfl hf ?_)
  dsimp only
  have hjL:j<L.length:=by rw[hes,List.length_map]at hj;exact hj
  have hjs:j<es.size:=by simpa using hj
  have hLj:L[j].1=x:=by
   have e:es.toList[j]=((sK prog w).hash L[j].1,Value.str L[j].1 L[j].2):=by simp[hes]
   rw[e,fC,decide_eq_true_eq]at hpj;exact hpj.symm
  have hndL:(L.map (·.1)).Nodup:=hperm.nodup_iff.mpr hnd;have hL':(L.eraseIdx j).map (·.1)=(L.map (·.1)).filter fun y=>decide (y≠x):=by
   rw[<-erase_filter hndL (j:=j) (by simp[hjL,hLj]),eF]
  have hes':(SetTable.eraseAt es j).toList=(L.eraseIdx j).map (fun p=>((sK prog w).hash p.1,Value.str p.1 p.2)):=by
   rw[dO,hes,eF]
  have hsz':(SetTable.eraseAt es j).size=es.size - 1:=by rw[<-Array.length_toList,dO,List.length_eraseIdx,if_pos hj,Array.length_toList]
  obtain⟨d1,d2⟩:=tX t j;refine wpAny_bind (dw (t':=t.drop j) (led:=led) ho hes' (by rw[hL'];exact hperm.filter _) (List.Nodup.sublist List.filter_sublist hnd) (by rw[hsz'];exact rM hf hjs) (by rw[hsz'];omega) (d1.trans hled) (.inr (d2.trans (hpl.resolve_left (by omega)))) fun h' sb hg hs'=>?_);refine wpAny_bind (wpAny_point ?_);exact wpAny_pure (h true h' sb hs')
end
end L2
namespace L2
open PySem PySem.Spec PyProof.Rows
theorem wz:Full 256=true:=by decide +kernel
section
variable{prog:Program}{w:World}{A:Around}{E:Value->Shared->Prop}{s:Shared}
theorem gs{es:Array (Int×Value)}{order:Array Nat}(h:order.toList.Perm (List.range es.size)):(order.filterMap (es[·]?)).toList.Perm es.toList:=by
 rw[Array.toList_filterMap];exact(h.filterMap _).trans (by rw[filterMap_getElem?_range])
theorem kM{a:Addr}{es:Array (Int×Value)}{ep wanted m:Nat}{t:SetTable}{led:Bool}{L:List (Str×Tok)}{D:List Str}{Q:Unit->Shared->Prop}(ho:s.heap.get? a=some {cls:=.type "set",dict:=none,data:=.set es ep t})(hes:es.toList=L.map (fun p=>((sK prog w).hash p.1,Value.str p.1 p.2)))(hperm:(L.map (·.1)).Perm D)(hnd:D.Nodup)
  (hf:t.fits es.size=true) (hb:es.size<scanBound) (hled:t.led=led) (hpl:es.size=0\/t.plain=false) (hm:SetTable.sizeAbove wanted=m+1) (hF:Full (m+1)=true) (hn:es.size<=m) (hml:m<1000)
  (h:∀h' (es':Array (Int×Value)) (t':SetTable) (ep':Nat),Heap.SameBut a s.heap h'->h'.get? a=some {cls:=.type "set",dict:=none,data:=.set es' ep' t' }->aK prog w h' a led D->t'.fits es'.size=true->t'.mask=m->t'.dummies=#[]->t'.led=led->es'.size=es.size->Q () {s with heap:=h' }) :
  wpAny (model prog w) A (setRelay a wanted) Q E s:=by
 have big:(2000:Nat)<=sizeLine:=by decide
 obtain⟨t',order,q1,q2,q3,q4,q5,q6,q7⟩:=ql (mask:=m) (finger:=t.finger) (moves:=t.movedTo m) (led:=t.led) (plain:=t.plain) (hs:=es.map (·.1)) hF (by rw[Array.size_map];exact hn);rw[Array.size_map]at q2 q7;have e:t.relaid (es.map (·.1)) wanted=some (t',order):=by
  unfold SetTable.relaid;rw[hm,Nat.add_sub_cancel];exact q1
 unfold setRelay;refine wpAny_bind (wpAny_setState_of ho rfl hf ?_)
 dsimp only
 rw[if_neg (by rw[hm];omega)];refine wpAny_bind ?_;rw[e];show wpAny (model prog w) A (if ((order.filterMap (es[·]?)).size != es.size)=true then((unsupported "internal:set-table-lost-an-element":Sem Unit) >>= fun _=>pure (order.filterMap (es[·]?),t')) else pure (order.filterMap (es[·]?),t')) _ E s;have hq:=gs q7;have hsz:(order.filterMap (es[·]?)).size=es.size:=by rw[<-Array.length_toList,hq.length_eq,Array.length_toList]
 rw[if_neg (by rw[hsz];simp)];refine wpAny_pure ?_;rw[hes]at hq;obtain⟨L',e',p'⟩:=cv hq;exact dw (led:=led) ho e' ((p'.map _).trans hperm) hnd (by rw[hsz];exact q2) (by rw[hsz];exact hb) (q3.trans hled) (by rw[hsz,q4];exact hpl) fun h' sb hg hs=>h h' _ t' _ sb hg hs (by rw[hsz];exact q2) q5 q6 (q3.trans hled) hsz
theorem tY{n:Nat}(h1:5<=n)(h2:n<64):∃m,SetTable.sizeAbove (2 * n)=m+1/\Full (m+1)=true/\n<=m/\m<1000:=by
 have:∀n:_root_.Fin 64,SetTable.sizeAbove (2 * n.val)=(if n.val<4 then 8 else if n.val<8 then 16 else if n.val<16 then 32 else if n.val<32 then 64 else 128):=by decide +kernel
 have e:=this ⟨n,h2⟩
 dsimp only at e
 rw[e,if_neg (by omega)];split
 ·exact⟨15,rfl,tR,by omega,by omega⟩
 ·split
  ·exact⟨31,rfl,tS,by omega,by omega⟩
  ·split
   ·exact⟨63,rfl,tV,by omega,by omega⟩
   ·exact⟨127,rfl,qk,by omega,by omega⟩
theorem rN{n:Nat}(h2:n<64):∃m,SetTable.sizeAbove (SetTable.grown n)=m+1/\Full (m+1)=true/\n<=m/\m<1000:=by
 have:∀n:_root_.Fin 64,SetTable.sizeAbove (SetTable.grown n.val)=(if n.val<2 then 8 else if n.val<4 then 16 else if n.val<8 then 32 else if n.val<16 then 64 else if n.val<32 then 128 else 256):=by decide +kernel
 have e:=this ⟨n,h2⟩
 dsimp only at e
 rw[e];split
 ·exact⟨7,rfl,xT,by omega,by omega⟩
 ·split
  ·exact⟨15,rfl,tR,by omega,by omega⟩
  ·split
   ·exact⟨31,rfl,tS,by omega,by omega⟩
   ·split
    ·exact⟨63,rfl,tV,by omega,by omega⟩
    ·split
     ·exact⟨127,rfl,qk,by omega,by omega⟩
     ·exact⟨255,rfl,wz,by omega,by omega⟩
theorem tZ{a:Addr}{led:Bool}{D:List Str}{Q:Unit->Shared->Prop}(hS:aK prog w s.heap a led D)(h64:D.length<64)(h:∀h',Heap.SameBut a s.heap h'->aK prog w h' a led D->Q () {s with heap:=h' }):
  wpAny (model prog w) A (setTidy a) Q E s:=by
 have hS0:=hS;obtain⟨L,es,ep,t,ho,hes,hperm,hnd,hf,hb,hled,hpl⟩:=hS;have hsz:=aK.sz (h:=s.heap) (a:=a) (led:=led) hes hperm;unfold setTidy;refine wpAny_bind (wpAny_setState_of ho rfl hf ?_)
 dsimp only
 split
 ·obtain⟨m,m1,m2,m3,m4⟩:=rN (n:=es.size) (by omega);exact kM ho hes hperm hnd hf hb hled hpl m1 m2 m3 m4 fun h' _ _ _ sb _ hs _ _ _ _ _=>h h' sb hs
 ·have e2:s={s with heap:=s.heap}:=by cases s;rfl
  refine wpAny_pure ?_;rw[e2];exact h s.heap (Heap.SameBut.refl a s.heap) hS0
theorem rO{a b:Addr}{es:Array (Int×Value)}{D:List Str}{Q:Unit->Shared->Prop}(hab:a≠b)(ho:s.heap.get? a=some {cls:=.type "set",dict:=none,data:=.set #[] 0 (.fresh 0 0 (aD w))})(hS:aK prog w s.heap b (aD w) D)(h64:D.length<64)
  (h:∀h',Heap.SameBut a s.heap h'->aK prog w h' a (aD w) D->Q () {s with heap:=h' }):wpAny (model prog w) A (setMerge a b) Q E s:=by
 have hS0:=hS;obtain⟨L,eo,epo,to,hob,heo,hperm,hnd,hfo,hbo,hledo,hplo⟩:=hS;have hsz:=aK.sz (h:=s.heap) (a:=b) (led:=aD w) heo hperm;have hfr:(SetTable.fresh 0 0 (aD w)).fits (#[]:Array (Int×Value)).size=true:=rfl;unfold setMerge;rw[if_neg (by simpa using hab)];refine wpAny_bind (wpAny_setState_of hob rfl hfo ?_)
 dsimp only
 split
 ·rename_i hemp;have hD:D=[]:=by
   have:eo.size=0:=by simpa using hemp
   exact List.eq_nil_of_length_eq_zero (by omega)
  subst hD;have e2:s={s with heap:=s.heap}:=by cases s;rfl
  refine wpAny_pure ?_;rw[e2];exact h s.heap (Heap.SameBut.refl a s.heap) (fM ho)
 ·rename_i hne;have hne':eo.size≠0:=fun z=>hne (by simpa using z);refine wpAny_bind ?_;unfold setRoomFor;refine wpAny_bind (wpAny_setState_of ho rfl hfr ?_)
  dsimp only
  refine wpAny_mono (Q:=fun _ s1=>∃(h1:Heap) (ts:SetTable) (ep1:Nat) (es1:Array (Int×Value)),s1={s with heap:=h1}/\es1.size=0/\Heap.SameBut a s.heap h1/\h1.get? a=some {cls:=.type "set",dict:=none,data:=.set es1 ep1 ts}/\ts.fits es1.size=true/\Full (ts.mask+1)=true/\eo.size<=ts.mask/\ts.dummies=#[]/\ts.led=aD w) ?_ (fun _ s1 ⟨h1,ts,ep1,es1,e,z,sb,hg,hfit,hF,hle,hdum,hl⟩=>?_) fun _ _ e=>e
  ·unfold SetTable.roomFor;by_cases h5:5<=eo.size
   ·rw[if_pos (by show(0+eo.size) * 5 >= 7 * 3;omega)]
    dsimp only
    obtain⟨m,m1,m2,m3,m4⟩:=tY h5 (by omega);have ew:((SetTable.fresh 0 0 (aD w)).place.size+eo.size) * 2=2 * eo.size:=by show(0+eo.size) * 2=_;omega
    rw[ew];exact kM (L:=[]) (D:=[]) (led:=aD w) ho rfl (List.Perm.refl _) .nil hfr (by decide) rfl (.inl rfl) m1 m2 (by show 0<=m;omega) m4 fun h' es' t' ep' sb hg _ hf' hm hd hl hz=>⟨h',t',ep',es',rfl,hz,sb,hg,hf',by rw[hm];exact m2,by rw[hm];exact m3,hd,hl⟩
   ·rw[if_neg (by show ¬(0+eo.size) * 5 >= 7 * 3;omega)]
    dsimp only
    have e2:s={s with heap:=s.heap}:=by cases s;rfl
    exact wpAny_pure ⟨s.heap,_,0,#[],e2,rfl,Heap.SameBut.refl a s.heap,ho,hfr,xT,by show eo.size<=7;omega,rfl,rfl⟩
  ·subst e;refine wpAny_bind (wpAny_setState_of hg rfl hfit ?_)
   dsimp only
   have hpl0:ts.place.size=0:=by
    simp only[SetTable.fits,Bool.and_eq_true,beq_iff_eq]at hfit;omega
   have hroad:ts.road to=if ts.mask==to.mask&&to.dummies.isEmpty then .slotForSlot else .clean:=by
    unfold SetTable.road SetTable.fill;rw[hpl0,hdum];rfl
   have hob1:h1.get? b=some {cls:=.type "set",dict:=none,data:=.set eo epo to}:=(sb.2 b (Ne.symm hab)).trans hob;have hplF:(ts.plain&&to.plain)=false:=by rw[hplo.resolve_left hne',Bool.and_false]
   have hledT:(ts.led&&to.led)=aD w:=by rw[hl,hledo,Bool.and_self]
   rw[hroad];by_cases hc:(ts.mask==to.mask&&to.dummies.isEmpty)=true
   ·rw[if_pos hc]
    dsimp only
    exact dw (s:={s with heap:=h1}) (led:=aD w) (L':=L) (t':={to with finger:=ts.finger,led:=ts.led&&to.led,moves:=ts.moves,plain:=ts.plain&&to.plain}) hg heo hperm hnd hfo hbo hledT (.inr hplF) fun h' sb' _ hs=>h h' (sb.trans sb') hs
   ·rw[if_neg hc]
    dsimp only
    obtain⟨t',order,q1,q2,q3,q4,q5,q6,q7⟩:=ql (mask:=ts.mask) (finger:=ts.finger) (moves:=ts.moves) (led:=ts.led&&to.led) (plain:=ts.plain&&to.plain) (hs:=eo.map (·.1)) hF (by rw[Array.size_map];exact hle);rw[Array.size_map]at q2 q7;refine wpAny_bind ?_;rw[q1];show wpAny (model prog w) A (if ((order.filterMap (eo[·]?)).size != eo.size)=true then((unsupported "internal:set-table-lost-an-element":Sem Unit) >>= fun _=>pure (order.filterMap (eo[·]?),t')) else pure (order.filterMap (eo[·]?),t')) _ E _;have hq:=gs q7;have hsz2:(order.filterMap (eo[·]?)).size=eo.size:=by rw[<-Array.length_toList,hq.length_eq,Array.length_toList]
    rw[if_neg (by rw[hsz2];simp)];refine wpAny_pure ?_;rw[heo]at hq;obtain⟨L',e',p'⟩:=cv hq;exact dw (s:={s with heap:=h1}) (led:=aD w) hg e' ((p'.map _).trans hperm) hnd (by rw[hsz2];exact q2) (by rw[hsz2];exact hbo) (q3.trans hledT) (.inr (q4.trans hplF)) fun h' sb' _ hs=>h h' (sb.trans sb') hs
end
end L2
namespace L2
open PySem PySem.Spec PyProof.Rows
section
variable{prog:Program}{w:World}{A:Around}{E:Value->Shared->Prop}{s:Shared}
theorem fP{M:Model}{α β:Type}{b:β}{body:α->β->Sem (ForInStep β)}{Q:β->Shared->Prop}:∀{l:List α},(∀x∈l,∀Q':ForInStep β->Shared->Prop,Q' (.yield b) s->wpAny M A (body x b) Q' E s)->Q b s->wpAny M A (forIn l b body) Q E s
 |[],_,h=>by rw[List.forIn_nil];exact wpAny_pure h
 |x::l,hb,h=>by
  rw[List.forIn_cons];exact wpAny_bind (hb x (by simp) _ (fP (fun y hy=>hb y (by simp[hy])) h))
theorem rP{sets:List Addr}{Q:Bool->Shared->Prop}(hs:∀b∈sets,∃led D,aK prog w s.heap b led D)(h:Q true s):wpAny (model prog w) A (setsQuiet sets) Q E s:=by
 unfold setsQuiet;refine wpAny_bind (fP (fun b hb Q' hq=>?_) (wpAny_pure h));obtain⟨led,D,L,es,ep,t,hg,hes,hperm,hnd,hf,hbd,hled,hpl⟩:=hs b hb;refine wpAny_bind (wpAny_setEntries_of hg rfl hf ?_);rw[<-Array.forIn_toList];refine wpAny_bind (fP (fun e he Q2 hq2=>?_) (wpAny_pure hq));rw[hes]at he;obtain⟨p,_,rfl⟩:=List.mem_map.mp he;exact wpAny_pure hq2
theorem nE{a:Addr}{D:List Str}{Q:Array (Int×Value)->Shared->Prop}(hS:aK prog w s.heap a (aD w) D){others:List Addr}(ho:∀b∈others,∃led D',aK prog w s.heap b led D'){f:Option Addr}(hfl:∀r,f=some r->aK prog w s.heap r (aD w) [])
  (h:∀(es:Array (Int×Value)) (L:List (Str×Tok)) (h':Heap),es.toList=L.map (yQ prog w)->(L.map (·.1)).Perm D->(f=none->h'=s.heap)->(∀r,f=some r->Heap.SameBut r s.heap h'/\aK prog w h' r (aD w) [])->Q es {s with heap:=h' }) :
  wpAny (model prog w) A (setWalkUnseen a others f) Q E s:=by
 have hS0:=hS;obtain⟨L,es,ep,t,hg,hes,hperm,hnd,hf,hb,hled,hpl⟩:=hS;have es0:s={s with heap:=s.heap}:=by cases s;rfl
 have gM:∀(es':Array (Int×Value)),es'.toList.Perm es.toList->Q es' s:=fun es' hp=>by
  rw[hes]at hp;obtain⟨L',e',p'⟩:=cv hp;rw[es0];exact h es' L' s.heap e' ((p'.map _).trans hperm) (fun _=>rfl) fun r e=>⟨Heap.SameBut.refl r s.heap,hfl r e⟩
 unfold setWalkUnseen;refine wpAny_bind (wpAny_setState_of hg rfl hf ?_)
 dsimp only
 refine wpAny_bind (bZ ?_);cases hw:w.params.followText "set-order" with
 |true =>
  rw[if_pos (by show(w.params.followText "set-order"||t.led&&t.plain||decide (es.size<=1))=true;rw[hw];rfl)];unfold setWalk;refine wpAny_bind (wpAny_setState_of hg rfl hf ?_)
  dsimp only
  refine wpAny_bind (bZ ?_);rw[if_pos (by exact hw)];refine wpAny_bind (wpAny_askSetting ?_);exact wpAny_pure (gM _ (cQ _ _))
 |false =>
  by_cases h1:es.size<=1
  ·rw[if_pos (by rw[decide_eq_true h1];simp)];unfold setWalk;refine wpAny_bind (wpAny_setState_of hg rfl hf ?_)
   dsimp only
   refine wpAny_bind (bZ ?_);rw[if_neg (by show ¬w.params.followText "set-order"=true;rw[hw];simp)];show wpAny _ _ (if (!t.plain&&decide (es.size>1))=true then _ else _) _ _ s;rw[if_neg (by rw[decide_eq_false (show ¬es.size>1 by omega)];simp)];show wpAny _ _ ((if (!t.led&&decide (es.size>1))=true then _ else _) >>= _) _ _ s;rw[if_neg (by rw[decide_eq_false (show ¬es.size>1 by omega)];simp)];exact wpAny_bind (wpAny_pure (wpAny_pure (gM es (List.Perm.refl _))))
  ·have hplain:t.plain=false:=hpl.resolve_left (by omega);rw[if_neg (by show ¬(w.params.followText "set-order"||t.led&&t.plain||decide (es.size<=1))=true;rw[hw,hplain,decide_eq_false h1];simp)];refine wpAny_bind (rP (fun b hb'=>by
    rcases List.mem_cons.mp hb' with rfl|hb'
    ·exact⟨_,_,hS0⟩
    ·exact ho b hb') ?_)
   rw[if_neg (by simp)];refine wpAny_bind (wpAny_rule ?_);cases f with
   |none=>exact wpAny_pure (gM es (List.Perm.refl _))
   |some r =>
    dsimp only
    obtain⟨Lr,er,epr,tr,hgr,her,hpr,hndr,hfr,hbr,hledr,hplr⟩:=hfl r rfl;refine wpAny_bind (wpAny_setState_of hgr rfl hfr ?_)
    dsimp only
    have hr0:er.size=0:=by
     have:=aK.sz (h:=s.heap) (a:=r) (led:=aD w) her hpr;simpa using this
    split
    ·refine wpAny_bind (dw (t':={tr with led:=tr.led&&t.led,plain:=tr.plain&&t.plain}) (led:=aD w) hgr her hpr hndr hfr hbr (by show(tr.led&&t.led)=_;rw[hledr,hled,Bool.and_self]) (.inl hr0) fun h' sb _ hs=>?_);exact wpAny_pure (h es L h' hes hperm (fun z=>nomatch z) fun r' e=>by cases e;exact⟨sb,hs⟩)
    ·exact wpAny_pure (gM es (List.Perm.refl _))
end
end L2
namespace L2
open PySem PySem.Spec PyProof.Rows
section
variable{prog:Program}{w:World}{A:Around}{E:Value->Shared->Prop}{s:Shared}
theorem gR{M:Model}{body:Int×Value->PUnit->Sem (ForInStep PUnit)}{Q:PUnit->Shared->Prop}{L:List (Str×Tok)}(J:List (Str×Tok)->Shared->Prop)(hb:∀d p r s,d++p::r=L->J d s->∀Q':ForInStep PUnit->Shared->Prop,(∀s',J (d++[p]) s'->Q' (.yield ⟨⟩) s')->wpAny M A (body (yQ prog w p) ⟨⟩) Q' E s)(hq:∀s',J L s'->Q ⟨⟩ s'):
  ∀(r d:List (Str×Tok)) (s:Shared),d++r=L->J d s->wpAny M A (forIn (r.map (yQ prog w)) ⟨⟩ body) Q E s
 |[],d,s,e,h=>by
  rw[List.append_nil]at e;subst e;rw[List.map_nil,List.forIn_nil];exact wpAny_pure (hq s h)
 |p::r,d,s,e,h=>by
  rw[List.map_cons,List.forIn_cons];exact wpAny_bind (hb d p r s e h _ fun s' h'=>gR J hb hq r (d++[p]) s' (by rw[<-e];simp) h')
theorem aK.ty{a:Addr}{led:Bool}{D:List Str}(h:aK prog w s.heap a led D):s.TypeIs (.ref a) "set":=let ⟨_,_,_,_,ho,_⟩:=h;⟨_,ho,rfl⟩
theorem fh{a:Addr}{led:Bool}{D:List Str}{Q:Bool->Shared->Prop}(hS:aK prog w s.heap a led D)(h:Q true s):wpAny (model prog w) A (Builtin.Frozenset.isAnySet (.ref a)) Q E s:=by
 unfold Builtin.Frozenset.isAnySet;refine wpAny_bind (wpAny_isInstance hS.ty sub_set_self ?_);exact wpAny_pure h
theorem gu{a:Addr}{led:Bool}{D:List Str}{Q:Nat->Shared->Prop}(hS:aK prog w s.heap a led D)(h:Q D.length s):wpAny (model prog w) A (Builtin.Frozenset.sizeOf a) Q E s:=by
 obtain⟨L,es,ep,t,ho,hes,hperm,hnd,hf,_⟩:=hS;unfold Builtin.Frozenset.sizeOf;refine wpAny_bind (wpAny_setEntries_of ho rfl hf (wpAny_pure ?_));rw[aK.sz (h:=s.heap) (a:=a) (led:=led) hes hperm];exact h
theorem nF{a:Addr}{led:Bool}{D:List Str}{Q:Value->Shared->Prop}(hS:aK prog w s.heap a led D)(h:Q (.type "set") s):wpAny (model prog w) A (Builtin.Frozenset.baseOf a) Q E s:=by
 unfold Builtin.Frozenset.baseOf;refine wpAny_bind (wpAny_isInstance hS.ty sub_set_self ?_);exact wpAny_pure h
theorem qm{Q:Value->Shared->Prop}(h:Q (.ref s.heap.objs.size) {s with heap:=s.heap.push {cls:=.type "set",dict:=none,data:=.set #[] 0 (.fresh 0 0 (aD w))}}):wpAny (model prog w) A (newSet (.type "set")) Q E s:=by
 unfold newSet setsByText;refine wpAny_bind (wpAny_bind (wpAny_askSetting (wpAny_pure ?_)))
 dsimp only
 simp only[newObj];exact wpAny_bind (wpAny_alloc (wpAny_pure h))
theorem t5{a:Addr}{D:List Str}{Q:Value->Shared->Prop}(hS:aK prog w s.heap a (aD w) D)(h64:D.length<64)(h:∀h',Heap.SameBut s.heap.objs.size (s.heap.push {cls:=.type "set",dict:=none,data:=.set #[] 0 (.fresh 0 0 (aD w))}) h'->aK prog w h' s.heap.objs.size (aD w) D->Q (.ref s.heap.objs.size) {s with heap:=h' }):
  wpAny (model prog w) A (Builtin.Frozenset.copyOf a) Q E s:=by
 unfold Builtin.Frozenset.copyOf;refine wpAny_bind (nF hS (wpAny_bind (qm ?_)));refine wpAny_bind (wpAny_pure ?_);have hne:s.heap.objs.size≠a:=fun e=>by obtain⟨_,_,_,_,ho,_⟩:=hS;exact Nat.lt_irrefl _ (e▸Heap.lt_size ho)
 refine wpAny_bind (rO (es:=#[]) (s:={s with heap:=s.heap.push {cls:=.type "set",dict:=none,data:=.set #[] 0 (.fresh 0 0 (aD w))}}) hne (Heap.get?_push_size _ rfl) (hS.at fun o e=>Heap.get?_push_of_some _ e) h64 fun h' sb hs=>?_);exact wpAny_pure (h h' sb hs)
theorem jm{a:Addr}{es:Array (Int×Value)}{ep:Nat}{t:SetTable}{id:String}{Q:Unit->Shared->Prop}(ho:s.heap.get? a=some {cls:=.type "set",dict:=none,data:=.set es ep t})(hf:t.fits es.size=true)(h:Q () s):wpAny (model prog w) A (Builtin.Frozenset.unchanged id a ep) Q E s:=by
 unfold Builtin.Frozenset.unchanged;refine wpAny_bind (wpAny_setEpoch_of ho rfl hf ?_);rw[if_neg (by simp)];exact wpAny_pure h
theorem t6{id:String}{a b:Addr}{D1 D2:List Str}{Q:Unit->Shared->Prop}(hab:a≠b)(hS:aK prog w s.heap a (aD w) D1)(hT:aK prog w s.heap b (aD w) D2)(h1:D1.length<64)(h2:D2.length<=D1.length)
  (h:∀h',Heap.SameBut a s.heap h'->aK prog w h' a (aD w) (D1.filter fun x=>decide (x∉D2))->Q () {s with heap:=h' }):wpAny (model prog w) A (Builtin.Frozenset.differenceUpdate id a (.ref b)) Q E s:=by
 unfold Builtin.Frozenset.differenceUpdate;rw[if_neg (by simpa using Ne.symm hab)];refine wpAny_bind (fh hT ?_);rw[if_pos rfl];refine wpAny_bind (wpAny_pure ?_);refine wpAny_bind (gu hT (wpAny_bind (gu hS ?_)));rw[if_neg (by omega)];obtain⟨L2,eb,epb,tb,hob,heb,hpb,hndb,hfb,hbb,hledb,hplb⟩:=_root_.id hT;refine wpAny_bind (wpAny_setEpoch_of hob rfl hfb ?_);refine wpAny_bind (wpAny_holding ?_);refine wpAny_bind (nE hT (others:=[a]) (f:=none) (fun c hc=>by rw[List.mem_singleton.mp hc];exact⟨_,_,hS⟩) (fun r e=>nomatch e) fun es L h0 he hp e0 _=>?_);have e0:=e0 rfl;subst e0;rw[<-Array.forIn_toList,he];refine wpAny_bind (gR (prog:=prog) (w:=w) (L:=L) (fun d s'=>∃h',s'={s with heap:=h' }/\Heap.SameBut a s.heap h'/\aK prog w h' a (aD w) (D1.filter fun x=>decide (x∉d.map (·.1)))) (fun d p r s' ed ⟨h',e',sb,hs'⟩ Q' hq'=>?_) (fun s' ⟨h',e',sb,hs'⟩=>?_) L [] _ rfl ⟨s.heap,by cases s;rfl,Heap.SameBut.refl a s.heap,by rw[List.filter_eq_self.mpr fun x _=>by simp];exact hS⟩)
 ·subst e';refine wpAny_bind (wpAny_holding (nB (s:={s with heap:=h' }) hs' fun b' h2 sb2 hs2=>?_));refine wpAny_bind (jm (s:={s with heap:=h2}) (((sb.trans sb2).2 b (Ne.symm hab)).trans hob) hfb ?_);refine wpAny_pure (hq' _ ⟨h2,rfl,sb.trans sb2,?_⟩);rw[List.filter_filter]at hs2;have e:(D1.filter fun x=>decide (x≠p.1)&&decide (x∉d.map (·.1)))=D1.filter fun x=>decide (x∉(d++[p]).map (·.1)):=by
   refine List.filter_congr fun x _=>?_;rw[Bool.eq_iff_iff];simp[not_or,and_comm]
  rw[<-e];exact hs2
 ·subst e';refine wpAny_pure ?_;have e:(D1.filter fun x=>decide (x∉L.map (·.1)))=D1.filter fun x=>decide (x∉D2):=by
   refine List.filter_congr fun x _=>?_;rw[Bool.eq_iff_iff];simp only[decide_eq_true_eq];rw[hp.mem_iff]
  rw[e]at hs';exact tZ (s:={s with heap:=h' }) hs' (Nat.lt_of_le_of_lt (List.length_filter_le _ _) h1) fun h2 sb2 hs2=>h h2 (sb.trans sb2) hs2
theorem t8{id:String}{a b:Addr}{D1 D2:List Str}{Q:Value->Shared->Prop}(hab:a≠b)(hS:aK prog w s.heap a (aD w) D1)(hT:aK prog w s.heap b (aD w) D2)(h1:D1.length<64)(h2:D2.length<64)
  (h:∀h',(∀c o,s.heap.get? c=some o->h'.get? c=some o)->aK prog w h' s.heap.objs.size (aD w) (D1.filter fun x=>decide (x∉D2))->Q (.ref s.heap.objs.size) {s with heap:=h' }):wpAny (model prog w) A (Builtin.Frozenset.difference id a (.ref b)) Q E s:=by
 have keep:∀h',Heap.SameBut s.heap.objs.size (s.heap.push {cls:=.type "set",dict:=none,data:=.set #[] 0 (.fresh 0 0 (aD w))}) h'->∀c o,s.heap.get? c=some o->h'.get? c=some o:=fun h' sb c o e =>
  (sb.2 c (Nat.ne_of_lt (Heap.lt_size e))).trans (Heap.get?_push_of_some _ e)
 have ltA:a<s.heap.objs.size:=by obtain⟨_,_,_,_,ho,_⟩:=hS;exact Heap.lt_size ho
 have ltB:b<s.heap.objs.size:=by obtain⟨_,_,_,_,ho,_⟩:=hT;exact Heap.lt_size ho
 unfold Builtin.Frozenset.difference
 dsimp only
 refine wpAny_bind (fh hT ?_);rw[if_neg (by simp)];refine wpAny_bind (wpAny_pure ?_);rw[if_neg (by simp),if_pos rfl];refine wpAny_bind (gu hT (wpAny_bind (gu hS ?_)));by_cases hbig:D1.length / 4>D2.length
 ·rw[if_pos hbig];refine wpAny_bind (wpAny_rule ?_);refine wpAny_bind (t5 hS h1 fun h' sb hs=>?_);refine wpAny_bind (wpAny_pure ?_);refine wpAny_bind (wpAny_holding (t6 (s:={s with heap:=h' }) (Nat.ne_of_gt ltB) hs (hT.at fun o e=>keep h' sb b o e) h1 (by omega) fun h2 sb2 hs2=>?_));exact wpAny_pure (h h2 (keep h2 (sb.trans sb2)) hs2)
 ·rw[if_neg hbig];refine wpAny_bind (nF hS (wpAny_bind (qm ?_)));refine wpAny_bind (wpAny_pure ?_);have hS1:=hS.at (h':=s.heap.push {cls:=.type "set",dict:=none,data:=.set #[] 0 (.fresh 0 0 (aD w))}) fun o e=>Heap.get?_push_of_some _ e;have hT1:=hT.at (h':=s.heap.push {cls:=.type "set",dict:=none,data:=.set #[] 0 (.fresh 0 0 (aD w))}) fun o e=>Heap.get?_push_of_some _ e;have hR1:aK prog w (s.heap.push {cls:=.type "set",dict:=none,data:=.set #[] 0 (.fresh 0 0 (aD w))}) s.heap.objs.size (aD w) []:=fM (Heap.get?_push_size _ rfl);obtain⟨La,ea,epa,ta,hoa,hea,hpa,hnda,hfa,hba,hleda,hpla⟩:=_root_.id hS1;refine wpAny_bind (wpAny_setEpoch_of hoa rfl hfa ?_);refine wpAny_bind (wpAny_holding ?_);rw[if_pos rfl];refine wpAny_bind (nE (s:={s with heap:=s.heap.push {cls:=.type "set",dict:=none,data:=.set #[] 0 (.fresh 0 0 (aD w))}}) hS1 (others:=[b,s.heap.objs.size]) (f:=some s.heap.objs.size) (fun c hc=>by
   rcases List.mem_cons.mp hc with rfl|hc
   ·exact⟨_,_,hT1⟩
   ·rw[List.mem_singleton.mp hc];exact⟨_,_,hR1⟩) (fun r e=>by cases e;exact hR1) fun es L h0 he hp _ e0=>?_)
  obtain⟨sb0,hR0⟩:=e0 _ rfl;rw[<-Array.forIn_toList,he];have lenL:L.length=D1.length:=by rw[<-hp.length_eq,List.length_map]
  refine wpAny_bind (gR (prog:=prog) (w:=w) (L:=L) (fun d s'=>∃h',s'={s with heap:=h' }/\Heap.SameBut s.heap.objs.size (s.heap.push {cls:=.type "set",dict:=none,data:=.set #[] 0 (.fresh 0 0 (aD w))}) h'/\aK prog w h' s.heap.objs.size (aD w) ((d.map (·.1)).filter fun x=>decide (x∉D2))) (fun d p r s' ed ⟨h',e',sb,hs'⟩ Q' hq'=>?_) (fun s' ⟨h',e',sb,hs'⟩=>?_) L [] _ rfl ⟨h0,rfl,sb0,hR0⟩)
  ·subst e';have hnd:(L.map (·.1)).Nodup:=hp.nodup_iff.mpr hnda;have hpd:p.1∉d.map (·.1):=fun z=>by
    rw[<-ed,List.map_append,List.nodup_append]at hnd;exact hnd.2.2 p.1 z p.1 (by simp) rfl
   have hTk:aK prog w h' b (aD w) D2:=hT.at fun o e=>keep h' sb b o e;have hak:h'.get? a=some {cls:=.type "set",dict:=none,data:=.set ea epa ta}:=(sb.2 a (Nat.ne_of_lt ltA)).trans hoa;have hdl:d.length<64:=by have:=congrArg List.length ed;simp at this;omega
   refine wpAny_bind (wpAny_holding ?_);rw[if_pos rfl];refine wpAny_bind (nA (s:={s with heap:=h' }) hTk fun r hr=>?_);refine wpAny_bind (wpAny_pure ?_);have em:((d++[p]).map (·.1)).filter (fun x=>decide (x∉D2))=(d.map (·.1)).filter (fun x=>decide (x∉D2))++if p.1∈D2 then [] else [p.1]:=by
    rw[List.map_append,List.filter_append];congr 1
    by_cases z:p.1∈D2<;>simp[z]
   by_cases z:p.1∈D2
   ·rw[if_neg (by rw[hr,decide_eq_true z];simp)];refine wpAny_pure ?_;refine wpAny_bind (jm (s:={s with heap:=h' }) hak hfa ?_);refine wpAny_pure (hq' _ ⟨h',rfl,sb,?_⟩);rw[em,if_pos z,List.append_nil];exact hs'
   ·rw[if_pos (by rw[hr,decide_eq_false z];rfl)];refine wpAny_bind (jh (s:={s with heap:=h' }) hs' (by
     have:((d.map (·.1)).filter fun x=>decide (x∉D2)).length<=d.length:=Nat.le_trans (List.length_filter_le _ _) (by simp);have hsb:scanBound=4096:=rfl;omega) fun h2 sb2 hs2=>?_)
    refine wpAny_pure ?_;refine wpAny_bind (jm (s:={s with heap:=h2}) ((sb2.2 a (Nat.ne_of_lt ltA)).trans hak) hfa ?_);refine wpAny_pure (hq' _ ⟨h2,rfl,sb.trans sb2,?_⟩);rw[em,if_neg z];rw[if_neg (fun q=>hpd (List.mem_filter.mp q).1)]at hs2;exact hs2
  ·subst e';refine wpAny_pure ?_;refine wpAny_pure (h h' (keep h' sb) (hs'.perm ?_));exact hp.filter _
end
end L2
namespace L2
open PySem PySem.Spec PyProof.Rows
theorem kg:entryFor table "set.__sub__"=some Builtin.«frozenset.__sub__» :=
 entryFor_alias (id':="frozenset.__sub__") (by kernel_rfl) rfl (by decide +kernel) (by kernel_rfl)
section
variable{prog:Program}{w:World}{A:Around}{E:Value->Shared->Prop}{s:Shared}
theorem wA{a b:Addr}{D1 D2:List Str}{Q:Value->Shared->Prop}(hab:a≠b)(hS:aK prog w s.heap a (aD w) D1)(hT:aK prog w s.heap b (aD w) D2)(h1:D1.length<64)(h2:D2.length<64)
  (h:∀h',(∀c o,s.heap.get? c=some o->h'.get? c=some o)->aK prog w h' s.heap.objs.size (aD w) (D1.filter fun x=>decide (x∉D2))->Q (.ref s.heap.objs.size) {s with heap:=h' }):wpAny (model prog w) A (binaryOp .Sub (.ref a) (.ref b)) Q E s:=by
 refine wpAny_binaryOp_same (T:="set") hS.ty hT.ty PySem.F.fills_set_sub PySem.F.slot_set_sub (wpAny_call_entry PySem.F.slot_set_sub hS.ty kg ?_ (PySem.F.args_set_sub_2 _ _));unfold Builtin.«frozenset.__sub__»;show wpAny (model prog w) _ (do
  let x <-Builtin.Frozenset.slot1 "__sub__" ⟨[.ref a,.ref b],[]⟩
  match x with
  |(self,other) =>
   match if false=true then(other,self) else(self,other) with
   |(l,r)=>do
    let c <-Builtin.Frozenset.isAnySet l <&&> Builtin.Frozenset.isAnySet r
    if (!c)=true then do
      rule (toString "frozenset."++toString "__sub__"++toString ".declined")
      ret Value.notImplemented
     else do
      let d <-Builtin.Frozenset.addrOf l
      let e <-Builtin.Frozenset.difference (toString "frozenset."++toString "__sub__") d r
      ret e) _ _ _
 refine wpAny_bind (m:=Builtin.Frozenset.slot1 "__sub__" ⟨[.ref a,.ref b],[]⟩) (wpAny_pure (a:=(Value.ref a,Value.ref b)) ?_)
 dsimp only
 refine wpAny_bind (wpAny_bind (fh hS ?_));show wpAny _ _ (Builtin.Frozenset.isAnySet (.ref b)) _ _ _;refine fh hT ?_;rw[if_neg (by simp)];refine wpAny_bind (wpAny_pure ?_);refine wpAny_bind (t8 hab hS hT h1 h2 fun h' hk hs=>?_);exact wpAny_pure ⟨_,rfl,(fun z=>by cases z),h h' hk hs⟩
end
section
variable{X:Cx}{pins:List (Addr×Obj)}{σ:List (Option V)}{H:Hp}{s:Shared}
theorem oV{p:Addr}{ys:List Str}{Q:Value->Shared->Prop}(hc:X.calm=true)(I:Inv X pins σ H s)(hq:SqL X.K H p (ys.map V.str)\/SqT X.K H p (ys.map V.str))(hb:ys.length+1<scanBound)
  (h:∀(S:Addr) (o:Obj) (s1:Shared),s.heap.objs.size<=S->s1.heap.get? S=some o->aK X.prog X.w s1.heap S (aD X.w) (ak ys)->Inv X ((S,o)::pins) σ H s1->Q (.ref S) s1) :
  wpAny (model X.prog X.w) X.A (call (.type "set") [.ref p]) Q X.xe s:=by
 have hh:X.A.handled=none:=I.ok.hd hc;have fin:∀(h':Heap) (tk:Nat),aK X.prog X.w h' s.heap.objs.size (aD X.w) (ak ys)->(∀b o,b<s.heap.objs.size->s.heap.get? b=some o->h'.get? b=some o)->Q (.ref s.heap.objs.size) {s with heap:=h',toks:=tk}:=fun h' tk hS k=>by
  obtain⟨L,es,ep,t,ho,r⟩:=_root_.id hS;have I1:Inv X pins σ H {s with heap:=h',toks:=tk}:=I.kept fun b o e=>k b o (Heap.lt_size e) e;refine h _ _ _ (Nat.le_refl _) ho hS (I1.cY fun q hq=>?_);rcases List.mem_cons.mp hq with rfl|hq
  ·exact⟨ho,I.hok.fresh (Nat.le_refl _),Nat.ne_of_gt I.lt,I.yj (Nat.le_refl _),fun v z=>nomatch z⟩
  ·exact I1.pin q (List.mem_append_right _ hq)
 rcases hq with hq|hq
 ·obtain⟨its,rv,pl,hz⟩:=I.list hq;exact eE hh pl.isList (bX rv) hb fun h' tk hS k=>fin h' tk hS k
 ·obtain⟨its,rv,pl,hz⟩:=I.tuple hq;exact fD hh pl (bX rv) hb fun h' tk hS k=>fin h' tk hS k
end
end L2
namespace L2
open PySem PySem.Spec PyProof.Rows
section
variable{prog:Program}{w:World}{A:Around}{E:Value->Shared->Prop}{s:Shared}
theorem gv{it l:Addr}{i:Nat}{items}{x:Value}{Q:Value->Shared->Prop}(hit:s.heap.IsTupleIter it l i)
  (hl:s.heap.IsTuple l items) (hx:items[i]?=some x)
  (hQ:∀h',h'.IsTupleIter it l (i+1)->Heap.SameBut it s.heap h'->Q x {s with heap:=h' }) :
  wpAny (model prog w) A (Builtin.SmallTypes.nextOf (.ref it)) Q E s:=by
 obtain⟨o,ho,hc,hd⟩:=id hit;obtain⟨ol,hol,_,nl,hdl⟩:=hl;unfold Builtin.SmallTypes.nextOf;refine wpAny_bind (wpAny_callSpecial?_slot (name:=Str.ofString "__next__") hit.typeIs PySem.F.slot_tuple_iterator_next
  (wpAny_call_entry PySem.F.slot_tuple_iterator_next hit.typeIs PySem.F.entry_tuple_iterator_next ?_ (PySem.F.args_tuple_iterator_next_1 _)))
 show wpAny _ _ (field (.ref it) 0 >>= _) _ _ s;refine wpAny_bind (wpAny_field ho hd (x:=.ref l) rfl ?_);show wpAny _ _ (if (Value.ref l==Value.none)=true then _ else _) _ _ s;rw[if_neg (show ¬((Value.ref l==Value.none)=true) from Bool.false_ne_true)];show wpAny _ _ (field (.ref it) 1 >>= _) _ _ s;refine wpAny_bind (wpAny_field ho hd (x:=.int i 0) rfl ?_);show wpAny _ _ (seqItems? (.ref l) >>= _) _ _ s;refine wpAny_bind (wpAny_seqItems hol hdl ?_);simp only[Int.toNat_natCast,hx];refine wpAny_bind (wpAny_setField ho hd (by simp) (wpAny_pure ⟨x,rfl,wpAny_pure (hQ _ ?_ (Heap.SameBut.update ..))⟩));exact⟨_,Heap.get?_update_self _ ho (Obj.isFreed_of_fields (Obj.data_mapFields hd _)),(Obj.cls_mapFields ..).trans hc,by
  rw[Obj.data_mapFields hd];simp[rawInt]⟩
theorem cw{it l:Addr}{i:Nat}{items}{Q:Value->Shared->Prop}(hh:A.handled=none)
  (hit:s.heap.IsTupleIter it l i) (hl:s.heap.IsTuple l items) (hx:items[i]?=none)
  (hE:∀h' e,Heap.ExtBut it s.heap h'->(∃o,h'.get? e=some o/\o.cls=.type "StopIteration")->E (.ref e) {s with heap:=h' }) :
  wpAny (model prog w) A (Builtin.SmallTypes.nextOf (.ref it)) Q E s:=by
 obtain⟨o,ho,hc,hd⟩:=id hit;obtain⟨ol,hol,_,nl,hdl⟩:=hl;unfold Builtin.SmallTypes.nextOf;refine wpAny_bind (wpAny_callSpecial?_slot (name:=Str.ofString "__next__") hit.typeIs PySem.F.slot_tuple_iterator_next
  (wpAny_call_entry PySem.F.slot_tuple_iterator_next hit.typeIs PySem.F.entry_tuple_iterator_next ?_ (PySem.F.args_tuple_iterator_next_1 _)))
 show wpAny _ _ (field (.ref it) 0 >>= _) _ _ s;refine wpAny_bind (wpAny_field ho hd (x:=.ref l) rfl ?_);show wpAny _ _ (if (Value.ref l==Value.none)=true then _ else _) _ _ s;rw[if_neg (show ¬((Value.ref l==Value.none)=true) from Bool.false_ne_true)];show wpAny _ _ (field (.ref it) 1 >>= _) _ _ s;refine wpAny_bind (wpAny_field ho hd (x:=.int i 0) rfl ?_);show wpAny _ _ (seqItems? (.ref l) >>= _) _ _ s;refine wpAny_bind (wpAny_seqItems hol hdl ?_);simp only[Int.toNat_natCast,hx];refine wpAny_bind (wpAny_rule (wpAny_bind (wpAny_setField ho hd (by simp) ?_)));show wpAny _ _ (newExc (.type "StopIteration") [] >>= _) _ _ _;refine wpAny_bind ?_;simp only[newExc,newTuple];refine wpAny_bind (wpAny_newObj_type ?_ (by size_fits));refine wpAny_bind (m:=firstArgMember _ _) (wpAny_of_eq (a:=Value.none) (by first|rfl|(simp only[firstArgMember];rfl)) ?_);refine wpAny_newObj_type ?_ (by size_fits);simp only[raiseNew];refine wpAny_bind (wpAny_handled ?_)
 first|rw[show A.in1.handled=none from hh]|rw[hh]
 refine wpAny_bind (wpAny_pure (wpAny_throw ?_));exact hE _ _ (((Heap.SameBut.update ..).extBut.push _).push _) ⟨_,Heap.get?_push_size _ rfl,rfl⟩
end
theorem eG{prog:Program}{w:World}{A:Around}(hh:A.handled=none)(it l:Addr)(hne:l≠it)(items:Array Value):
  Draws prog w A it [it,l] items.size (fun i v=>items[i]?=some v) (fun i h=>h.IsTupleIter it l i/\h.IsTuple l items) where
 live:=fun _ _ st=>let ⟨o,ho,_⟩:=st.1;⟨o,ho⟩
 frame:=fun _ _ _ st hk=>⟨st.1.at fun o e=>hk it (by simp) o e,let ⟨o,ho,r⟩:=st.2;⟨o,hk l (by simp) o ho,r⟩⟩
 item:=fun i s Q E hi st hQ=>by
  refine gv st.1 st.2 (x:=items[i]) (by simp[hi]) fun h' hit' hs'=>?_;exact hQ _ h' s.toks (by simp[hi]) ⟨hit',let ⟨o,ho,r⟩:=st.2;⟨o,(hs'.2 l hne).trans ho,r⟩⟩ hs'
 done:=fun s Q E st hE=>cw hh st.1 st.2 (by simp) hE
open AutoSeq1 (wpAny_loadPart') in
theorem jn(l:Addr)(items:Array Value)(n:Nat)(dct:Option Addr)(sl:Array (Option Value)):
  Meets (Builtin.«enumerate.__new__» ⟨[.type "enumerate",.ref l],[]⟩) (fun _ R s=>s.heap.get? l=some {cls:=.type "tuple",dict:=dct,data:=.seq items n,slots:=sl} /\
   R (.ok (.ret (.ref (s.heap.push {cls:=.type "tuple_iterator",data:=.fields #[.ref l,.int 0 0]}).objs.size)))
    {s with heap:=(s.heap.push {cls:=.type "tuple_iterator",data:=.fields #[.ref l,.int 0 0]}).push {cls:=.type "enumerate",data:=.fields #[.none,.bool false,.ref s.heap.objs.size,rawInt 0,.none,.none]}}) :=
 .of_wp fun prog w A R s h=>by
  obtain⟨hp,g,d,tk,os⟩:=s;obtain⟨hl,h⟩:=h;have hsub:=sub_enumerate;have hL:Heap.IsTuple (Shared.heap ⟨hp,g,d,tk,os⟩) l items:=⟨_,hl,rfl,n,rfl⟩
  wp_walk using wpAny_loadPart' hl
  refine wpAny_stack_any fun st=>wpAny_pure ?_;split
  ·rename_i c _ _ _ _ _;cases(c==Value.type "enumerate")
   ·wp_walk using wpAny_loadPart' hl,wpAny_pyIter_tuple hL
    exact⟨_,rfl,h⟩
   ·wp_walk using wpAny_loadPart' hl,wpAny_pyIter_tuple hL
    exact⟨_,rfl,h⟩
  ·wp_walk using wpAny_loadPart' hl,wpAny_pyIter_tuple hL
   exact⟨_,rfl,h⟩
section
variable{prog:Program}{w:World}{A:Around}{E:Value->Shared->Prop}{s:Shared}
theorem eI{l:Addr}{items:Array Value}{Q:Value->Shared->Prop}(hL:s.heap.IsTuple l items)
  (h:∀h',IsEnum h' (s.heap.objs.size+1) s.heap.objs.size 0 .none->h'.IsTupleIter s.heap.objs.size l 0->h'.objs.size=s.heap.objs.size+2 ->
   (∀b o,s.heap.get? b=some o->h'.get? b=some o)->Q (.ref (s.heap.objs.size+1)) {s with heap:=h' }) :
  wpAny (model prog w) A (call (.type "enumerate") [.ref l]) Q E s:=by
 obtain⟨⟨c,dct,dt,sl⟩,hl,hc,n,hd⟩:=hL
 replace hc:c=.type "tuple":=hc
 replace hd:dt=.seq items n:=hd
 subst hc hd;refine callType_new PySem.F.called_enumerate (by decide) (PySem.F.typeCall_enumerate_1 _) (PySem.F.newCall_enumerate_1 _) (fun obj=>PySem.F.args_object_init_2 obj _) PySem.F.entry_enumerate_new
  (jn l items n dct sl) ⟨hl,?_⟩
 have hz:(s.heap.push {cls:=.type "tuple_iterator",data:=.fields #[.ref l,.int 0 0]}).objs.size=s.heap.objs.size+1:=Heap.size_push ..;show _/\_;rw[hz];have he:IsEnum ((s.heap.push {cls:=.type "tuple_iterator",data:=.fields #[.ref l,.int 0 0]}).push
   {cls:=.type "enumerate",data:=.fields #[.none,.bool false,.ref s.heap.objs.size,rawInt 0,.none,.none]}) (s.heap.objs.size+1) s.heap.objs.size 0 .none:=by
  have:=Heap.get?_push_size (s.heap.push {cls:=.type "tuple_iterator",data:=.fields #[.ref l,.int 0 0]})
   (o:={cls:=.type "enumerate",data:=.fields #[.none,.bool false,.ref s.heap.objs.size,rawInt 0,.none,.none]}) rfl
  rw[hz]at this;exact this
 refine⟨⟨_,he,rfl⟩,h _ he ⟨_,Heap.get?_push_of_some _ (Heap.get?_push_size _ rfl),rfl,rfl⟩ (by rw[Heap.size_push,hz]) fun b o x=>Heap.get?_push_of_some _ (Heap.get?_push_of_some _ x)⟩
end
end L2
namespace L2
open PySem PySem.Spec PyProof.Rows
section
variable{X:Cx}{pins:List (Addr×Obj)}{σ:List (Option V)}{H:Hp}{s:Shared}{h':Heap}
theorem Inv.l5{t':Nat}{ch:List Addr}(I:Inv X pins σ H s)(hf:∀b∈ch,f6 X pins H b)(k:∀b o,b∉ch->s.heap.get? b=some o->h'.get? b=some o):Inv X pins σ H {s with heap:=h',toks:=t' }:=by
 have nit:∀b u,H b=some u->b∉ch:=fun b u e z=>by rw[(hf b z).1]at e;cases e
 refine I.step (g':=s.gens) (d':=s.drawn) (ch:=ch) (fun b hb=>?_) (fun b o _ _ hc e _=>k b o hc e) (fun b o _ _ hc e _=>⟨o.slots,k b o hc e⟩) (fun _ _ _ _ n=>n)
  (fun b o hc e=>⟨o,k b o hc e⟩) (fun _ _ e=>e) (fun _ _ _ e=>e) (fun b ps e=>⟨#[],by rw[e];simp⟩) (fun m hm=>?_) (fun b u e=>?_) I.bare
 ·obtain⟨f0,f1,f2,f3,f4,f5⟩:=hf b hb;exact⟨f3,f1,f4,f5⟩
 ·obtain⟨o,es,ep,ho,r⟩:=hm;exact⟨o,es,ep,k _ o (fun z=>(hf _ z).2.1 rfl) ho,r⟩
 ·refine(I.hok b u e).gM (fun c v hc q=>k c v ?_ q) (fun _ q=>q) fun _ _ q=>q;rcases hc with z|z
  ·rw[z];exact nit b u e
  ·exact nit c _ z
theorem Inv.jo{t':Nat}{ch:List Addr}{T:Addr}{o:HO}(I:Inv X pins σ H s)(hf:∀b∈ch,f6 X pins H b)(k:∀b o,b∉ch->s.heap.get? b=some o->h'.get? b=some o)(hT:s.heap.objs.size<=T)(new:bI X.prog X.w (upd H T o) h' T o):
  Inv X pins σ (upd H T o) {s with heap:=h',toks:=t' }:=by
 have I1:Inv X pins σ H {s with heap:=h',toks:=t' }:=I.l5 hf k;have hn:H T=none:=I.hok.fresh hT;have nT:∀b o,s.heap.get? b=some o->b≠T:=fun b o e z=>by rw[z]at e;exact absurd (Nat.lt_of_lt_of_le (Heap.lt_size e) hT) (Nat.lt_irrefl _)
 have nH:∀b u,H b=some u->b≠T:=fun b u e z=>by rw[z,hn]at e;cases e
 refine I.step (g':=s.gens) (d':=s.drawn) (ch:=ch) (fun b hb=>?_) (fun b o _ _ hc e _=>k b o hc e) (fun b o _ _ hc e _=>⟨o.slots,k b o hc e⟩) (fun b o _ e n=>by rw[aG (nT b o e)];exact n)
  (fun b o hc e=>⟨o,k b o hc e⟩) (fun b _ e=>by rw[aG (nH b _ e)];exact e) (fun b _ _ e=>by rw[aG (nH b _ e)];exact e) (fun b ps e=>⟨#[],by rw[aG (nH b _ e),e];simp⟩) (fun m hm=>?_) (fun b u e=>?_) I.bare
 ·obtain⟨f0,f1,f2,f3,f4,f5⟩:=hf b hb;exact⟨f3,f1,f4,f5⟩
 ·obtain⟨o,es,ep,ho,r⟩:=hm;exact⟨o,es,ep,k _ o (fun z=>(hf _ z).2.1 rfl) ho,r⟩
 ·by_cases hb:b=T
  ·subst hb;rw[aS]at e;cases e;exact new
  ·rw[aG hb]at e;exact(I1.hok b u e).gM (fun c v _ q=>q) (fun c q=>by rw[aG (nH c _ q)];exact q) fun c xs q=>by rw[aG (nH c _ q)];exact q
end
noncomputable def Ite(Sq:Hp->List V->Prop):It :=
 ⟨fun i H=>∃xs x,Sq H xs/\xs[i]?=some x,fun i H x H'=>∃p,H p=none/\x=.ref p/\∀xs v,Sq H xs->xs[i]?=some v->H'=upd H p (.tup [.int i,v]),fun i H=>∃xs,Sq H xs/\xs.length<=i⟩
theorem kN{P:Program}{w:World}{K:PySem.W.Frag}{es:List Expr}{kx}{ps:Pos}(Sq:Hp->List V->Prop)(a e it:Addr)(hei:e≠it)(At:Nat->Heap->Prop)(Is:Heap->Array Value->Prop)
  (hat:∀i h h',At i h->(∀o,h.get? it=some o->h'.get? it=some o)->At i h') (hao:∀i h,At i h->∃o,h.get? it=some o/\∀v,o.data≠.cell v)
  (hsq:∀(X:Cx) (pins:List (Addr×Obj)) (s:Shared) (σ:St) (H:Hp) (xs:List V),X.K=K->Inv X pins σ H s->Sq H xs->∃its:List Value,Vals xs its/\Is s.heap its.toArray)
  (hinj:∀(X:Cx) (pins:List (Addr×Obj)) (s:Shared) (σ:St) (H:Hp) (xs ys:List V),X.K=K->Inv X pins σ H s->Sq H xs->Sq H ys->xs=ys)
  (hea:∀h items i old,Is h items->IsEnum h e it i old->e≠a)
  (hD:∀(A:Around) (items:Array Value),A.handled=none->Draws P w A it [it,a] items.size (fun i v=>items[i]?=some v) (fun i h=>At i h/\Is h items))
  (hend:∀(A:Around) (s:Shared) (i:Nat) (items:Array Value) (Q:Value->Shared->Prop) (E:Value->Shared->Prop),A.handled=none->At i s.heap->Is s.heap items->items[i]?=none ->
   (∀h' x,Heap.ExtBut it s.heap h'->(∃o,h'.get? x=some o/\o.cls=.type "StopIteration")->E (.ref x) {s with heap:=h' })->wpAny (model P w) A (Builtin.SmallTypes.nextOf (.ref it)) Q E s) :
  Turn P w K (.Tuple es kx ps) (Ite Sq) [e,it] e (fun i h=>(∃old,IsEnum h e it i old)/\At i h) where
 mem:=by simp
 obj:=fun i h st b hb=>by
  obtain⟨⟨old,he⟩,hl⟩:=st;rcases List.mem_cons.mp hb with z|z
  ·rw[z];exact⟨_,he,fun v z=>by
    have z':Data.fields _=Data.cell v:=z;cases z'⟩
  ·rw[List.mem_singleton.mp z];exact hao i h hl
 keep:=fun i h h' ⟨⟨old,he⟩,hl⟩ k=>⟨⟨old,k e (by simp) _ he⟩,hat i h h' hl fun o q=>k it (by simp) o q⟩
 item:=by
  intro X hP hw hK hc i pins s σ H E I hf ⟨⟨old,he⟩,hl⟩ hg;subst hP hw;obtain⟨xs,x,hq,hx⟩:=hg;obtain⟨its,rv,p⟩:=hsq X pins s σ H xs hK I hq;obtain⟨u,hu,ru⟩:=rv.get hx;have hlt:i<its.toArray.size:=by simpa using(List.getElem?_eq_some_iff.mp hu).1
  have D:=hD X.A.in1 its.toArray (by simpa using I.ok.hd hc);have hea':=hea _ _ _ _ p he;refine wpAny_pyNext_enum_itemD D he ⟨hl,p⟩ hlt hei (by simp[hei,hea']) fun y h1 tk hy ho st1 hT hsz hk=>?_;have ey:y=u:=by
   have:its.toArray[i]?=some u:=by simpa using hu
   rw[this]at hy;cases hy;rfl
  subst ey;refine⟨_,rfl,wpAny_letOwnedTupleGo_enum (s:={s with heap:=h1,toks:=tk+1}) ho fun h2 he2 hs2=>?_⟩;have heS:e<s.heap.objs.size:=Heap.lt_size he;have hT2:h2.get? s.heap.objs.size=some {cls:=.type "tuple",data:=.seq #[.int i tk,y]}:=(hs2.2 _ (Nat.ne_of_gt heS)).trans hT;have k2:∀b o,b∉[e,it]->s.heap.get? b=some o->h2.get? b=some o:=fun b o hb q=>by
   simp only[List.mem_cons,List.not_mem_nil,or_false,not_or]at hb;exact(hs2.2 b hb.1).trans (hk b o hb.1 hb.2 q)
  have I2:Inv X pins σ (upd H s.heap.objs.size (.tup [.int i,x])) {s with heap:=h2,toks:=tk+1}:=I.jo hf k2 (Nat.le_refl _)
   (show bI X.prog X.w _ h2 _ (.tup [.int i,x]) from⟨by show 2<=sizeLine;decide,[.int i tk,y],.cons ⟨tk,rfl⟩ (.cons ru .nil),⟨_,hT2,rfl,_,rfl⟩⟩)
  refine⟨.ref s.heap.objs.size,_,I2,rfl,⟨_,I.hok.fresh (Nat.le_refl _),rfl,fun ys v hy hv=>?_⟩,⟨⟨_,he2⟩,hat (i+1) h1 h2 st1.1 fun o q=>(hs2.2 it (Ne.symm hei)).trans q⟩,fun b hb=>?_⟩
  ·have:=hinj X pins s σ H ys xs hK I hy hq;subst this;rw[hx]at hv;cases hv;rfl
  ·have hb':b≠s.heap.objs.size:=by
    rcases List.mem_cons.mp hb with z|z
    ·rw[z];exact Nat.ne_of_lt heS
    ·rw[List.mem_singleton.mp z];obtain⟨o,q,_⟩:=hao i _ hl;exact Nat.ne_of_lt (Heap.lt_size q)
   rw[aG hb'];exact(hf b hb).1
 done:=by
  intro X hP hw hK hc i pins s σ H E I hf ⟨⟨old,he⟩,hl⟩ hg;subst hP hw;obtain⟨xs,hq,hx⟩:=hg;obtain⟨its,rv,p⟩:=hsq X pins s σ H xs hK I hq;have hlen:=rv.length;have hT:s.TypeIs (.ref e) "enumerate":=⟨_,he,rfl⟩
  unfold pyNext;refine wpAny_bind (wpAny_attempt (wpAny_callSpecial?_slot (name:=Str.ofString "__next__") hT PySem.F.slot_enumerate_next
   (wpAny_call_entry PySem.F.slot_enumerate_next hT PySem.F.entry_enumerate_next ?_ (PySem.F.args_enumerate_next_1 _))))
  show wpAny _ _ (field (.ref e) 2 >>= _) _ _ _;refine wpAny_bind (wpAny_field he rfl (x:=.ref it) rfl ?_);refine wpAny_bind (hend _ _ i its.toArray _ _ (by simpa using I.ok.hd hc) hl p (by simp;omega) fun h' x he' hx'=>?_);obtain⟨o,ho,hcl⟩:=hx';refine wpAny_bind (wpAny_isInstance (T:="StopIteration") (b:=true) ⟨o,ho,hcl⟩ isSubtype_stop ?_);refine wpAny_pure ⟨rfl,I.l5 (t':=s.toks) (ch:=[it]) (fun b hb=>hf b (List.mem_cons_of_mem _ hb)) fun b o hb q=>he' b o (fun z=>hb (by simp[z])) q⟩
 self:=fun A i s Q E ⟨⟨old,he⟩,hl⟩ h=>wpAny_pyIter_enum he h
section
variable{X:Cx}{es:List Expr}{kx:Nat}{ps p pos:Pos}
theorem rQ:bootBuiltins "enumerate"=some (.type "enumerate"):=by decide +kernel
noncomputable def BS(K:PySem.W.Frag)(ta:TA):TI:=fun σ H R=>ta σ H fun vs H1=>∃a,vs=[.ref a]/\((∃xs,SqL K H1 a xs)/\R (Ite fun H xs=>SqL K H a xs) H1\/(∃xs,SqT K H1 a xs)/\R (Ite fun H xs=>SqT K H a xs) H1)
theorem yR(a e it:Addr)(hei:e≠it)(hia:a≠it):Turn X.prog X.w X.K (.Tuple es kx ps) (Ite fun H xs=>SqL X.K H a xs) [e,it] e (fun i h=>(∃old,IsEnum h e it i old)/\h.IsListIter it a i):=by
 refine kN _ a e it hei (fun i h=>h.IsListIter it a i) (fun h items=>h.IsList a items) (fun i h h' x k=>x.at k) (fun i h ⟨o,ho,hc,hd⟩=>⟨o,ho,fun v z=>by rw[hd]at z;cases z⟩)
  (fun Y pins s σ H xs hK I hq=>?_) (fun Y pins s σ H xs ys hK I hx hy=>?_) (fun h items i old ⟨o,ho,hc,_⟩ he z=>?_) (fun A items hh=>Draws.list hh it a hia items) (fun A s i items Q E hh hl hp hx hE=>wpAny_nextOf_list_end hh hl hp hx hE)
 ·rw[<-hK]at hq;obtain⟨its,rv,p,hz⟩:=I.list hq;exact⟨its,rv,p.isList⟩
 ·rw[<-hK]at hx hy;exact I.fZ hx hy
 ·rw[<-z,he]at ho;cases ho;have hc':Value.type "enumerate"=Value.type "list":=hc;exact absurd hc' (by decide)
theorem yS(a e it:Addr)(hei:e≠it)(hia:a≠it):Turn X.prog X.w X.K (.Tuple es kx ps) (Ite fun H xs=>SqT X.K H a xs) [e,it] e (fun i h=>(∃old,IsEnum h e it i old)/\h.IsTupleIter it a i):=by
 refine kN _ a e it hei (fun i h=>h.IsTupleIter it a i) (fun h items=>h.IsTuple a items) (fun i h h' x k=>x.at k) (fun i h ⟨o,ho,hc,hd⟩=>⟨o,ho,fun v z=>by rw[hd]at z;cases z⟩)
  (fun Y pins s σ H xs hK I hq=>?_) (fun Y pins s σ H xs ys hK I hx hy=>?_) (fun h items i old ⟨o,ho,hc,_⟩ he z=>?_) (fun A items hh=>eG hh it a hia items) (fun A s i items Q E hh hl hp hx hE=>cw hh hl hp hx hE)
 ·rw[<-hK]at hq;obtain⟨its,rv,p,hz⟩:=I.tuple hq;exact⟨its,rv,p⟩
 ·rw[<-hK]at hx hy;exact I.dn hx hy
 ·rw[<-z,he]at ho;cases ho;have hc':Value.type "enumerate"=Value.type "tuple":=hc;exact absurd hc' (by decide)
theorem wB{a:Expr}{ta:TA}(hg:Gl X "enumerate")(hm:X.mg "enumerate"=none)(ha:PA X [a] ta)(hs:starEach [a] X.env=[(false,eval a X.env)]):PI X (.Tuple es kx ps) (.Call (.Name "enumerate" p) [a] [] pos) (BS X.K ta):=by
 intro pins s σ H R I h;refine Call_ (dg I hg hm rQ (PyProof.Rows.callWith_type1 (thn (ha pos pins s σ H _ I h) fun us s1 ⟨vs,H1,I1,r1,q1⟩=>?_) hs rfl));obtain⟨a',e,q⟩:=q1;subst e;obtain⟨u,rfl,r⟩:=vals1 r1;cases r;have ne1:s1.heap.objs.size+1≠s1.heap.objs.size:=Nat.succ_ne_self _;have fin:∀(h':Heap),(∀b∈[s1.heap.objs.size+1,s1.heap.objs.size],f6 X pins H1 b):=fun h' b hb=>by
  have hb':s1.heap.objs.size<=b:=by
   rcases List.mem_cons.mp hb with z|z
   ·rw[z];exact Nat.le_succ _
   ·rw[List.mem_singleton.mp z];exact Nat.le_refl _
  exact I1.sR hb' (I1.hok.fresh hb')
 rcases q with⟨⟨xs,hq⟩,q⟩|⟨⟨xs,hq⟩,q⟩
 ·obtain⟨its,rv,p,hz⟩:=I1.list hq;have hlt:a'<s1.heap.objs.size:=let ⟨o,ho,_⟩:=p.isList;Heap.lt_size ho;refine call_enumerate_list p.isList fun h' he hl hsz hk=>?_;refine wpAny_pyIter_enum he ⟨_,[s1.heap.objs.size+1,s1.heap.objs.size],_,_,H1,rfl,I1.kept (t':=s1.toks) hk,yR a' _ _ ne1 (Nat.ne_of_lt hlt),⟨⟨_,he⟩,hl⟩,fin h',q⟩
 ·obtain⟨its,rv,p,hz⟩:=I1.tuple hq;have hlt:a'<s1.heap.objs.size:=let ⟨o,ho,_⟩:=p;Heap.lt_size ho;refine eI p fun h' he hl hsz hk=>?_;refine wpAny_pyIter_enum he ⟨_,[s1.heap.objs.size+1,s1.heap.objs.size],_,_,H1,rfl,I1.kept (t':=s1.toks) hk,yS a' _ _ ne1 (Nat.ne_of_lt hlt),⟨⟨_,he⟩,hl⟩,fin h',q⟩
variable{pins:List (Addr×Obj)}{σ:List (Option V)}{H:Hp}{s:Shared}
end
end L2
namespace L2
open PySem PySem.Spec PyProof.Rows
theorem rR(l:Addr)(items:Array Value)(n:Nat)(b:Addr)(items2:Array Value)(n2:Nat)(dd:Option Addr)(sl:Array (Option Value))(hs0:¬(!items.isEmpty&&Builtin.List.listTooLong (items.size+items2.size))=true)(hs1:items.size<=sizeLine)(hs2:items.size+items2.size<=sizeLine+1):
  Meets (Builtin.«list.extend» ⟨[.ref l,.ref b],[]⟩) (fun _ R s=>s.heap.get? l=some {cls:=.type "list",dict:=none,data:=.seq items n,slots:=#[]}/\s.heap.get? b=some {cls:=.type "list",dict:=dd,data:=.seq items2 n2,slots:=sl}/\R (.ok (.ret Value.none)) {s with heap:=s.heap.update l (Obj.mapSeq fun x=>x++items2),toks:=s.toks}) :=
 .of_wp fun prog w A R s h=>by
  obtain⟨hp,g,d,tk,os⟩:=s;obtain⟨hl,hb,h⟩:=h;have f1:=AutoSeq1.idx_int;have f2:=AutoSeq1.sub_tuple_tuple;have f3:=AutoSeq1.sub_list_list;have f4:=AutoSeq1.sub_tuple_list;have f5:=AutoSeq1.sub_list_tuple;
  have hz':(items++items2).size<=sizeLine+1:=by rw[Array.size_append];exact hs2
  wp_walk using(wpAny_updateSeq hl rfl (hz:=hs1) (_hz':=hz')),AutoSeq1.wpAny_loadPart' hl,AutoSeq1.wpAny_loadPart' hb;exact⟨_,rfl,h⟩
theorem rS(l:Addr)(items:Array Value)(n:Nat)(b:Addr)(items2:Array Value)(n2:Nat)(dd:Option Addr)(sl:Array (Option Value))(hs0:¬(!items.isEmpty&&Builtin.List.listTooLong (items.size+items2.size))=true)(hs1:items.size<=sizeLine)(hs2:items.size+items2.size<=sizeLine+1):
  Meets (Builtin.«list.extend» ⟨[.ref l,.ref b],[]⟩) (fun _ R s=>s.heap.get? l=some {cls:=.type "list",dict:=none,data:=.seq items n,slots:=#[]}/\s.heap.get? b=some {cls:=.type "tuple",dict:=dd,data:=.seq items2 n2,slots:=sl}/\R (.ok (.ret Value.none)) {s with heap:=s.heap.update l (Obj.mapSeq fun x=>x++items2),toks:=s.toks}) :=
 .of_wp fun prog w A R s h=>by
  obtain⟨hp,g,d,tk,os⟩:=s;obtain⟨hl,hb,h⟩:=h;have f1:=AutoSeq1.idx_int;have f2:=AutoSeq1.sub_tuple_tuple;have f3:=AutoSeq1.sub_list_list;have f4:=AutoSeq1.sub_tuple_list;have f5:=AutoSeq1.sub_list_tuple;
  have hz':(items++items2).size<=sizeLine+1:=by rw[Array.size_append];exact hs2
  wp_walk using(wpAny_updateSeq hl rfl (hz:=hs1) (_hz':=hz')),AutoSeq1.wpAny_loadPart' hl,AutoSeq1.wpAny_loadPart' hb;exact⟨_,rfl,h⟩
section
variable{X:Cx}{pins:List (Addr×Obj)}{σ:List (Option V)}{H:Hp}{s:Shared}
theorem oW:MtM X "list.extend" (fun x vs H Q=>∃l b xs zs,x=.ref l/\vs=[.ref b]/\H l=some (.lst xs)/\(SqL X.K H b zs\/SqT X.K H b zs)/\xs.length+zs.length<=sizeLine/\Q .non (upd H l (.lst (xs++zs)))):=by
 intro pins s σ H x vs v us Q I rx rv h;obtain⟨l,b,xs,zs,rfl,rfl,hH,hB,hz,q⟩:=h;cases rx;obtain⟨u,rfl,ru⟩:=rv.one;cases ru;obtain⟨z,its,n,r,hl,e⟩:=I.AD hH;have fin:∀its2:List Value,Vals zs its2->EP X pins σ Q Value.none {s with heap:=s.heap.update l (Obj.mapSeq fun x=>x++its2.toArray),toks:=s.toks}:=fun its2 r2=>by
  refine⟨.non,_,I.lM (its':=its++its2) hH e (by simp) (r.append r2) ?_,rfl,q⟩;rw[List.length_append];omega
 have sz:∀its2:List Value,zs.length=its2.length->its.toArray.size+its2.toArray.size<=sizeLine:=fun its2 h=>by rw[List.size_toArray,List.size_toArray];omega
 have lg:∀its2:List Value,zs.length=its2.length->¬(!its.toArray.isEmpty&&Builtin.List.listTooLong (its.toArray.size+its2.toArray.size))=true:=fun its2 h=>by
  rw[s9 (sz its2 h),Bool.and_false];exact Bool.false_ne_true
 rcases hB with hB|hB
 ·obtain⟨its2,r2,pl,_⟩:=I.list hB;obtain⟨⟨cls,dd,data,sl⟩,ho,hc,n2,hd⟩:=pl.isList;simp only at hc hd;subst hc hd;have hl2:=r2.length;have h1:=sz its2 hl2;exact call_meets F.slot_list_extend ⟨_,e,rfl⟩ F.entry_list_extend (F.args_list_extend_2 _ _) (rR l its.toArray n b its2.toArray n2 dd sl (lg its2 hl2) (by omega) (by omega)) ⟨e,ho,fin its2 r2⟩
 ·obtain⟨its2,r2,pl,_⟩:=I.tuple hB;obtain⟨⟨cls,dd,data,sl⟩,ho,hc,n2,hd⟩:=pl;simp only at hc hd;subst hc hd;have hl2:=r2.length;have h1:=sz its2 hl2;exact call_meets F.slot_list_extend ⟨_,e,rfl⟩ F.entry_list_extend (F.args_list_extend_2 _ _) (rS l its.toArray n b its2.toArray n2 dd sl (lg its2 hl2) (by omega) (by omega)) ⟨e,ho,fin its2 r2⟩
end
end L2
namespace L2
open PySem PySem.W PyProof.Rows
noncomputable def fQ{α:Type}(lt:Nat->Nat->Bool):KasT α->α
 |.ret x=>x
 |.ask i j k=>fQ lt (k (lt i j))
noncomputable def InT{α:Type}(n:Nat)(P:α->Prop):KasT α->Prop
 |.ret x=>P x
 |.ask i j k=>i<n/\j<n/\∀b,InT n P (k b)
theorem InT.bnd{α β:Type}{n:Nat}{P:α->Prop}{Q:β->Prop}{f:α->KasT β}(hf:∀x,P x->InT n Q (f x)):∀{t:KasT α},InT n P t->InT n Q (t.bind f)
 |.ret x,h=>hf x h
 |.ask i j k,h=>⟨h.1,h.2.1,fun b=>InT.bnd hf (h.2.2 b)⟩
theorem InT.got{α:Type}{n:Nat}{P:α->Prop}{lt:Nat->Nat->Bool}:∀{t:KasT α},InT n P t->P (fQ lt t)
 |.ret _,h=>h
 |.ask i j k,h=>InT.got (t:=k (lt i j)) (h.2.2 _)
theorem InT.wp{α:Type}{n:Nat}{P:α->Prop}{lt:Nat->Nat->Bool}{s:Shared}{cmp:Nat->Nat->(Bool->Shared->Prop)->Shared->Prop}(hc:∀i j,i<n->j<n->∀C:Bool->Shared->Prop,C (lt i j) s->cmp i j C s){Q:α->Shared->Prop}:
  ∀{t:KasT α},InT n P t->Q (fQ lt t) s->t.kasWp cmp Q s
 |.ret _,_,q=>q
 |.ask i j k,h,q=>hc i j h.1 h.2.1 _ (InT.wp hc (t:=k (lt i j)) (h.2.2 _) q)
noncomputable def Pm(n:Nat)(p:Array Nat):Prop:=p.toList.Perm (List.range n)
section
variable{n:Nat}(hn:0<n)
include hn
theorem Pm.at{p:Array Nat}(h:Pm n p)(i:Nat):p.getD i 0<n:=by
 by_cases hi:i<p.size
 ·have:p.getD i 0=p[i]:=by simp[Array.getD,hi]
  rw[this];have hm:p[i]∈p.toList:=by simp
  exact List.mem_range.mp (h.mem_iff.mp hm)
 ·have:p.getD i 0=0:=by simp[Array.getD,hi]
  rw[this];exact hn
omit hn in
theorem Pm.rev{p:Array Nat}(h:Pm n p)(i j:Nat):Pm n (kas_rev p i j):=(mirror_perm p i j _).toList.trans h
omit hn in
theorem Pm.bub{p:Array Nat}(h:Pm n p)(i j:Nat):Pm n (bubble p i j):=(bubble_perm p i j).toList.trans h
theorem oX{p:Array Nat}(h:Pm n p):∀(f m:Nat),InT n (fun _=>True) (kas_asc p f m)
 |0,m=>trivial
 |f+1,m=>⟨h.at hn _,h.at hn _,fun b=>by
  cases b
  ·exact oX h f (m+1)
  ·exact trivial⟩
theorem iI:∀(f:Nat) (p:Array Nat) (m q:Nat),Pm n p->InT n (fun r=>Pm n r.1) (kas_desc f p m q)
 |0,p,m,q,h=>h
 |f+1,p,m,q,h=>⟨h.at hn _,h.at hn _,fun b=>by
  cases b
  ·exact⟨h.at hn _,h.at hn _,fun b=>by
    cases b
    ·exact iI f p (m+1) (q+1) h
    ·exact h⟩
  ·show InT n _ (if q>0 then _ else _);split
   ·exact iI f _ _ _ (h.rev _ _)
   ·exact iI f _ _ _ h⟩
theorem qo{p:Array Nat}(h:Pm n p)(m r:Nat):InT n (fun x=>Pm n x.2) (kas_tail3 m r p):=by
 unfold kas_tail3;refine InT.bnd (fun x _=>?_) (oX hn (h.rev _ _) _ _);exact h.rev _ _
theorem qp{p:Array Nat}(h:Pm n p)(m r:Nat):InT n (fun x=>Pm n x.2) (kas_descPart m r p):=by
 unfold kas_descPart;refine InT.bnd (fun x hx=>?_) (iI hn _ _ _ _ h);split
 ·exact qo hn (hx.rev _ _) _ _
 ·exact qo hn hx _ _
theorem t9{p:Array Nat}(h:Pm n p)(r:Nat):InT n (fun x=>Pm n x.2) (kas_count r p):=by
 unfold kas_count;refine InT.bnd (fun m _=>?_) (oX hn h _ _);split
 ·exact h
 ·split
  ·exact⟨h.at hn _,h.at hn _,fun b=>by
    cases b
    ·exact qp hn (h.rev _ _) _ _
    ·exact h⟩
  ·exact qp hn h _ _
theorem jq{p:Array Nat}(h:Pm n p)(k:Nat):∀(f l r:Nat),InT n (fun _=>True) (kas_place p k f l r)
 |0,l,r=>trivial
 |f+1,l,r=>by
  unfold kas_place;split
  ·exact trivial
  ·exact⟨h.at hn _,h.at hn _,fun b=>by
    cases b
    ·exact jq h k f _ _
    ·exact jq h k f _ _⟩
theorem t_:∀(f:Nat) (p:Array Nat) (k:Nat),Pm n p->InT n (Pm n) (kas_bin f p k)
 |0,p,k,h=>h
 |f+1,p,k,h=>InT.bnd (fun l _=>t_ f _ _ (h.bub _ _)) (jq hn h _ _ _ _)
theorem qq:InT n (Pm n) (kas_sort n):=by
 unfold kas_sort;refine InT.bnd (fun x hx=>?_) (t9 hn (p:=List.toArray (List.range n)) (by unfold Pm;simp) n);split
 ·exact t_ hn _ _ _ hx
 ·exact hx
end
theorem jr(lt:Nat->Nat->Bool)(n:Nat):(fQ lt (kas_sort n)).toList.Perm (List.range n):=by
 cases n with
 |zero=>exact List.Perm.refl _
 |succ n=>exact(qq (Nat.succ_pos n)).got
end L2
namespace L2
open PySem PySem.W PyProof.Rows
section
variable{prog:Program}{w:World}{A:Around}{E:Value->Shared->Prop}{s:Shared}
theorem rT{a:Addr}{vs:List Value}{n:Nat}{P:PySem.Fin->Shared->Prop}{lt:Nat->Nat->Bool}(ho:s.heap.get? a=some (seqObj "list" vs.toArray n))(h64:vs.length<64)
  (hkk:2<=vs.length->∀s1:Shared,(∀b o,b≠a->s.heap.get? b=some o->s1.heap.get? b=some o)->wpAny (model prog w) A (keyKind' vs.toArray) (fun κ s'=>s'=s1/\∀i j,i<vs.length->j<vs.length->∀C:Bool->Shared->Prop,C (lt i j) s1->kas_ask prog w A κ vs i j C s1) (fun _ _=>False) s1)
  (h:P (.done (.ret .none)) {s with heap:=sortedHeap s.heap a vs (((fQ lt (kas_sort vs.length)).toList.map fun i=>vs.getD i Value.none).toArray)}) :
  wpAny (model prog w) A (Builtin.«list.sort» ⟨[.ref a],[]⟩) P E s:=by
 have ha:a<s.heap.objs.size:=Heap.lt_size ho;have big:(64:Nat)<=sizeLine:=by decide
 rw[list_sort_plain];refine wpAny_bind (listItems_at ho rfl (wpAny_bind (listUpdate_at ho rfl ?_ (by rw[List.size_toArray];omega) (Nat.zero_le _))));obtain⟨e1,ho1⟩:∃e1,(s.heap.update a (Obj.mapSeq fun _=>(#[]:Array Value))).get? a=some (seqObj "list" #[] e1):=⟨_,get?_update_seq ho fun _=>#[]⟩
 refine wpAny_bind (seqEpoch_at ho1 rfl (wpAny_bind (wpAny_newTuple (wpAny_bind (wpAny_newList (wpAny_holding ?_) (Nat.zero_le _))) (by show vs.length<=_;omega))));have ho6:(((s.heap.update a (Obj.mapSeq fun _=>(#[]:Array Value))).push (seqObj "tuple" vs.toArray 0)).push (seqObj "list" #[] 0)).get? a=some (seqObj "list" #[] e1):=Heap.get?_push_of_some _ (Heap.get?_push_of_some _ ho1);have old:∀b o,b≠a->s.heap.get? b=some o->(((s.heap.update a (Obj.mapSeq fun _=>(#[]:Array Value))).push (seqObj "tuple" vs.toArray 0)).push (seqObj "list" #[] 0)).get? b=some o:=fun b o hb e =>
  Heap.get?_push_of_some _ (Heap.get?_push_of_some _ (by rw[Heap.get?_update_ne _ _ _ _ hb];exact e))
 show wpAny (model prog w) A _ P E {s with heap:=((s.heap.update a (Obj.mapSeq fun _=>(#[]:Array Value))).push (seqObj "tuple" vs.toArray 0)).push (seqObj "list" #[] 0)}
 dsimp only
 have plen:((fQ lt (kas_sort vs.length)).toList.map fun i=>vs.getD i Value.none).length=vs.length:=by rw[List.length_map,(jr lt _).length_eq,List.length_range]
 by_cases h2:vs.toArray.size<2
 ·rw[if_pos h2,if_pos h2];refine wpAny_bind (wpAny_pure ?_);rw[StateT.run_pure];refine wpAny_bind (wpAny_pure ?_);have eo:((fQ lt (kas_sort vs.length)).toList.map fun i=>vs.getD i Value.none).toArray=(vs.toArray.zip vs.toArray).map (·.2):=by
   have hp:=jr lt vs.length;clear h hkk plen old ho6 ho h64
   match vs,h2,hp with
   |[],_,hp=>rw[show(fQ lt (kas_sort ([]:List Value).length)).toList=[] from List.perm_nil.mp hp];simp
   |[v],_,hp=>rw[show(fQ lt (kas_sort [v].length)).toList=[0] from List.perm_singleton.mp hp];simp
   |_::_::_,h2,_=>simp at h2;omega
  rw[eo]at h
  dsimp only
  refine wpAny_bind (seqEpoch_at ho6 rfl (wpAny_bind (listUpdate_at ho6 rfl ?_ (Nat.zero_le _) (by rw[Array.size_map];show(pairsOf vs).size<=_;rw[pairsOf_size];omega))));simp only[bne_self_eq_false,Bool.false_eq_true,if_false];exact wpAny_pure h
 ·rw[if_neg h2,if_neg h2];have h2':2<=vs.length:=by rw[List.size_toArray]at h2;omega
  refine wpAny_bind (wpAny_mono (hkk h2' _ old) (fun κ s0 hk=>?_) fun _ _ x=>x.elim);obtain⟨rfl,hk⟩:=hk;refine wpAny_bind (wpAny_mono (kat_run (κ:=κ) (ks:=vs) (vs:=vs) (G:=fun p s'=>p=fQ lt (kas_sort vs.length)/\s'={s with heap:=((s.heap.update a (Obj.mapSeq fun _=>(#[]:Array Value))).push (seqObj "tuple" vs.toArray 0)).push (seqObj "list" #[] 0)})
   (Q:=fun st' s'=>∃p:Array Nat,arrOf st'=p.map (kas_item (vs.toArray.zip vs.toArray))/\failedOf st'=none/\p=fQ lt (kas_sort vs.length)/\s'={s with heap:=((s.heap.update a (Obj.mapSeq fun _=>(#[]:Array Value))).push (seqObj "tuple" vs.toArray 0)).push (seqObj "list" #[] 0)})
   rfl h2' h64 (fun p st' s' a1 a2 a3 a4=>⟨p,a2,a3,a4⟩) (InT.wp hk (qq (by omega)) ⟨rfl,rfl⟩)) ?_ fun _ _ e=>e)
  rintro⟨⟨⟩,st'⟩ s' ⟨p,har,hf,rfl,rfl⟩
  dsimp only
  have hout:=kat_snds rfl har;rw[hout,hf];refine wpAny_bind (seqEpoch_at ho6 rfl (wpAny_bind (listUpdate_at ho6 rfl ?_ (Nat.zero_le _) (by rw[List.size_toArray,plen];omega))));simp only[bne_self_eq_false,Bool.false_eq_true,if_false];exact wpAny_pure h
end
end L2
namespace L2
open PySem PySem.W PyProof.Rows
noncomputable def kLt(ks:List Str)(i j:Nat):Bool:=decide ((ks.getD i Str.empty).cps.toList<(ks.getD j Str.empty).cps.toList)
noncomputable def kh(ks:List Str):List Nat:=(fQ (kLt ks) (kas_sort ks.length)).toList
theorem dy(ks:List Str):(kh ks).Perm (List.range ks.length):=jr _ _
section
variable{prog:Program}{w:World}{A:Around}{E:Value->Shared->Prop}{s:Shared}
end
section
variable{X:Cx}{pins:List (Addr×Obj)}{σ:List (Option V)}{H H':Hp}{s:Shared}{h':Heap}
end
end L2
namespace L2
open PySem PySem.W PyProof.Rows
section
variable{X:Cx}{pins:List (Addr×Obj)}{σ:List (Option V)}{H:Hp}{s:Shared}
end
section
variable{X:Cx}
theorem ua:X.calm=true->d5 X (.builtin "any") (fun xs H Q=>∃(p:Addr) (bs:List Bool),xs=[.ref p]/\SqL X.K H p (bs.map V.bl)/\Q (.bl (bs.any id)) H):=by
 intro hc pins s σ H xs us Q I rs h;obtain⟨p,bs,rfl,hq,q⟩:=h;obtain⟨u,rfl,r⟩:=vals1 rs;cases r;obtain⟨its,rv,pl,hz⟩:=I.list hq;have e:=eB rv;subst e;have hlt:p<s.heap.objs.size:=by obtain⟨_,_,e,_⟩:=pl;exact Heap.lt_size e
 refine call_any_walk (wpAny_pyIter_list pl.isList ?_);refine⟨s.heap.objs.size,[s.heap.objs.size,p],[s.heap.objs.size],(bs.map Value.bool).toArray.size,_,_,fun i=>(bs[i]?).getD false,rfl,Walks.list (A:=X.A.in1) (I.ok.hd hc) _ p (Nat.ne_of_lt hlt) (bs.map Value.bool).toArray,
  ⟨⟨_,Heap.get?_push_size _ rfl,rfl,rfl⟩,pl.isList.push _⟩,fun i v s' Q' E' hP hQ=>?_,fun h' tk hk=>?_⟩
 ·have hP':(bs.map Value.bool)[i]?=some v:=by simpa using hP
  rw[List.getElem?_map]at hP';cases e:bs[i]? with
  |none=>rw[e]at hP';cases hP'
  |some b =>
   rw[e]at hP';cases hP';simp only[e,Option.getD_some]at hQ;exact wpAny_truthy_bool hQ
 ·have e:((List.range (bs.map Value.bool).toArray.size).any fun i=>(bs[i]?).getD false)=bs.any id:=by
   rw[List.size_toArray,List.length_map];exact PyProof.Rows.LSm.range_any bs
  rw[e];exact⟨.bl _,H,I.kept (t':=tk) (PyProof.Rows.LSm.kept_iter hk),rfl,q⟩
end
end L2
namespace L2
open PySem PySem.Spec PyProof.Rows
structure ZAp(z TI TO i1 i2:Addr)(f1 f2:List Addr):Prop where
 Iz:TI≠z
 Oz:TO≠z
 az:i1≠z
 bz:i2≠z
 IO:TI≠TO
 Ia:TI≠i1
 Ib:TI≠i2
 Oa:TO≠i1
 Ob:TO≠i2
 ab:i1≠i2
 z1:z∉f1
 z2:z∉f2
 O1:TO∉f1
 O2:TO∉f2
 b1:i2∉f1
 a2:i1∉f2
noncomputable def xU(prog:Program)(w:World)(A:Around)(it:Addr)(St:Heap->Prop):Prop:=∀(s:Shared) (Q:Value->Shared->Prop) (E:Value->Shared->Prop),St s.heap->(∀h' e,Heap.ExtBut it s.heap h'->(∃o,h'.get? e=some o/\o.cls=.type "StopIteration")->E (.ref e) {s with heap:=h' })->wpAny (model prog w) A (Builtin.SmallTypes.nextOf (.ref it)) Q E s
section
variable{prog:Program}{w:World}{A:Around}{E:Value->Shared->Prop}{s:Shared}{z TI TO i1 i2:Addr}{f1 f2:List Addr}{n1 n2 i:Nat}{P1 P2:Nat->Value->Prop}{S1 S2:Nat->Heap->Prop}
theorem ub{a b:Value}{Q:Option Value->Shared->Prop}(D1:Draws prog w A.in1 i1 f1 n1 P1 S1)(D2:Draws prog w A.in1 i2 f2 n2 P2 S2)(Z:ZAp z TI TO i1 i2 f1 f2)(hz:IsZip s.heap z TI TO .none)(hTI:IsPair s.heap TI (.ref i1) (.ref i2))(hTO:IsPair s.heap TO a b)
  (t1:S1 i s.heap) (t2:S2 i s.heap) (l1:i<n1) (l2:i<n2)
  (hQ:∀x y h' tk,P1 i x->P2 i y->IsZip h' z TI TO (rawInt s.heap.objs.size)->IsPair h' TO x y->S1 (i+1) h'->S2 (i+1) h'->IsPair h' s.heap.objs.size x y ->
   (∀c o,c≠z->c≠TO->c≠i1->c≠i2->s.heap.get? c=some o->h'.get? c=some o)->Q (some (.ref s.heap.objs.size)) {s with heap:=h',toks:=tk}):wpAny (model prog w) A (pyNext (.ref z)) Q E s:=by
 have hT:s.TypeIs (.ref z) "zip":=⟨_,hz,rfl⟩
 have nz:∀{f:List Addr} {c:Addr},c∉f->∀b∈f,b≠c:=fun hc b hb e=>hc (e▸hb);unfold pyNext;refine wpAny_bind (wpAny_attempt (wpAny_callSpecial?_slot (name:=Str.ofString "__next__") hT PySem.F.slot_zip_next (wpAny_call_entry PySem.F.slot_zip_next hT PySem.F.entry_zip_next ?_ (PySem.F.args_zip_next_1 _))));show wpAny _ _ (field (.ref z) 2 >>= _) _ _ _;refine wpAny_bind (wpAny_field hz rfl (x:=.bool false) rfl ?_);show wpAny _ _ (field (.ref z) 3 >>= _) _ _ _;refine wpAny_bind (wpAny_field hz rfl (x:=.ref TI) rfl (wpAny_bind (wpAny_seqItems hTI rfl ?_)));show wpAny _ _ (Builtin.SmallTypes.ownedTupleIsFree (.ref z) >>= _) _ _ _;refine wpAny_bind ?_;unfold Builtin.SmallTypes.ownedTupleIsFree;refine wpAny_bind (wpAny_field hz rfl (x:=.none) rfl (wpAny_pure ?_));simp only[if_true];refine wpAny_bind (wpAny_rule (wpAny_bind (wpAny_field hz rfl (x:=.ref TO) rfl (wpAny_bind (wpAny_setField_rec hz (by simp) fun g1 hz1 k1=>wpAny_bind ?_)))))
 replace hz1:IsZip g1 z TI TO .ellipsis:=hz1
 simp only[List.zipIdx_cons,List.zipIdx_nil,List.forIn_cons,List.forIn_nil];refine wpAny_bind (wpAny_bind (wpAny_onRaise ?_));show wpAny _ _ (Builtin.SmallTypes.nextOf (.ref i1) >>= _) _ _ _;refine wpAny_bind (D1.item i _ _ _ l1 (D1.frame i _ _ t1 fun b hb o e=>k1.extBut b o (nz Z.z1 b hb) e) fun x g2 tk2 px u1 k2=>wpAny_pure ?_);have hO2:IsPair g2 TO a b:=k2.extBut _ _ Z.Oa (k1.extBut _ _ Z.Oz hTO);refine wpAny_bind (wpAny_seqItems hO2 rfl (wpAny_bind (wpAny_updateSeq_pair hO2 fun g3 hO3 k3=>wpAny_bind (wpAny_letGo (wpAny_pure ?_)))))
 replace hO3:IsPair g3 TO x b:=hO3
 refine wpAny_bind (wpAny_bind (wpAny_onRaise ?_));show wpAny _ _ (Builtin.SmallTypes.nextOf (.ref i2) >>= _) _ _ _;refine wpAny_bind (D2.item i _ _ _ l2 (D2.frame i _ _ t2 fun b hb o e=>k3.extBut b o (nz Z.O2 b hb) (k2.extBut b o (nz Z.a2 b hb) (k1.extBut b o (nz Z.z2 b hb) e))) fun y g4 tk4 py u2 k4=>wpAny_pure ?_);have hO4:IsPair g4 TO x b:=k4.extBut _ _ Z.Ob hO3;refine wpAny_bind (wpAny_seqItems hO4 rfl (wpAny_bind (wpAny_updateSeq_pair hO4 fun g5 hO5 k5=>wpAny_bind (wpAny_letGo (wpAny_pure (wpAny_pure ?_))))))
 replace hO5:IsPair g5 TO x y:=hO5
 refine wpAny_bind (wpAny_seqItems hO5 rfl (wpAny_bind (wpAny_newTuple ?_)));have hsz:g5.objs.size=s.heap.objs.size:=by rw[k5.1,k4.1,k3.1,k2.1,k1.1]
 have hz5:IsZip g5 z TI TO .ellipsis:=k5.extBut _ _ Z.Oz.symm (k4.extBut _ _ Z.bz.symm (k3.extBut _ _ Z.Oz.symm (k2.extBut _ _ Z.az.symm hz1)));have kk:∀c o,c≠z->c≠TO->c≠i1->c≠i2->s.heap.get? c=some o->g5.get? c=some o:=fun c o c1 c2 c3 c4 e =>
  k5.extBut _ _ c2 (k4.extBut _ _ c4 (k3.extBut _ _ c2 (k2.extBut _ _ c3 (k1.extBut _ _ c1 e))))
 have v1:S1 (i+1) g5:=D1.frame _ _ _ u1 fun b hb o e=>k5.extBut b o (nz Z.O1 b hb) (k4.extBut b o (nz Z.b1 b hb) (k3.extBut b o (nz Z.O1 b hb) e));have v2:S2 (i+1) g5:=D2.frame _ _ _ u2 fun b hb o e=>k5.extBut b o (nz Z.O2 b hb) e;have zlt:z<g5.objs.size:=Heap.lt_size hz5;show wpAny _ _ (Builtin.SmallTypes.ownedTupleHandOut (.ref z) (.ref g5.objs.size) >>= _) _ _ _;refine wpAny_bind ?_;unfold Builtin.SmallTypes.ownedTupleHandOut;have hz6:IsZip (g5.push {cls:=.type "tuple",data:=.seq #[x,y]}) z TI TO .ellipsis:=Heap.get?_push_of_some _ hz5;refine wpAny_bind (wpAny_setField_rec hz6 (by simp) fun g7 hz7 k7=>?_)
 replace hz7:IsZip g7 z TI TO (rawInt g5.objs.size):=hz7
 refine wpAny_setField_rec hz7 (by simp) fun g8 hz8 k8=>?_
 replace hz8:IsZip g8 z TI TO (rawInt g5.objs.size):=hz8
 have up:∀c o,c≠z->g5.get? c=some o->g8.get? c=some o:=fun c o c1 e=>k8.extBut _ _ c1 (k7.extBut _ _ c1 (Heap.get?_push_of_some _ e));have hT8:IsPair g8 g5.objs.size x y:=k8.extBut _ _ (Nat.ne_of_gt zlt) (k7.extBut _ _ (Nat.ne_of_gt zlt) (Heap.get?_push_size _ rfl));rw[hsz]at hz8 hT8;refine wpAny_pure ⟨_,rfl,?_⟩;show wpAny _ _ (pure (some (Value.ref g5.objs.size))) _ _ _;rw[hsz];exact wpAny_pure (hQ x y g8 _ px py hz8 (up _ _ Z.Oz hO5) (D1.frame _ _ _ v1 fun b hb o e=>up b o (nz Z.z1 b hb) e) (D2.frame _ _ _ v2 fun b hb o e=>up b o (nz Z.z2 b hb) e) hT8 fun c o c1 c2 c3 c4 e=>up c o c1 (kk c o c1 c2 c3 c4 e))
theorem uc{a b:Value}{Q:Option Value->Shared->Prop}(hh:A.handled=none)(D1:Draws prog w A.in1 i1 f1 n1 P1 S1)(D2:Draws prog w A.in1 i2 f2 n2 P2 S2)(Z:ZAp z TI TO i1 i2 f1 f2)(hz:IsZip s.heap z TI TO .none)(hTI:IsPair s.heap TI (.ref i1) (.ref i2))(hTO:IsPair s.heap TO a b)
  (t1:S1 i s.heap) (t2:S2 i s.heap) (he:xU prog w A.in1 i1 (S1 i)\/i<n1/\xU prog w A.in1 i2 (S2 i))
  (hQ:∀h' tk,(∀c o,c≠z->c≠TO->c≠i1->c≠i2->s.heap.get? c=some o->h'.get? c=some o)->Q none {s with heap:=h',toks:=tk}):wpAny (model prog w) A (pyNext (.ref z)) Q E s:=by
 have hT:s.TypeIs (.ref z) "zip":=⟨_,hz,rfl⟩
 have nz:∀{f:List Addr} {c:Addr},c∉f->∀b∈f,b≠c:=fun hc b hb e=>hc (e▸hb);unfold pyNext;refine wpAny_bind (wpAny_attempt (wpAny_callSpecial?_slot (name:=Str.ofString "__next__") hT PySem.F.slot_zip_next (wpAny_call_entry PySem.F.slot_zip_next hT PySem.F.entry_zip_next ?_ (PySem.F.args_zip_next_1 _))));show wpAny _ _ (field (.ref z) 2 >>= _) _ _ _;refine wpAny_bind (wpAny_field hz rfl (x:=.bool false) rfl ?_);show wpAny _ _ (field (.ref z) 3 >>= _) _ _ _;refine wpAny_bind (wpAny_field hz rfl (x:=.ref TI) rfl (wpAny_bind (wpAny_seqItems hTI rfl ?_)));show wpAny _ _ (Builtin.SmallTypes.ownedTupleIsFree (.ref z) >>= _) _ _ _;refine wpAny_bind ?_;unfold Builtin.SmallTypes.ownedTupleIsFree;refine wpAny_bind (wpAny_field hz rfl (x:=.none) rfl (wpAny_pure ?_));simp only[if_true];refine wpAny_bind (wpAny_rule (wpAny_bind (wpAny_field hz rfl (x:=.ref TO) rfl (wpAny_bind (wpAny_setField_rec hz (by simp) fun g1 hz1 k1=>wpAny_bind ?_)))))
 replace hz1:IsZip g1 z TI TO .ellipsis:=hz1
 simp only[List.zipIdx_cons,List.zipIdx_nil,List.forIn_cons,List.forIn_nil];refine wpAny_bind (wpAny_bind (wpAny_onRaise ?_));show wpAny _ _ (Builtin.SmallTypes.nextOf (.ref i1) >>= _) _ _ _;have t1':=D1.frame i _ _ t1 fun b hb o e=>k1.extBut b o (nz Z.z1 b hb) e;rcases he with e1|⟨l1,e2⟩
 ·refine wpAny_bind (e1 _ _ _ t1' fun g2 e k2 ⟨oe,hoe,hce⟩=>?_);have hz2:IsZip g2 z TI TO .ellipsis:=k2 _ _ Z.az.symm hz1;have hez:e≠z:=fun x=>by subst x;rw[hz2]at hoe;cases hoe;simp at hce
  refine wpAny_setField_rec hz2 (by simp) fun g3 _ k3=>?_;refine wpAny_bind (wpAny_isInstance (T:="StopIteration") (b:=true) ⟨oe,k3.extBut _ _ hez hoe,hce⟩ isSubtype_stop ?_);exact wpAny_pure (hQ _ _ fun c o c1 _ c3 _ x=>k3.extBut _ _ c1 (k2 _ _ c3 (k1.extBut _ _ c1 x)))
 ·refine wpAny_bind (D1.item i _ _ _ l1 t1' fun x g2 tk2 px u1 k2=>wpAny_pure ?_);have hO2:IsPair g2 TO a b:=k2.extBut _ _ Z.Oa (k1.extBut _ _ Z.Oz hTO);refine wpAny_bind (wpAny_seqItems hO2 rfl (wpAny_bind (wpAny_updateSeq_pair hO2 fun g3 hO3 k3=>wpAny_bind (wpAny_letGo (wpAny_pure ?_)))));refine wpAny_bind (wpAny_bind (wpAny_onRaise ?_));show wpAny _ _ (Builtin.SmallTypes.nextOf (.ref i2) >>= _) _ _ _;refine wpAny_bind (e2 _ _ _ (D2.frame i _ _ t2 fun b hb o e=>k3.extBut b o (nz Z.O2 b hb) (k2.extBut b o (nz Z.a2 b hb) (k1.extBut b o (nz Z.z2 b hb) e))) fun g4 e k4 ⟨oe,hoe,hce⟩=>?_);have hz4:IsZip g4 z TI TO .ellipsis:=k4 _ _ Z.bz.symm (k3.extBut _ _ Z.Oz.symm (k2.extBut _ _ Z.az.symm hz1));have hez:e≠z:=fun x=>by subst x;rw[hz4]at hoe;cases hoe;simp at hce
  refine wpAny_setField_rec hz4 (by simp) fun g5 _ k5=>?_;refine wpAny_bind (wpAny_isInstance (T:="StopIteration") (b:=true) ⟨oe,k5.extBut _ _ hez hoe,hce⟩ isSubtype_stop ?_);exact wpAny_pure (hQ _ _ fun c o c1 c2 c3 c4 x=>k5.extBut _ _ c1 (k4 _ _ c4 (k3.extBut _ _ c2 (k2.extBut _ _ c3 (k1.extBut _ _ c1 x)))))
end
noncomputable def Itz(SA SB:Hp->List V->Prop):It :=
 ⟨fun i H=>∃xs ys x y,SA H xs/\SB H ys/\xs[i]?=some x/\ys[i]?=some y,fun i H v H'=>∃p,H p=none/\v=.ref p/\∀xs ys x y,SA H xs->SB H ys->xs[i]?=some x->ys[i]?=some y->H'=upd H p (.tup [x,y]),fun i H=>∃xs ys,SA H xs/\SB H ys/\(xs.length<=i\/i<xs.length/\ys.length<=i)⟩
section
variable{X:Cx}{es:List Expr}{kx:Nat}{ps p pos:Pos}
theorem ud{P:Program}{w:World}{K:PySem.W.Frag}{a b z TI TO i1 i2:Addr}(Z:ZAp z TI TO i1 i2 [i1,a] [i2,b])(hai:a≠i1)(hbi:b≠i2):Turn P w K (.Tuple es kx ps) (Itz (fun H xs=>SqL K H a xs) fun H ys=>SqT K H b ys) [z,TI,TO,i1,i2] z
  (fun i h=>IsZip h z TI TO .none/\IsPair h TI (.ref i1) (.ref i2)/\(∃u v,IsPair h TO u v)/\h.IsListIter i1 a i/\h.IsTupleIter i2 b i) where
 mem:=by simp
 obj:=fun i h ⟨hz,hTI,⟨u,v,hTO⟩,⟨o1,ho1,_,hd1⟩,⟨o2,ho2,_,hd2⟩⟩ c hc=>by
  simp only[List.mem_cons,List.not_mem_nil,or_false]at hc;rcases hc with rfl|rfl|rfl|rfl|rfl
  ·exact⟨_,hz,fun v e=>by cases e⟩
  ·exact⟨_,hTI,fun v e=>by cases e⟩
  ·exact⟨_,hTO,fun v e=>by cases e⟩
  ·exact⟨_,ho1,fun v e=>by rw[hd1]at e;cases e⟩
  ·exact⟨_,ho2,fun v e=>by rw[hd2]at e;cases e⟩
 keep:=fun i h h' ⟨hz,hTI,⟨u,v,hTO⟩,h1,h2⟩ k=>⟨k z (by simp) _ hz,k TI (by simp) _ hTI,⟨u,v,k TO (by simp) _ hTO⟩,h1.at fun o e=>k i1 (by simp) o e,h2.at fun o e=>k i2 (by simp) o e⟩
 item:=by
  intro Y hP hw hK hc i pins s σ H E I hf ⟨hz,hTI,⟨u,v,hTO⟩,h1,h2⟩ ⟨xs,ys,x,y,hq1,hq2,hx,hy⟩;rw[<-hK]at hq1 hq2;obtain⟨is1,r1,p1,_⟩:=I.list hq1;obtain⟨is2,r2,p2,_⟩:=I.tuple hq2;obtain⟨x0,hx0,rx⟩:=r1.get hx;obtain⟨y0,hy0,ry⟩:=r2.get hy;have l1:i<is1.toArray.size:=by simpa using(List.getElem?_eq_some_iff.mp hx0).1
  have l2:i<is2.toArray.size:=by simpa using(List.getElem?_eq_some_iff.mp hy0).1
  have hA:Y.A.handled=none:=I.ok.hd hc;subst hP hw;refine ub (Draws.list (A:=Y.A.in1) hA i1 a hai is1.toArray) (eG (A:=Y.A.in1) hA i2 b hbi is2.toArray) Z hz hTI hTO ⟨h1,p1.isList⟩ ⟨h2,p2⟩ l1 l2 fun x1 y1 g tk px py hz' hTO' t1 t2 hT k=>?_;have ex:x1=x0:=by
   have:is1.toArray[i]?=some x0:=by simpa using hx0
   rw[this]at px;cases px;rfl
  have ey:y1=y0:=by
   have:is2.toArray[i]?=some y0:=by simpa using hy0
   rw[this]at py;cases py;rfl
  subst ex ey;refine⟨_,rfl,wpAny_letOwnedTupleGo_zip (s:={s with heap:=g,toks:=tk}) hz' fun g2 hz2 hs2=>?_⟩;have lt:∀{c:Addr} {o:Obj},s.heap.get? c=some o->c≠s.heap.objs.size:=fun e=>Nat.ne_of_lt (Heap.lt_size e);have hTI2:IsPair g TI (.ref i1) (.ref i2):=k _ _ Z.Iz Z.IO Z.Ia Z.Ib hTI;have hT2:g2.get? s.heap.objs.size=some {cls:=.type "tuple",data:=.seq #[x1,y1]}:=(hs2.2 _ (lt hz).symm).trans hT;have k2:∀c o,c∉[z,TI,TO,i1,i2]->s.heap.get? c=some o->g2.get? c=some o:=fun c o hc e=>by
   simp only[List.mem_cons,List.not_mem_nil,or_false,not_or]at hc;exact(hs2.2 c hc.1).trans (k c o hc.1 hc.2.2.1 hc.2.2.2.1 hc.2.2.2.2 e)
  have I2:Inv Y pins σ (upd H s.heap.objs.size (.tup [x,y])) {s with heap:=g2,toks:=tk}:=I.jo hf k2 (Nat.le_refl _)
   (show bI Y.prog Y.w _ g2 _ (.tup [x,y]) from⟨by show 2<=sizeLine;decide,[x1,y1],.cons rx (.cons ry .nil),⟨_,hT2,rfl,_,rfl⟩⟩)
  refine⟨.ref s.heap.objs.size,_,I2,rfl,⟨_,I.hok.fresh (Nat.le_refl _),rfl,fun xs' ys' x' y' a1 a2 a3 a4=>?_⟩,⟨hz2,(hs2.2 _ Z.Iz).trans hTI2,⟨_,_,(hs2.2 _ Z.Oz).trans hTO'⟩,t1.1.at fun o e=>(hs2.2 _ Z.az).trans e,t2.1.at fun o e=>(hs2.2 _ Z.bz).trans e⟩,fun c hc=>?_⟩
  ·rw[<-hK]at a1 a2;have:=I.fZ a1 hq1;subst this;have:=I.dn a2 hq2;subst this;rw[hx]at a3;rw[hy]at a4;cases a3;cases a4;rfl
  ·have hne:c≠s.heap.objs.size:=by
    simp only[List.mem_cons,List.not_mem_nil,or_false]at hc;rcases hc with rfl|rfl|rfl|rfl|rfl
    ·exact lt hz
    ·exact lt hTI
    ·exact lt hTO
    ·obtain⟨o,e,_⟩:=h1;exact lt e
    ·obtain⟨o,e,_⟩:=h2;exact lt e
   rw[aG hne];exact(hf c hc).1
 done:=by
  intro Y hP hw hK hc i pins s σ H E I hf ⟨hz,hTI,⟨u,v,hTO⟩,h1,h2⟩ ⟨xs,ys,hq1,hq2,hend⟩;rw[<-hK]at hq1 hq2;obtain⟨is1,r1,p1,_⟩:=I.list hq1;obtain⟨is2,r2,p2,_⟩:=I.tuple hq2;have e1:=r1.length;have e2:=r2.length;have hA:Y.A.handled=none:=I.ok.hd hc;subst hP hw;refine uc hA (Draws.list (A:=Y.A.in1) hA i1 a hai is1.toArray) (eG (A:=Y.A.in1) hA i2 b hbi is2.toArray) Z hz hTI hTO ⟨h1,p1.isList⟩ ⟨h2,p2⟩ ?_ fun g tk k=>?_
  ·rcases hend with h|⟨h,h'⟩
   ·exact .inl fun s Q E st hE=>wpAny_nextOf_list_end hA st.1 st.2 (by simp;omega) hE
   ·exact .inr ⟨by simp;omega,fun s Q E st hE=>cw hA st.1 st.2 (by simp;omega) hE⟩
  ·exact⟨rfl,I.l5 (t':=tk) (ch:=[z,TI,TO,i1,i2]) hf fun c o hc e=>by
    simp only[List.mem_cons,List.not_mem_nil,or_false,not_or]at hc;exact k c o hc.1 hc.2.2.1 hc.2.2.2.1 hc.2.2.2.2 e⟩
 self:=fun A i s Q E ⟨hz,_⟩ h=>wpAny_pyIter_zip hz h
theorem boot_zip:bootBuiltins "zip"=some (.type "zip"):=by decide +kernel
noncomputable def BU(K:PySem.W.Frag)(ta:TA):TI:=fun σ H R=>ta σ H fun vs H1=>∃a b,vs=[.ref a,.ref b]/\(∃xs,SqL K H1 a xs)/\(∃ys,SqT K H1 b ys)/\R (Itz (fun H xs=>SqL K H a xs) fun H ys=>SqT K H b ys) H1
theorem wC(l1 l2:Addr)(xs ys:Array Value):
  Meets (Builtin.«zip.__new__» ⟨[.type "zip",.ref l1,.ref l2],[]⟩) (fun _ R s=>s.heap.IsList l1 xs/\s.heap.IsTuple l2 ys /\
   R (.ok (.ret (.ref (s.heap.objs.size+4)))) {s with heap:=((((s.heap.push {cls:=.type "list_iterator",data:=.fields #[.ref l1,.int 0 0]}).push {cls:=.type "tuple_iterator",data:=.fields #[.ref l2,.int 0 0]}).push {cls:=.type "tuple",data:=.seq #[.ref s.heap.objs.size,.ref (s.heap.objs.size+1)]}).push {cls:=.type "tuple",data:=.seq #[.none,.none]}).push {cls:=.type "zip",data:=.fields #[.none,.bool false,.bool false,.ref (s.heap.objs.size+2),.ref (s.heap.objs.size+3)]}}) :=
 .of_wp fun prog w A R s h=>by
  obtain⟨hp,g,d,tk,os⟩:=s;obtain⟨hl1,hl2,h⟩:=h;have hsub:=sub_zip;have hL1:Heap.IsList (Shared.heap ⟨hp,g,d,tk,os⟩) l1 xs:=hl1;have hL2:Heap.IsTuple (Shared.heap ⟨hp.push {cls:=.type "list_iterator",data:=.fields #[.ref l1,.int 0 0]},g,d,tk,os⟩) l2 ys:=let ⟨o,ho,r⟩:=hl2;⟨o,Heap.get?_push_of_some _ ho,r⟩
  wp_walk using wpAny_pyIter_list hL1,wpAny_pyIter_tuple hL2
  simp only[Heap.size_push];exact⟨_,rfl,h⟩
theorem fi{c x y:Nat}(h1:x<c\/c<x)(h2:y<c):c∉[x,y]:=fun h=>by
 rcases List.mem_cons.mp h with e|h
 ·omega
 ·have:=List.mem_singleton.mp h;omega
theorem wD{n l1 l2:Nat}(h1:l1<n)(h2:l2<n):ZAp (n+4) (n+2) (n+3) n (n+1) [n,l1] [n+1,l2] :=
 ⟨Nat.ne_of_lt (by omega),Nat.ne_of_lt (by omega),Nat.ne_of_lt (by omega),Nat.ne_of_lt (by omega),Nat.ne_of_lt (by omega),Nat.ne_of_gt (by omega),Nat.ne_of_gt (by omega),Nat.ne_of_gt (by omega),Nat.ne_of_gt (by omega),Nat.ne_of_lt (by omega),
  fi (by omega) (by omega),fi (by omega) (by omega),fi (by omega) (by omega),fi (by omega) (by omega),fi (by omega) (by omega),fi (by omega) (by omega)⟩
theorem wF{n b:Nat}(h:b∈[n+4,n+2,n+3,n,n+1]):n<=b:=by
 simp only[List.mem_cons,List.not_mem_nil,or_false]at h;omega
theorem yT{a b:Expr}{ta:TA}(hg:Gl X "zip")(hm:X.mg "zip"=none)(ha:PA X [a,b] ta)(he:starEach (a::[b]) X.env=(false,eval a X.env)::starEach [b] X.env)(hpl:(backTo pos (starEach [b] X.env)).any (·.1)=false):PI X (.Tuple es kx ps) (.Call (.Name "zip" p) [a,b] [] pos) (BU X.K ta):=by
 intro pins s σ H R I h;refine Call_ (dg I hg hm boot_zip (PyProof.Rows.callWith_type1 (thn (ha pos pins s σ H _ I h) fun us s1 ⟨vs,H1,I1,r1,q1⟩=>?_) he hpl));obtain⟨l1,l2,rfl,⟨xs,hq1⟩,⟨ys,hq2⟩,q⟩:=q1;obtain⟨u1,u2,rfl,e1,e2⟩:=vals2 r1;cases e1;cases e2;obtain⟨is1,v1,p1,_⟩:=I1.list hq1;obtain⟨is2,v2,p2,_⟩:=I1.tuple hq2;have n1:l1<s1.heap.objs.size:=let ⟨o,ho,_⟩:=p1.isList;Heap.lt_size ho;have n2:l2<s1.heap.objs.size:=let ⟨o,ho,_⟩:=p2;Heap.lt_size ho;refine callType_new PySem.F.called_zip (by decide) (PySem.F.typeCall_zip_2 _ _) (PySem.F.newCall_zip_2 _ _) (fun obj=>PySem.F.args_object_init_3 obj _ _) PySem.F.entry_zip_new (wC l1 l2 is1.toArray is2.toArray) ⟨p1.isList,p2,?_⟩;generalize hg5:((((s1.heap.push {cls:=.type "list_iterator",data:=.fields #[.ref l1,.int 0 0]}).push {cls:=.type "tuple_iterator",data:=.fields #[.ref l2,.int 0 0]}).push {cls:=.type "tuple",data:=.seq #[.ref s1.heap.objs.size,.ref (s1.heap.objs.size+1)]}).push {cls:=.type "tuple",data:=.seq #[.none,.none]}).push {cls:=.type "zip",data:=.fields #[.none,.bool false,.bool false,.ref (s1.heap.objs.size+2),.ref (s1.heap.objs.size+3)]}=g;have sz:∀(h:Heap) (o:Obj),(h.push o).objs.size=h.objs.size+1:=fun h o=>size_push' ..;have at_:∀(h:Heap) (o:Obj) (n:Nat),h.objs.size=n->o.isFreed=false->(h.push o).get? n=some o:=fun h o n e f=>by subst e;exact Heap.get?_push_size _ f
 have g5:IsZip g (s1.heap.objs.size+4) (s1.heap.objs.size+2) (s1.heap.objs.size+3) .none:=by subst hg5;exact at_ _ _ _ (by simp[sz]) rfl
 have g4:IsPair g (s1.heap.objs.size+3) .none .none:=by subst hg5;exact Heap.get?_push_of_some _ (at_ _ _ _ (by simp[sz]) rfl)
 have g3:IsPair g (s1.heap.objs.size+2) (.ref s1.heap.objs.size) (.ref (s1.heap.objs.size+1)):=by subst hg5;exact Heap.get?_push_of_some _ (Heap.get?_push_of_some _ (at_ _ _ _ (by simp[sz]) rfl))
 have g2:g.IsTupleIter (s1.heap.objs.size+1) l2 0:=by subst hg5;exact⟨_,Heap.get?_push_of_some _ (Heap.get?_push_of_some _ (Heap.get?_push_of_some _ (at_ _ _ _ (by simp[sz]) rfl))),rfl,rfl⟩
 have g1:g.IsListIter s1.heap.objs.size l1 0:=by subst hg5;exact⟨_,Heap.get?_push_of_some _ (Heap.get?_push_of_some _ (Heap.get?_push_of_some _ (Heap.get?_push_of_some _ (at_ _ _ _ rfl rfl)))),rfl,rfl⟩
 have kk:∀c o,s1.heap.get? c=some o->g.get? c=some o:=fun c o e=>by subst hg5;exact Heap.get?_push_of_some _ (Heap.get?_push_of_some _ (Heap.get?_push_of_some _ (Heap.get?_push_of_some _ (Heap.get?_push_of_some _ e))))
 have Z:ZAp (s1.heap.objs.size+4) (s1.heap.objs.size+2) (s1.heap.objs.size+3) s1.heap.objs.size (s1.heap.objs.size+1) [s1.heap.objs.size,l1] [s1.heap.objs.size+1,l2]:=wD n1 n2;refine⟨⟨_,g5,rfl⟩,wpAny_pyIter_zip g5 ⟨_,[s1.heap.objs.size+4,s1.heap.objs.size+2,s1.heap.objs.size+3,s1.heap.objs.size,s1.heap.objs.size+1],_,_,H1,rfl,I1.kept (t':=s1.toks) kk,ud Z (Nat.ne_of_lt n1) (Nat.ne_of_lt (Nat.lt_succ_of_lt n2)),⟨g5,g3,⟨_,_,g4⟩,g1,g2⟩,fun b hb=>?_,q⟩⟩;have hb':s1.heap.objs.size<=b:=wF hb;exact I1.sR hb' (I1.hok.fresh hb')
end
end L2
namespace L2
open PySem PySem.W PyProof.Rows
section
variable{X:Cx}
theorem rU:OpR X (compareOp .GtE) (fun x y H Q=>∃i j,x=.str i/\y=.str j/\Q (.bl (!(decide (i.cps.toList<j.cps.toList)))) H):=by
 intro pins s σ H x y v u Q I rx ry h;obtain⟨i,j,rfl,rfl,q⟩:=h;obtain⟨t,rfl⟩:=rx;obtain⟨t',rfl⟩:=ry;exact PySem.P.ge_str ⟨.bl _,H,I,rfl,q⟩
end
noncomputable def d8(h:Heap)(as:List Addr)(ks:List Str):Prop:=as.length=ks.length/\∀(j:Nat) (a:Addr),as[j]?=some a->∃k t o n b,ks[j]?=some k/\h.get? a=some o/\o.cls=.type "tuple"/\o.data=.seq #[.str k t,.ref b] n
theorem d8.keeps{h h':Heap}{as:List Addr}{ks:List Str}(x:d8 h as ks)(k:∀b o,b∈as->h.get? b=some o->h'.get? b=some o):d8 h' as ks :=
 ⟨x.1,fun j a e=>let ⟨k0,t,o,n,b,e1,e2,e3⟩:=x.2 j a e;⟨k0,t,o,n,b,e1,k a o (List.mem_of_getElem? e) e2,e3⟩⟩
theorem d8.tail{h:Heap}{a:Addr}{as:List Addr}{k:Str}{ks:List Str}(x:d8 h (a::as) (k::ks)):d8 h as ks :=
 ⟨by have:=x.1;simpa using this,fun j b e=>by
  obtain⟨k0,t,o,n,c,e1,e2⟩:=x.2 (j+1) b (by simpa using e);exact⟨k0,t,o,n,c,by simpa using e1,e2⟩⟩
theorem d8.iC{h:Heap}:∀{as:List Addr}{ks:List Str},d8 h as ks->∃fs:List Value,KatTups h (as.map Value.ref) fs/\fs.length=as.length/\∀v∈fs,∃x t,v=Value.str x t
 |[],_,_=>⟨[],KatTups.nil,rfl,by simp⟩
 |a::as,[],x=>by have:=x.1;simp at this
 |a::as,k::ks,x=>by
  obtain⟨fs,h1,h2,h3⟩:=d8.iC x.tail;obtain⟨k0,t,o,n,b,e1,e2,e3,e4⟩:=x.2 0 a rfl;refine⟨.str k0 t::fs,KatTups.cons e2 e3 e4 rfl h1,by simp[h2],fun v hv=>?_⟩;rcases List.mem_cons.mp hv with rfl|hv
  ·exact⟨_,_,rfl⟩
  ·exact h3 v hv
section
variable{prog:Program}{w:World}{A:Around}{E:Value->Shared->Prop}{s:Shared}
theorem wG{b:Addr}{Q:Bool->Shared->Prop}(h:Q true s):wpAny (model prog w) A (eqBool (.ref b) (.ref b)) Q E s:=by
 unfold eqBool;refine wpAny_holding ?_;rw[if_pos (by simp)];exact wpAny_bind (wpAny_rule (wpAny_pure h))
theorem yU{as:List Addr}{ks:List Str}{C:Bool->Shared->Prop}(x:d8 s.heap as ks)(hnd:ks.Nodup){i j:Nat}(hi:i<as.length)(hj:j<as.length)(q:C (kLt ks i j) s):
  kas_ask prog w A (tuples' true) (as.map Value.ref) i j C s:=by
 obtain⟨p,t,o,n,b,e1,e2,_,e3⟩:=x.2 i as[i] (by simp[hi]);obtain⟨p',t',o',n',b',e1',e2',_,e3'⟩:=x.2 j as[j] (by simp[hj]);have gi:(as.map Value.ref).getD i Value.none=.ref as[i]:=by simp[List.getD,hi]
 have gj:(as.map Value.ref).getD j Value.none=.ref as[j]:=by simp[List.getD,hj]
 have ki:ks.getD i Str.empty=p:=by simp[List.getD,e1]
 have kj:ks.getD j Str.empty=p':=by simp[List.getD,e1']
 unfold kas_ask;rw[gi,gj];refine kat_lt (b:=true) e2 e3 e2' e3' ?_;unfold kLt at q;rw[ki,kj]at q;show KatLex prog w A true (decide (2<2)) C [(.str p t,.str p' t'),(.ref b,.ref b')] 0 s;refine kat_cons (wpAny_eqBool_str ?_);by_cases h:p=p'
 ·have hij:i=j:=by
   obtain⟨h1,z1⟩:=List.getElem?_eq_some_iff.mp e1;obtain⟨h2,z2⟩:=List.getElem?_eq_some_iff.mp e1';exact(List.getElem_inj hnd).mp (by rw[z1,z2,h])
  subst hij;rw[e2]at e2';cases e2';rw[e3]at e3';injection e3' with e3' _
  have hb:b=b':=by
   have:=congrArg (fun a:Array Value=>a[1]?) e3';simpa using this
  subst hb;subst h;rw[decide_eq_true rfl];refine kat_yes (kat_cons (wG (kat_yes (kat_nil ?_))));have:decide (p.cps.toList<p.cps.toList)=false:=decide_eq_false (List.lt_irrefl _);rw[this]at q;exact q
 ·rw[decide_eq_false h];exact kat_no (oneLt_str q)
theorem yV{as:List Addr}{ks:List Str}(x:d8 s.heap as ks)(hnd:ks.Nodup)(h2:2<=as.length):
  wpAny (model prog w) A (keyKind' (as.map Value.ref).toArray) (fun κ s'=>s'=s/\∀i j,i<(as.map Value.ref).length->j<(as.map Value.ref).length->∀C:Bool->Shared->Prop,C (kLt ks i j) s->kas_ask prog w A κ (as.map Value.ref) i j C s) (fun _ _=>False) s:=by
 obtain⟨fs,f1,f2,f3⟩:=x.iC;refine kat_kind (T:=.type "str") f1 (by omega) (fun v hv=>?_) rfl ⟨rfl,fun i j hi hj C q=>?_⟩
 ·obtain⟨y,t,rfl⟩:=f3 v hv;exact Looks.of_pure rfl
 ·rw[List.length_map]at hi hj;exact yU x hnd hi hj q
end
section
variable{X:Cx}{pins:List (Addr×Obj)}{σ:List (Option V)}{H:Hp}{s:Shared}
theorem oY{Q:VK}{L:Addr}{as:List Addr}{ks:List Str}(I:Inv X pins σ H s)(e:SqL X.K H L (as.map V.ref))(hl:as.length=ks.length)
  (ht:∀(j:Nat) a k,as[j]?=some a->ks[j]?=some k->∃b,SqT X.K H a [.str k,.ref b]) (hnd:ks.Nodup) (h64:as.length<64)
  (q:∀L',H L'=none->Q (.ref L') (upd H L' (.lst ((kh ks).map fun i=>V.ref (as.getD i 0))))) :
  wpAny (model X.prog X.w) X.A (call (.builtin "sorted") [.ref L]) (EP X pins σ Q) X.xe s:=by
 have big:(64:Nat)<=sizeLine:=by decide
 obtain⟨its,rv,pl,hz⟩:=I.list e;have eits:its=as.map Value.ref:=by
  have:∀(as:List Addr) (its:List Value),Vals (as.map V.ref) its->its=as.map Value.ref:=fun as=>by
   induction as with
   |nil=>intro its h;cases h;rfl
   |cons a as ih =>
    intro its h;cases h with
    |cons r t=>rw[ih _ t];cases r;rfl
  exact this as its rv
 subst eits;have pa:d8 s.heap as ks:=⟨hl,fun j a ej=>by
  have hj:j<ks.length:=by rw[<-hl];exact(List.getElem?_eq_some_iff.mp ej).1
  obtain⟨b,hb⟩:=ht j a ks[j] ej (by simp[hj]);obtain⟨us,r,⟨o,h1,h2,n,h3⟩,_⟩:=I.tuple hb;cases r with
  |cons r1 r2 =>
   cases r2 with
   |cons r2 r3 =>
    cases r3;obtain⟨t,rfl⟩:=r1;cases r2;exact⟨_,t,o,n,b,by simp[hj],h1,h2,h3⟩⟩
 refine Calls.call_function_entry kind_sorted plain_sorted entry_sorted (args_sorted1 _) ?_;unfold Builtin.«sorted»;refine wpAny_bind (m:=checkCount "sorted" 1 1 _) (wpAny_pure ?_);refine wpAny_bind (collect_list pl.isList ?_ (by simp;omega));generalize hg:(s.heap.push (seqObj "list" #[] 0)).update s.heap.objs.size (Obj.mapSeq (·++(as.map Value.ref).toArray))=g;have k1:∀b o,s.heap.get? b=some o->g.get? b=some o:=fun b o z=>by subst hg;exact fB z
 have hsz:s.heap.objs.size<=g.objs.size:=by subst hg;rw[Heap.size_update,size_push'];exact Nat.le_succ _
 have lt1:∀a∈as,a<g.objs.size:=fun a ha=>by
  obtain⟨j,hj,ej⟩:=List.mem_iff_getElem.mp ha;obtain⟨_,_,o,_,_,_,z,_⟩:=pa.2 j a (by simp[hj,ej]);exact Nat.lt_of_lt_of_le (Heap.lt_size z) hsz
 refine wpAny_bind (wpAny_newList ?_ (by rw[List.length_map];omega));have hoL:(g.push (seqObj "list" (as.map Value.ref).toArray 0)).get? g.objs.size=some (seqObj "list" (as.map Value.ref).toArray 0):=Heap.get?_push_size _ rfl;show wpAny _ _ _ _ _ {s with heap:=g.push (seqObj "list" (as.map Value.ref).toArray 0)};refine wpAny_bind (wpAny_holding (wpAny_call_entry slot_list_sort ⟨_,hoL,rfl⟩ entry_list_sort (rT (lt:=kLt ks) hoL (by rw[List.length_map];omega) (fun h2 s1 kp=>?_) ⟨_,rfl,?_⟩) (args_list_sort _)))
 ·exact yV (pa.keeps fun b o hb z=>kp b o (Nat.ne_of_lt (lt1 b hb)) (Heap.get?_push_of_some _ (k1 b o z))) hnd (by rw[List.length_map]at h2;exact h2)
 ·obtain⟨ee,he⟩:=sortedHeap_at (out:=((fQ (kLt ks) (kas_sort (as.map Value.ref).length)).toList.map fun i=>(as.map Value.ref).getD i Value.none).toArray) hoL;have hold:∀b o,g.get? b=some o->(sortedHeap (g.push (seqObj "list" (as.map Value.ref).toArray 0)) g.objs.size (as.map Value.ref) ((fQ (kLt ks) (kas_sort (as.map Value.ref).length)).toList.map fun i=>(as.map Value.ref).getD i Value.none).toArray).get? b=some o:=fun b o z=>by
   have hlt:b<g.objs.size:=Heap.lt_size z;rw[sortedHeap_old (Nat.ne_of_lt hlt) (by rw[size_push'];exact Nat.lt_succ_of_lt hlt)];exact Heap.get?_push_of_some _ z
  have eP:((fQ (kLt ks) (kas_sort (as.map Value.ref).length)).toList)=kh ks:=by
   unfold kh;rw[List.length_map,hl]
  have hin:∀i∈kh ks,i<as.length:=fun i hi=>by
   have:=List.mem_range.mp ((dy _).mem_iff.mp hi);omega
  refine wpAny_pure ⟨_,rfl,.ref g.objs.size,_,I.laid (t':=s.toks) (o:=.lst ((kh ks).map fun i=>V.ref (as.getD i 0))) (fun b u z=>hold b u (k1 b u z)) hsz ⟨?_,(kh ks).map fun i=>(as.map Value.ref).getD i Value.none,ee,?_,by rw[<-eP];exact he⟩,rfl,q _ (I.hok.fresh hsz)⟩
  ·rw[List.length_map,(dy _).length_eq,List.length_range];omega
  ·generalize kh ks=l at hin;induction l with
   |nil=>exact .nil
   |cons i l ih =>
    refine .cons ?_ (ih fun j hj=>hin j (by simp[hj]));have hi:=hin i (by simp);show RelV (.ref (as.getD i 0)) ((as.map Value.ref).getD i Value.none);have:(as.map Value.ref).getD i Value.none=.ref (as.getD i 0):=by simp[List.getD,hi]
    rw[this];rfl
end
end L2
namespace TM
open PySem L2
inductive U where
 |non|bl (b:Bool)|int (i:Int)|str (x:Str)
 |tup (xs:List U)|lst (xs:List U)
 |dic (ks:List Str) (vs:List U)|rdc (ks:List dJ)
mutual
noncomputable def imm:U->Bool
 |.tup xs=>fu xs
 |.lst _=>false
 |.dic _ _=>false
 |.rdc _=>false
 |.non=>true|.bl _=>true|.int _=>true|.str _=>true
noncomputable def fu:List U->Bool
 |[]=>true
 |u::us=>imm u&&fu us
end
inductive Kd where|own|io|loc|any|bor (j:Nat)|ownD
deriving DecidableEq
noncomputable def Kd.root:Kd->Bool
 |.own=>true
 |.io=>true
 |_=>false
noncomputable abbrev aj:=List (Option (Kd×U))
structure Ct where
 P:Program
 w:World
 K:PySem.W.Frag
 H₀:Hp
 Par:Addr->Prop
 IO:Addr->Prop
noncomputable def KL(K:PySem.W.Frag)(a:Addr)(xs:List V):Prop :=
 ∃(o:Obj) (its:Array Value) (n:Nat),K.lookup a=some o/\o.cls=.type "list"/\o.dict=none/\o.data=.seq its n/\its.size<=sizeLine/\Vals xs its.toList
noncomputable def LAt(K:PySem.W.Frag)(S:Addr->Prop)(H:Hp)(a:Addr)(vs:List V):Prop:=(S a/\Rd H a (.lst vs))\/KL K a vs
theorem LAt.sq{K:PySem.W.Frag}{S:Addr->Prop}{H:Hp}{a:Addr}{vs:List V}(h:LAt K S H a vs):SqL K H a vs:=h.elim (fun z=>.inl z.2) .inr
noncomputable def DAt(H:Hp)(R:List V->Prop)(a:Addr)(ks:List Str):Prop:=∃kvs:List (Key×V),H a=some (.dK kvs)/\kvs.map (·.1)=ks.map Sum.inr/\R (kvs.map (·.2))
section
variable(C:Ct)(S:Addr->Prop)(H:Hp)
mutual
noncomputable def Rep:U->V->Prop
 |.non,v=>v=.non
 |.bl b,v=>v=.bl b
 |.int i,v=>v=.int i
 |.str x,v=>v=.str x
 |.tup us,v=>∃a vs,v=.ref a/\SqT C.K H a vs/\ai us vs
 |.lst us,v=>∃a vs,v=.ref a/\LAt C.K S H a vs/\ai us vs
 |.dic ks us,v=>∃a,v=.ref a/\S a/\DAt H (ai us) a ks
 |.rdc ks,v=>∃a,v=.ref a/\S a/\d7 C.P C.w C.K H a ks
noncomputable def ai:List U->List V->Prop
 |[],vs=>vs=[]
 |u::us,vs=>∃v r,vs=v::r/\Rep u v/\ai us r
end
end
noncomputable def Tp:HO->Prop
 |.tup _=>True
 |.frz _ (.tup _)=>True
 |_=>False
structure Mv(S:Addr->Prop)(H:Hp)(S':Addr->Prop)(H':Hp):Prop where
 sub:∀a,S a->S' a
 tps:∀a o,H a=some o->Tp o->H' a=some o
 sam:∀a o,S a->H a=some o->H' a=some o
theorem Mv.sqT{K:PySem.W.Frag}{S S':Addr->Prop}{H H':Hp}{a:Addr}{vs:List V}(m:Mv S H S' H')(h:SqT K H a vs):SqT K H' a vs:=by
 rcases h with(h|⟨o,h⟩)|h
 ·exact .inl (.inl (m.tps a _ h trivial))
 ·exact .inl (.inr ⟨o,m.tps a _ h trivial⟩)
 ·exact .inr h
theorem Mv.lat{K:PySem.W.Frag}{S S':Addr->Prop}{H H':Hp}{a:Addr}{vs:List V}(m:Mv S H S' H')(h:LAt K S H a vs):LAt K S' H' a vs:=by
 rcases h with⟨s,h|⟨o,h⟩⟩|h
 ·exact .inl ⟨m.sub a s,.inl (m.sam a _ s h)⟩
 ·exact .inl ⟨m.sub a s,.inr ⟨o,m.sam a _ s h⟩⟩
 ·exact .inr h
theorem Mv.row{K:PySem.W.Frag}{S S':Addr->Prop}{H H':Hp}{v:V}{r:dJ}(m:Mv S H S' H')(h:eC K H v r):eC K H' v r :=
 let ⟨a,b,e,h1,h2⟩:=h;⟨a,b,e,m.sqT h1,m.sqT h2⟩
theorem DAt.mv{H H':Hp}{R R':List V->Prop}{a:Addr}{ks:List Str}(ha:∀o,H a=some o->H' a=some o)(hR:∀vs,R vs->R' vs)(h:DAt H R a ks):DAt H' R' a ks :=
 let ⟨kvs,h1,h2,h3⟩:=h;⟨kvs,ha _ h1,h2,hR _ h3⟩
theorem Mv.qr{P:Program}{w:World}{K:PySem.W.Frag}{S S':Addr->Prop}{H H':Hp}{a:Addr}{ks:List dJ}(m:Mv S H S' H')(ha:∀o,H a=some o->H' a=some o)(h:d7 P w K H a ks):d7 P w K H' a ks :=
 let ⟨xs,h1,h2,h3⟩:=h;⟨xs,ha _ h1,h2,fun x hx=>m.row (h3 x hx)⟩
section
variable{C:Ct}{S S':Addr->Prop}{H H':Hp}
mutual
theorem Rep.mv'(m:Mv S H S' H'):∀(u:U) (v:V),Rep C S H u v->Rep C S' H' u v
 |.non,_,h=>h
 |.bl _,_,h=>h
 |.int _,_,h=>h
 |.str _,_,h=>h
 |.tup us,v,h=>by
  obtain⟨a,vs,e,h1,h2⟩:=h;exact⟨a,vs,e,m.sqT h1,ai.mv' m us vs h2⟩
 |.lst us,v,h=>by
  obtain⟨a,vs,e,h1,h2⟩:=h;exact⟨a,vs,e,m.lat h1,ai.mv' m us vs h2⟩
 |.dic ks us,v,h=>by
  obtain⟨a,e,h1,h2⟩:=h;exact⟨a,e,m.sub a h1,h2.mv (fun o q=>m.sam a o h1 q) fun vs q=>ai.mv' m us vs q⟩
 |.rdc ks,v,h=>by
  obtain⟨a,e,h1,h2⟩:=h;exact⟨a,e,m.sub a h1,m.qr (fun o q=>m.sam a o h1 q) h2⟩
theorem ai.mv'(m:Mv S H S' H'):∀(us:List U) (vs:List V),ai C S H us vs->ai C S' H' us vs
 |[],_,h=>h
 |u::us,vs,h=>by
  obtain⟨v,r,e,h1,h2⟩:=h;exact⟨v,r,e,Rep.mv' m u v h1,ai.mv' m us r h2⟩
end
mutual
theorem Rep.rV:∀(u:U) (v:V),imm u=true->Rep C S H u v->Rep C S' H u v
 |.non,_,_,h=>h
 |.bl _,_,_,h=>h
 |.int _,_,_,h=>h
 |.str _,_,_,h=>h
 |.tup us,v,i,h=>by
  obtain⟨a,vs,e,h1,h2⟩:=h;exact⟨a,vs,e,h1,ai.rV us vs (by simpa[TM.imm] using i) h2⟩
 |.lst us,v,i,h=>by simp[TM.imm]at i
 |.dic ks us,v,i,h=>by simp[TM.imm]at i
 |.rdc ks,v,i,h=>by simp[TM.imm]at i
theorem ai.rV:∀(us:List U) (vs:List V),fu us=true->ai C S H us vs->ai C S' H us vs
 |[],_,_,h=>h
 |u::us,vs,i,h=>by
  obtain⟨v,r,e,h1,h2⟩:=h;have i':TM.imm u=true/\fu us=true:=by simpa[fu] using i
  exact⟨v,r,e,Rep.rV u v i'.1 h1,ai.rV us r i'.2 h2⟩
end
theorem Rep.mv(m:Mv S H S' H'){u:U}{v:V}(h:Rep C S H u v):Rep C S' H' u v:=Rep.mv' m u v h
theorem ai.mv(m:Mv S H S' H'){us:List U}{vs:List V}(h:ai C S H us vs):ai C S' H' us vs:=ai.mv' m us vs h
theorem Rep.imm{u:U}{v:V}(i:TM.imm u=true)(h:Rep C S H u v):Rep C S' H u v:=Rep.rV u v i h
theorem ai.imm{us:List U}{vs:List V}(i:fu us=true)(h:ai C S H us vs):ai C S' H us vs:=ai.rV us vs i h
theorem Mv.up(sub:∀a,S a->S' a):Mv S H S' H:=⟨sub,fun _ _ h _=>h,fun _ _ _ h=>h⟩
theorem ai.len:∀{us:List U}{vs:List V},ai C S H us vs->us.length=vs.length
 |[],_,h=>by cases h;rfl
 |u::us,vs,h=>by
  obtain⟨v,r,rfl,_,h2⟩:=h;rw[List.length_cons,List.length_cons,ai.len h2]
theorem ai.get:∀{us:List U}{vs:List V}{i:Nat}{u:U},ai C S H us vs->us[i]?=some u->∃v,vs[i]?=some v/\Rep C S H u v
 |[],_,_,_,_,e=>by simp at e
 |u::us,vs,0,w,h,e=>by
  obtain⟨v,r,rfl,h1,_⟩:=h;simp at e;subst e;exact⟨v,rfl,h1⟩
 |u::us,vs,i+1,w,h,e=>by
  obtain⟨v,r,rfl,_,h2⟩:=h;obtain⟨v',e',h'⟩:=ai.get (i:=i) (u:=w) h2 (by simpa using e);exact⟨v',by simpa using e',h'⟩
theorem ai.append:∀{us ws:List U}{vs ys:List V},ai C S H us vs->ai C S H ws ys->ai C S H (us++ws) (vs++ys)
 |[],_,_,_,h,h'=>by cases h;exact h'
 |u::us,ws,vs,ys,h,h'=>by
  obtain⟨v,r,rfl,h1,h2⟩:=h;exact⟨v,r++ys,rfl,h1,h2.append h'⟩
theorem ai.take:∀{us:List U}{vs:List V} (n:Nat),ai C S H us vs->ai C S H (us.take n) (vs.take n)
 |_,_,0,_=>by simp[ai]
 |[],_,n+1,h=>by cases h;simp[ai]
 |u::us,vs,n+1,h=>by
  obtain⟨v,r,rfl,h1,h2⟩:=h;exact⟨v,r.take n,rfl,h1,h2.take n⟩
theorem ai.drop:∀{us:List U}{vs:List V} (n:Nat),ai C S H us vs->ai C S H (us.drop n) (vs.drop n)
 |_,_,0,h=>h
 |[],_,n+1,h=>by cases h;simp[ai]
 |u::us,vs,n+1,h=>by
  obtain⟨v,r,rfl,h1,h2⟩:=h;exact h2.drop n
theorem ai.set:∀{us:List U}{vs:List V} (n:Nat) {u:U}{v:V},ai C S H us vs->Rep C S H u v->ai C S H (us.set n u) (vs.set n v)
 |[],_,n,_,_,h,_=>by cases h;simp[ai]
 |u::us,vs,0,_,_,h,h'=>by
  obtain⟨v,r,rfl,h1,h2⟩:=h;exact⟨_,r,rfl,h',h2⟩
 |u::us,vs,n+1,_,_,h,h'=>by
  obtain⟨v,r,rfl,h1,h2⟩:=h;exact⟨v,_,rfl,h1,h2.set n h'⟩
theorem ai.snoc{us:List U}{vs:List V}{u:U}{v:V}(h:ai C S H us vs)(h':Rep C S H u v):ai C S H (us++[u]) (vs++[v]):=h.append ⟨v,[],rfl,h',rfl⟩
theorem ai.strs:∀{xs:List Str}{vs:List V},ai C S H (xs.map .str) vs↔vs=xs.map V.str
 |[],vs=>by simp[ai]
 |x::xs,vs=>by
  constructor
  ·rintro⟨v,r,rfl,h1,h2⟩;rw[ai.strs.mp h2];have:v=.str x:=h1;rw[this];rfl
  ·rintro rfl;exact⟨_,_,rfl,rfl,ai.strs.mpr rfl⟩
end
structure Ct.Eqv(C C':Ct):Prop where
 P:C.P=C'.P
 w:C.w=C'.w
 K:C.K=C'.K
section
variable{C C':Ct}{S:Addr->Prop}{H:Hp}
mutual
theorem Rep.cg'(q:C.Eqv C'):∀(u:U) (v:V),Rep C S H u v->Rep C' S H u v
 |.non,_,h=>h
 |.bl _,_,h=>h
 |.int _,_,h=>h
 |.str _,_,h=>h
 |.tup us,v,h=>by
  obtain⟨a,vs,e,h1,h2⟩:=h;exact⟨a,vs,e,q.K▸h1,ai.cg' q us vs h2⟩
 |.lst us,v,h=>by
  obtain⟨a,vs,e,h1,h2⟩:=h;exact⟨a,vs,e,q.K▸h1,ai.cg' q us vs h2⟩
 |.dic ks us,v,h=>by
  obtain⟨a,e,h1,h2⟩:=h;exact⟨a,e,h1,h2.mv (fun _ q=>q) fun vs z=>ai.cg' q us vs z⟩
 |.rdc ks,v,h=>by
  obtain⟨a,e,h1,h2⟩:=h;exact⟨a,e,h1,by rw[<-q.P,<-q.w,<-q.K];exact h2⟩
theorem ai.cg'(q:C.Eqv C'):∀(us:List U) (vs:List V),ai C S H us vs->ai C' S H us vs
 |[],_,h=>h
 |u::us,vs,h=>by
  obtain⟨v,r,e,h1,h2⟩:=h;exact⟨v,r,e,Rep.cg' q u v h1,ai.cg' q us r h2⟩
end
theorem Rep.cg(q:C.Eqv C'){u:U}{v:V}(h:Rep C S H u v):Rep C' S H u v:=Rep.cg' q u v h
theorem ai.cg(q:C.Eqv C'){us:List U}{vs:List V}(h:ai C S H us vs):ai C' S H us vs:=ai.cg' q us vs h
end
noncomputable def cX(C:Ct)(S:Addr->Prop)(H:Hp)(r:Addr):U->Prop
 |.lst us=>∃vs,H r=some (.lst vs)/\ai C S H us vs
 |.dic ks us=>DAt H (ai C S H us) r ks
 |.rdc ks=>d7 C.P C.w C.K H r ks
 |_=>False
theorem cX.mv{C:Ct}{S S':Addr->Prop}{H H':Hp}{r:Addr}{u:U}(m:Mv S H S' H')(hr:∀o,H r=some o->H' r=some o)(h:cX C S H r u):cX C S' H' r u:=by
 cases u with
 |lst us=>obtain⟨vs,h1,h2⟩:=h;exact⟨vs,hr _ h1,h2.mv m⟩
 |dic ks us=>exact DAt.mv hr (fun vs q=>q.mv m) h
 |rdc ks=>exact m.qr hr h
 |non=>exact h
 |bl _=>exact h
 |int _=>exact h
 |str _=>exact h
 |tup _=>exact h
theorem cX.rep{C:Ct}{S S':Addr->Prop}{H:Hp}{r:Addr}{u:U}(hs:∀a,S a->S' a)(hr:S' r)(h:cX C S H r u):Rep C S' H u (.ref r):=by
 cases u with
 |lst us=>obtain⟨vs,h1,h2⟩:=h;exact⟨r,vs,rfl,.inl ⟨hr,.inl h1⟩,h2.mv (.up hs)⟩
 |dic ks us=>exact⟨r,rfl,hr,DAt.mv (fun _ q=>q) (fun vs q=>q.mv (.up hs)) h⟩
 |rdc ks=>exact⟨r,rfl,hr,h⟩
 |non=>exact h.elim
 |bl _=>exact h.elim
 |int _=>exact h.elim
 |str _=>exact h.elim
 |tup _=>exact h.elim
theorem cX.cg{C C':Ct}{S:Addr->Prop}{H:Hp}{r:Addr}(q:C.Eqv C'){u:U}(h:cX C S H r u):cX C' S H r u:=by
 cases u with
 |lst us=>obtain⟨vs,h1,h2⟩:=h;exact⟨vs,h1,h2.cg q⟩
 |dic ks us=>exact DAt.mv (fun _ q=>q) (fun vs z=>z.cg q) h
 |rdc ks=>show d7 _ _ _ _ _ _;rw[<-q.P,<-q.w,<-q.K];exact h
 |non=>exact h
 |bl _=>exact h
 |int _=>exact h
 |str _=>exact h
 |tup _=>exact h
theorem cX.some{C:Ct}{S:Addr->Prop}{H:Hp}{r:Addr}{u:U}(h:cX C S H r u):∃o,H r=some o/\¬Tp o:=by
 cases u with
 |lst us=>obtain⟨vs,h1,_⟩:=h;exact⟨_,h1,fun z=>z⟩
 |dic ks us=>obtain⟨kvs,h1,_⟩:=h;exact⟨_,h1,fun z=>z⟩
 |rdc ks=>obtain⟨xs,h1,_⟩:=h;exact⟨_,h1,fun z=>z⟩
 |non=>exact h.elim
 |bl _=>exact h.elim
 |int _=>exact h.elim
 |str _=>exact h.elim
 |tup _=>exact h.elim
end TM
namespace TM
open PySem L2
structure Cf where
 S:Addr->Prop
 H:Hp
 σ:St
 st:aj
 kid:Nat->List Addr
noncomputable def Cf.R1(c:Cf)(a:Addr):Prop:=∃(j:Nat) (k:Kd) (u:U),k.root=true/\c.st[j]?=some (some (k,u))/\c.σ[j]?=some (some (.ref a))
noncomputable def Cf.RD(c:Cf)(j:Nat)(a:Addr):Prop:=∃(u:U) (r:Addr),c.st[j]?=some (some (.ownD,u))/\c.σ[j]?=some (some (.ref r))/\(a=r\/a∈c.kid j)
noncomputable def Cf.R(c:Cf)(a:Addr):Prop:=c.R1 a\/∃j,c.RD j a
noncomputable def PS(C:Ct)(S:Addr->Prop):Addr->Prop:=fun a=>C.Par a\/S a
noncomputable def eJ(C:Ct)(S:Addr->Prop)(H:Hp):Kd->U->V->Prop
 |.own,u,v=>∃r,v=.ref r/\¬S r/\¬C.Par r/\C.H₀ r=none/\cX C S H r u
 |.io,u,v=>∃r,v=.ref r/\¬S r/\¬C.Par r/\C.IO r/\cX C S H r u
 |.loc,u,v=>Rep C S H u v
 |.any,u,v=>Rep C (PS C S) H u v
 |.bor _,_,_=>False
 |.ownD,_,v=>∃r,v=.ref r
noncomputable def l6(C:Ct)(S:Addr->Prop)(H:Hp):List U->List Addr->Prop
 |[],as=>as=[]
 |u::us,as=>∃a as' ys vs,as=a::as'/\u=.lst ys/\H a=some (.lst vs)/\ai C S H ys vs/\l6 C S H us as'
noncomputable def eL(C:Ct)(S:Addr->Prop)(H:Hp)(r:Addr)(as:List Addr):U->Prop
 |.dic ks us=>∃kvs:List (Key×V),H r=some (.dK kvs)/\kvs.map (·.1)=ks.map Sum.inr/\kvs.map (·.2)=as.map V.ref/\(r::as).Nodup/\(∀a∈r::as,¬S a/\¬C.Par a/\C.H₀ a=none)/\l6 C S H us as
 |_=>False
structure DOk(C:Ct)(c:Cf):Prop where
 kd:∀(j:Nat) (u:U) (r:Addr),c.st[j]?=some (some (.ownD,u))->c.σ[j]?=some (some (.ref r))->eL C c.S c.H r (c.kid j) u
 dj:∀(i j:Nat) (a:Addr),c.RD i a->c.RD j a->i=j
 d1:∀(j:Nat) (a:Addr),c.RD j a->¬c.R1 a
structure Ok(C:Ct)(c:Cf):Prop where
 same:∀a o,C.H₀ a=some o->¬C.IO a->c.H a=some o
 sfr:∀a,c.S a->C.H₀ a=none/\∃o,c.H a=some o
 par:∀a,C.Par a->(∃o,C.H₀ a=some o)/\¬C.IO a
 io:∀a,C.IO a->(∃o,C.H₀ a=some o)/\∃o,c.H a=some o
 len:c.st.length=c.σ.length
 sl:∀(i:Nat) (k:Kd) (u:U),c.st[i]?=some (some (k,u))->∃v,c.σ[i]?=some (some v)/\eJ C c.S c.H k u v
 inj:∀(i j:Nat) (k k':Kd) (u u':U) (r:Addr),k.root=true->k'.root=true->c.st[i]?=some (some (k,u))->c.st[j]?=some (some (k',u'))->c.σ[i]?=some (some (.ref r))->c.σ[j]?=some (some (.ref r))->i=j
 dd:DOk C c
structure Ns(c c':Cf):Prop where
 keep:∀a o,c.H a=some o->¬c.R a->c'.H a=some o
 there:∀a o,c.H a=some o->∃o',c'.H a=some o'
 roots:∀a,c'.R a->c.R a\/c.H a=none
 sub:∀a,c.S a->c'.S a
 new:∀a,c'.S a->c.S a\/c.R a\/c.H a=none
section
variable{C:Ct}{c c' c'' c0 c1:Cf}
theorem Ns.refl(c:Cf):Ns c c:=⟨fun _ _ h _=>h,fun _ o h=>⟨o,h⟩,fun _ h=>.inl h,fun _ h=>h,fun _ h=>.inl h⟩
theorem Ns.none(n:Ns c c'){a:Addr}(h:c'.H a=.none):c.H a=.none:=by
 cases e:c.H a with
 |none=>rfl
 |some o=>obtain⟨o',q⟩:=n.there a o e;rw[h]at q;cases q
theorem Ns.trans(m:Ns c c')(n:Ns c' c''):Ns c c'' where
 keep:=fun a o h hr=>by
  refine n.keep a o (m.keep a o h hr) fun z=>?_;rcases m.roots a z with z|z
  ·exact hr z
  ·rw[h]at z;cases z
 there:=fun a o h=>let ⟨o',h'⟩:=m.there a o h;n.there a o' h'
 roots:=fun a h=>by
  rcases n.roots a h with z|z
  ·exact m.roots a z
  ·exact .inr (m.none z)
 sub:=fun a h=>n.sub a (m.sub a h)
 new:=fun a h=>by
  rcases n.new a h with z|z|z
  ·exact m.new a z
  ·rcases m.roots a z with z|z
   ·exact .inr (.inl z)
   ·exact .inr (.inr z)
  ·exact .inr (.inr (m.none z))
theorem eJ.rt{S:Addr->Prop}{H:Hp}{k:Kd}{u:U}{v:V}(hk:k.root=true)(h:eJ C S H k u v):∃r,v=.ref r/\¬S r/\¬C.Par r/\(C.H₀ r=none\/C.IO r)/\cX C S H r u:=by
 cases k with
 |own=>obtain⟨r,h1,h2,h3,h4,h5⟩:=h;exact⟨r,h1,h2,h3,.inl h4,h5⟩
 |io=>obtain⟨r,h1,h2,h3,h4,h5⟩:=h;exact⟨r,h1,h2,h3,.inr h4,h5⟩
 |_=>cases hk
theorem l6.mem{S:Addr->Prop}{H:Hp}:∀{us:List U}{as:List Addr}{a:Addr},l6 C S H us as->a∈as->∃vs,H a=some (.lst vs)
 |[],as,a,h,ha=>by cases h;cases ha
 |u::us,as,a,h,ha=>by
  obtain⟨a',as',ys,vs,rfl,_,h1,_,h2⟩:=h;rcases List.mem_cons.mp ha with rfl|ha
  ·exact⟨vs,h1⟩
  ·exact l6.mem h2 ha
theorem l6.mv{S S':Addr->Prop}{H H':Hp}(m:Mv S H S' H'):∀{us:List U}{as:List Addr},(∀a∈as,∀o,H a=some o->H' a=some o)->l6 C S H us as->l6 C S' H' us as
 |[],as,_,h=>h
 |u::us,as,hf,h=>by
  obtain⟨a,as',ys,vs,rfl,e,h1,h2,h3⟩:=h;exact⟨a,as',ys,vs,rfl,e,hf a (by simp) _ h1,h2.mv m,l6.mv m (fun a ha=>hf a (by simp[ha])) h3⟩
theorem eL.fr{S:Addr->Prop}{H:Hp}{r:Addr}{as:List Addr}{u:U}(h:eL C S H r as u):∀a∈r::as,¬S a/\¬C.Par a/\C.H₀ a=none:=by
 cases u<;>first|exact h.elim|(obtain⟨kvs,_,_,_,_,h5,_⟩:=h;exact h5)
theorem eL.there{S:Addr->Prop}{H:Hp}{r:Addr}{as:List Addr}{u:U}(h:eL C S H r as u):∀a∈r::as,∃o,H a=some o/\¬Tp o:=by
 cases u<;>first|exact h.elim|skip
 obtain⟨kvs,h1,_,_,_,_,h6⟩:=h;intro a ha;rcases List.mem_cons.mp ha with rfl|ha
 ·exact⟨_,h1,fun z=>z⟩
 ·obtain⟨vs,e⟩:=h6.mem ha;exact⟨_,e,fun z=>z⟩
theorem eL.mv{S S':Addr->Prop}{H H':Hp}{r:Addr}{as:List Addr}{u:U}(m:Mv S H S' H')(hf:∀a∈r::as,¬S' a/\∀o,H a=some o->H' a=some o)(h:eL C S H r as u):eL C S' H' r as u:=by
 cases u<;>first|exact h.elim|skip
 obtain⟨kvs,h1,h2,h3,h4,h5,h6⟩:=h;exact⟨kvs,(hf r (by simp)).2 _ h1,h2,h3,h4,fun a ha=>⟨(hf a ha).1,(h5 a ha).2⟩,h6.mv m fun a ha=>(hf a (by simp[ha])).2⟩
theorem DOk.of(d:DOk C c)(hk:c'.kid=c.kid)(hD:∀(j:Nat) (u:U),c'.st[j]?=some (some (.ownD,u))->c.st[j]?=some (some (.ownD,u))/\c'.σ[j]?=c.σ[j]?)(h1:∀a,c'.R1 a->c.R1 a\/∀j,¬c.RD j a)
  (m:Mv c.S c.H c'.S c'.H) (hf:∀j a,c.RD j a->¬c'.S a/\∀o,c.H a=some o->c'.H a=some o):DOk C c':=by
 have back:∀j a,c'.RD j a->c.RD j a:=fun j a hIx=>by
  obtain⟨u,r,e1,e2,e3⟩:=hIx;obtain⟨q1,q2⟩:=hD j u e1;rw[q2]at e2;rw[hk]at e3;exact⟨u,r,q1,e2,e3⟩
 refine⟨fun j u r e1 e2=>?_,fun i j a z1 z2=>d.dj i j a (back i a z1) (back j a z2),fun j a z1 z2=>?_⟩
 ·obtain⟨q1,q2⟩:=hD j u e1;rw[q2]at e2;rw[hk];exact eL.mv m (fun a ha=>hf j a ⟨u,r,q1,e2,List.mem_cons.mp ha⟩) (d.kd j u r q1 e2)
 ·rcases h1 a z2 with z|z
  ·exact d.d1 j a (back j a z1) z
  ·exact z j (back j a z1)
theorem DOk.hs(d:DOk C c){H':Hp}{S':Addr->Prop}(m:Mv c.S c.H S' H')(hf:∀j a,c.RD j a->¬S' a/\∀o,c.H a=Option.some o->H' a=Option.some o):DOk C {c with H:=H',S:=S' } :=
 d.of rfl (fun _ _ e=>⟨e,rfl⟩) (fun _ z=>.inl z) m hf
theorem Ok.root(ok:Ok C c){r:Addr}(h:c.R r):¬c.S r/\¬C.Par r/\(C.H₀ r=none\/C.IO r)/\∃o,c.H r=some o/\¬Tp o:=by
 rcases h with⟨j,k,u,hk,h1,h2⟩|⟨j,u,r',h1,h2,h3⟩
 ·obtain⟨v,e,hs⟩:=ok.sl j _ _ h1;obtain⟨r',ev,h3,h4,h5,h6⟩:=hs.rt hk;rw[h2]at e;cases e;cases ev;exact⟨h3,h4,h5,h6.some⟩
 ·have hd:=ok.dd.kd j u r' h1 h2;obtain⟨q1,q2,q3⟩:=eL.fr hd r (List.mem_cons.mpr h3);exact⟨q1,q2,.inl q3,eL.there hd r (List.mem_cons.mpr h3)⟩
theorem Ok.mv(ok:Ok C c)(n:Ns c c'):Mv c.S c.H c'.S c'.H:=⟨n.sub,fun a o h t=>n.keep a o h fun z=>by
  obtain⟨_,_,_,o',h',nt⟩:=ok.root z;rw[h]at h';cases h';exact nt t,fun a o s h=>n.keep a o h fun z=>(ok.root z).1 s⟩
theorem Ok.mvP(ok:Ok C c)(n:Ns c c'):Mv (PS C c.S) c.H (PS C c'.S) c'.H:=⟨fun a h=>h.imp id (n.sub a),(ok.mv n).tps,fun a o s h=>n.keep a o h fun z=>by
  rcases s with s|s
  ·exact(ok.root z).2.1 s
  ·exact(ok.root z).1 s⟩
theorem Ok.oZ(ok:Ok C c){p:Addr}(h:c.H p=none):C.H₀ p=none/\¬c.S p/\¬C.Par p/\¬C.IO p/\¬c.R p:=by
 have hio:¬C.IO p:=fun z=>by obtain⟨_,o,q⟩:=ok.io p z;rw[h]at q;cases q
 have h0:C.H₀ p=none:=by
  cases e:C.H₀ p with
  |none=>rfl
  |some o=>have:=ok.same p o e hio;rw[h]at this;cases this
 refine⟨h0,fun z=>?_,fun z=>?_,hio,fun z=>?_⟩
 ·obtain⟨_,o,q⟩:=ok.sfr p z;rw[h]at q;cases q
 ·obtain⟨⟨o,q⟩,_⟩:=ok.par p z;rw[h0]at q;cases q
 ·obtain⟨_,_,_,o,q,_⟩:=ok.root z;rw[h]at q;cases q
theorem eJ.mv{S S':Addr->Prop}{H H':Hp}{k:Kd}{u:U}{v:V}(m:Mv S H S' H')(mp:Mv (PS C S) H (PS C S') H')(hr:k.root=true->∀r,v=.ref r->¬S' r/\∀o,H r=some o->H' r=some o)(h:eJ C S H k u v):eJ C S' H' k u v:=by
 cases k with
 |own =>
  obtain⟨r,e,h1,h2,h3,h4⟩:=h;obtain⟨q1,q2⟩:=hr rfl r e;exact⟨r,e,q1,h2,h3,h4.mv m q2⟩
 |io =>
  obtain⟨r,e,h1,h2,h3,h4⟩:=h;obtain⟨q1,q2⟩:=hr rfl r e;exact⟨r,e,q1,h2,h3,h4.mv m q2⟩
 |loc=>exact Rep.mv m h
 |any=>exact Rep.mv mp h
 |bor j=>exact h.elim
 |ownD=>exact h
structure Nx(c c':Cf):Prop extends Ns c c' where
 all:∀a o,c.H a=some o->c'.H a=some o
noncomputable instance {c c':Cf}:Coe (Nx c c') (Ns c c'):=⟨Nx.toNs⟩
theorem Nx.refl(c:Cf):Nx c c:=⟨.refl c,fun _ _ h=>h⟩
theorem Nx.trans(m:Nx c c')(n:Nx c' c''):Nx c c'':=⟨m.toNs.trans n.toNs,fun a o h=>n.all a o (m.all a o h)⟩
theorem Nx.none(n:Nx c c'){a:Addr}(h:c'.H a=.none):c.H a=.none:=n.toNs.none h
theorem Ok.lay(ok:Ok C c){p:Addr}{o:HO}(h:c.H p=none):Ok C {c with H:=upd c.H p o}/\Nx c {c with H:=upd c.H p o}:=by
 have ne:∀{a:Addr} {o':HO},c.H a=some o'->a≠p:=fun e z=>by subst z;rw[h]at e;cases e
 have kp:∀a o',c.H a=some o'->(upd c.H p o) a=some o':=fun a o' e=>by rw[aG (ne e)];exact e
 have nx:Nx c {c with H:=upd c.H p o}:=⟨⟨fun a o' e _=>kp a o' e,fun a o' e=>⟨o',kp a o' e⟩,fun a z=>.inl z,fun _ z=>z,fun _ z=>.inl z⟩,kp⟩
 refine⟨⟨fun a o' e z=>kp a o' (ok.same a o' e z),fun a z=>⟨(ok.sfr a z).1,let ⟨o',q⟩:=(ok.sfr a z).2;⟨o',kp a o' q⟩⟩,ok.par,fun a z=>⟨(ok.io a z).1,let ⟨o',q⟩:=(ok.io a z).2;⟨o',kp a o' q⟩⟩,ok.len,fun i k u e=>?_,ok.inj,ok.dd.hs (ok.mv nx.toNs) fun j a z=>⟨(ok.root (.inr ⟨j,z⟩)).1,fun o' e=>kp a o' e⟩⟩,nx⟩;obtain⟨v,e1,e2⟩:=ok.sl i k u e;refine⟨v,e1,e2.mv (ok.mv nx.toNs) (ok.mvP nx.toNs) fun hk r er=>?_⟩;obtain⟨r',er',q1,_⟩:=e2.rt hk;rw[er]at er';cases er';exact⟨q1,fun o' e=>kp r o' e⟩
theorem Ok.grow(ok:Ok C c){H':Hp}{S':Addr->Prop}(hs:AE c.H H')(hS:∀a,S' a->c.S a\/(c.H a=none/\∃o,H' a=some o))(hS1:∀a,c.S a->S' a):Ok C {c with H:=H',S:=S' }/\Nx c {c with H:=H',S:=S' }:=by
 have nx:Nx c {c with H:=H',S:=S' }:=⟨⟨fun a o' e _=>hs a o' e,fun a o' e=>⟨o',hs a o' e⟩,fun a z=>.inl z,hS1,fun a z=>(hS a z).imp id fun q=>.inr q.1⟩,hs⟩
 refine⟨⟨fun a o' e z=>hs a o' (ok.same a o' e z),fun a z=>?_,ok.par,fun a z=>⟨(ok.io a z).1,let ⟨o',q⟩:=(ok.io a z).2;⟨o',hs a o' q⟩⟩,ok.len,fun i k u e=>?_,ok.inj,ok.dd.hs (ok.mv nx.toNs) fun j a z=>⟨fun z'=>?_,fun o' e=>hs a o' e⟩⟩,nx⟩
 rotate_left 2
 ·obtain⟨q1,_,_,o,q4,_⟩:=ok.root (.inr ⟨j,z⟩);rcases hS a z' with z'|⟨z',_⟩
  ·exact q1 z'
  ·rw[q4]at z';cases z'
 ·rcases hS a z with q|⟨q1,q2⟩
  ·exact⟨(ok.sfr a q).1,let ⟨o',q⟩:=(ok.sfr a q).2;⟨o',hs a o' q⟩⟩
  ·exact⟨(ok.oZ q1).1,q2⟩
 ·obtain⟨v,e1,e2⟩:=ok.sl i k u e;refine⟨v,e1,e2.mv (ok.mv nx.toNs) (ok.mvP nx.toNs) fun hk r er=>?_⟩;obtain⟨r',er',q1,q2,q3,q4⟩:=e2.rt hk;rw[er]at er';cases er';obtain⟨o,ho,_⟩:=q4.some;refine⟨fun z=>?_,fun o' e=>hs r o' e⟩;rcases hS r z with z|⟨z,_⟩
  ·exact q1 z
  ·rw[z]at ho;cases ho
noncomputable def aI(C:Ct)(c0 c:Cf):Kd->U->V->Prop
 |.own,u,v=>∃r,v=.ref r/\c0.H r=none/\¬c.S r/\¬c.R r/\cX C c.S c.H r u
 |.loc,u,v=>Rep C c.S c.H u v
 |.any,u,v=>Rep C (PS C c.S) c.H u v
 |.bor j,u,v=>(∃k:Kd,k.root=true/\c.st[j]?=some (some (k,u)))/\c.σ[j]?=some (some v)
 |.io,_,_=>False
 |.ownD,_,_=>False
noncomputable def eM(C:Ct)(c0 c:Cf):Kd->U->V->Prop
 |.own,u,v=>∃r,v=.ref r/\c0.H r=none/\¬c.S r/\¬c.R r/\cX C c.S c.H r u
 |.loc,u,v=>Rep C c.S c.H u v
 |.any,u,v=>Rep C (PS C c.S) c.H u v
 |.bor j,u,v=>c.σ[j]?=some (some v)
 |.io,_,_=>False
 |.ownD,_,_=>False
theorem aI.w{k:Kd}{u:U}{v:V}(h:aI C c0 c k u v):eM C c0 c k u v:=by
 cases k with
 |own=>exact h
 |loc=>exact h
 |any=>exact h
 |bor j=>exact h.2
 |io=>exact h
 |ownD=>exact h
theorem eM.on'{k:Kd}{u:U}{v:V}(ok:Ok C c)(n:Ns c c')(hσ:∀j,k=.bor j->c'.σ[j]?=c.σ[j]?)(h:eM C c0 c k u v):eM C c0 c' k u v:=by
 cases k with
 |own =>
  obtain⟨r,e,h1,h2,h3,h4⟩:=h;obtain⟨o,ho,_⟩:=h4.some;refine⟨r,e,h1,fun z=>?_,fun z=>?_,h4.mv (ok.mv n) fun o q=>n.keep r o q h3⟩
  ·rcases n.new r z with z|z|z
   ·exact h2 z
   ·exact h3 z
   ·rw[z]at ho;cases ho
  ·rcases n.roots r z with z|z
   ·exact h3 z
   ·rw[z]at ho;cases ho
 |loc=>exact Rep.mv (ok.mv n) h
 |any=>exact Rep.mv (ok.mvP n) h
 |bor j=>show c'.σ[j]?=_;rw[hσ j rfl];exact h
 |io=>exact h
 |ownD=>exact h
theorem eM.on{k:Kd}{u:U}{v:V}(ok:Ok C c)(n:Ns c c')(hσ:c'.σ=c.σ)(h:eM C c0 c k u v):eM C c0 c' k u v:=h.on' ok n fun j _=>by rw[hσ]
theorem eM.from{k:Kd}{u:U}{v:V}(n:Ns c0 c1)(h:eM C c1 c k u v):eM C c0 c k u v:=by
 cases k with
 |own=>obtain⟨r,e,h1,h2⟩:=h;exact⟨r,e,n.none h1,h2⟩
 |loc=>exact h
 |any=>exact h
 |bor j=>exact h
 |io=>exact h
 |ownD=>exact h
theorem aI.from{k:Kd}{u:U}{v:V}(n:Ns c0 c1)(h:aI C c1 c k u v):aI C c0 c k u v:=by
 cases k with
 |own=>obtain⟨r,e,h1,h2⟩:=h;exact⟨r,e,n.none h1,h2⟩
 |loc=>exact h
 |any=>exact h
 |bor j=>exact h
 |io=>exact h
 |ownD=>exact h
noncomputable def SK(C:Ct)(c:Cf):Kd->Addr->Prop
 |.any=>PS C c.S
 |_=>c.S
noncomputable def kE:Kd->Kd
 |.any=>.any
 |_=>.loc
theorem Ok.rootOf(ok:Ok C c){j:Nat}{u:U}{v:V}(h:∃k:Kd,k.root=true/\c.st[j]?=some (some (k,u)))(e:c.σ[j]?=some (some v)):∃r,v=.ref r/\¬c.S r/\¬C.Par r/\(C.H₀ r=none\/C.IO r)/\cX C c.S c.H r u:=by
 obtain⟨k,hk,h⟩:=h;obtain⟨v',e1,e2⟩:=ok.sl j _ _ h;rw[e]at e1;cases e1;exact e2.rt hk
theorem aI.list{k:Kd}{us:List U}{v:V}(ok:Ok C c)(h:aI C c0 c k (.lst us) v):∃a vs,v=.ref a/\SqL C.K c.H a vs/\ai C (SK C c k) c.H us vs:=by
 cases k with
 |own=>obtain⟨r,e,_,_,_,vs,h1,h2⟩:=h;exact⟨r,vs,e,SqL.of h1,h2⟩
 |loc=>obtain⟨a,vs,e,h1,h2⟩:=h;exact⟨a,vs,e,h1.sq,h2⟩
 |any=>obtain⟨a,vs,e,h1,h2⟩:=h;exact⟨a,vs,e,h1.sq,h2⟩
 |bor j=>obtain⟨r,e,_,_,_,vs,h1,h2⟩:=ok.rootOf h.1 h.2;exact⟨r,vs,e,SqL.of h1,h2⟩
 |io=>exact h.elim
 |ownD=>exact h.elim
theorem aI.tuple{k:Kd}{us:List U}{v:V}(ok:Ok C c)(h:aI C c0 c k (.tup us) v):∃a vs,v=.ref a/\SqT C.K c.H a vs/\ai C (SK C c k) c.H us vs:=by
 cases k with
 |own=>obtain⟨r,e,_,_,_,h⟩:=h;exact h.elim
 |loc=>obtain⟨a,vs,e,h1,h2⟩:=h;exact⟨a,vs,e,h1,h2⟩
 |any=>obtain⟨a,vs,e,h1,h2⟩:=h;exact⟨a,vs,e,h1,h2⟩
 |bor j=>obtain⟨r,e,_,_,_,h⟩:=ok.rootOf h.1 h.2;exact h.elim
 |io=>exact h.elim
 |ownD=>exact h.elim
theorem aI.flat{k:Kd}{u:U}{v:V}(ok:Ok C c)(hu:imm u=true)(h:aI C c0 c k u v):Rep C c.S c.H u v:=by
 cases k with
 |own=>obtain⟨r,e,_,_,_,h⟩:=h;cases u<;>simp[imm]at hu<;>exact h.elim
 |loc=>exact h
 |any=>exact Rep.imm hu h
 |bor j=>obtain⟨r,e,_,_,_,h⟩:=ok.rootOf h.1 h.2;cases u<;>simp[imm]at hu<;>exact h.elim
 |io=>exact h.elim
 |ownD=>exact h.elim
theorem aI.int{k:Kd}{i:Int}{v:V}(ok:Ok C c)(h:aI C c0 c k (.int i) v):v=.int i:=h.flat ok rfl
theorem aI.str{k:Kd}{x:Str}{v:V}(ok:Ok C c)(h:aI C c0 c k (.str x) v):v=.str x:=h.flat ok rfl
theorem aI.bl{k:Kd}{b:Bool}{v:V}(ok:Ok C c)(h:aI C c0 c k (.bl b) v):v=.bl b:=h.flat ok rfl
theorem aI.non{k:Kd}{v:V}(ok:Ok C c)(h:aI C c0 c k .non v):v=.non:=h.flat ok rfl
theorem aI.item{k:Kd}{u:U}{v:V}(h:Rep C (SK C c k) c.H u v):aI C c0 c (kE k) u v:=by
 cases k<;>exact h
noncomputable def Dom(H:Hp):Addr->Prop:=fun a=>∃o,H a=some o
theorem Ok.wH(ok:Ok C c):∀a,c.S a->Dom c.H a:=fun a h=>(ok.sfr a h).2
theorem Ok.BV(ok:Ok C c):∀a,PS C c.S a->Dom c.H a:=fun a h=>by
 rcases h with h|h
 ·obtain⟨⟨o,e⟩,n⟩:=ok.par a h;exact⟨o,ok.same a o e n⟩
 ·exact ok.wH a h
theorem aI.read{k:Kd}{u:U}{v:V}(ok:Ok C c)(h:aI C c0 c k u v):Rep C (Dom c.H) c.H u v:=by
 cases k with
 |own =>
  obtain⟨r,e,_,_,_,h4⟩:=h;rw[e];obtain⟨o,ho,_⟩:=h4.some;exact h4.rep ok.wH ⟨o,ho⟩
 |loc=>exact Rep.mv (.up ok.wH) h
 |any=>exact Rep.mv (.up ok.BV) h
 |bor j =>
  obtain⟨r,e,_,_,_,h4⟩:=ok.rootOf h.1 h.2;rw[e];obtain⟨o,ho,_⟩:=h4.some;exact h4.rep ok.wH ⟨o,ho⟩
 |io=>exact h.elim
 |ownD=>exact h.elim
theorem Ok.newList(ok:Ok C c)(n:Nx c0 c){p:Addr}{us:List U}{vs:List V}(h:c.H p=none)(hr:ai C c.S c.H us vs):
  Ok C {c with H:=upd c.H p (.lst vs)}/\Nx c0 {c with H:=upd c.H p (.lst vs)}/\aI C c0 {c with H:=upd c.H p (.lst vs)} .own (.lst us) (.ref p):=by
 obtain⟨ok',n'⟩:=ok.lay (o:=.lst vs) h;obtain⟨h0,h1,h2,h3,h4⟩:=ok.oZ h;exact⟨ok',n.trans n',p,rfl,n.none h,h1,h4,vs,aS,hr.mv (ok.mv n'.toNs)⟩
theorem Ok.yW(ok:Ok C c)(n:Nx c0 c){p:Addr}{us:List U}{vs:List V}(h:c.H p=none)(hr:ai C c.S c.H us vs):
  Ok C {c with H:=upd c.H p (.tup vs)}/\Nx c0 {c with H:=upd c.H p (.tup vs)}/\aI C c0 {c with H:=upd c.H p (.tup vs)} .loc (.tup us) (.ref p):=by
 obtain⟨ok',n'⟩:=ok.lay (o:=.tup vs) h;exact⟨ok',n.trans n',p,vs,rfl,SqT.of aS,hr.mv (ok.mv n'.toNs)⟩
end
end TM
namespace TM
open PySem L2
inductive Ex(α:Type) where|ok (a:α)|exc (c:Str)
noncomputable def M(α:Type):=aj->Option (Ex α×aj)
namespace M
variable{α β:Type}
noncomputable def pure(a:α):M α:=fun st=>some (.ok a,st)
noncomputable def fail:M α:=fun _=>none
noncomputable def bind(m:M α)(f:α->M β):M β:=fun st=>match m st with
 |none=>none
 |some (.ok a,st')=>f a st'
 |some (.exc c,st')=>some (.exc c,st')
noncomputable def ofO(o:Option α):M α:=fun st=>match o with
 |none=>none
 |some a=>some (.ok a,st)
end M
noncomputable instance:Monad M:={pure:=M.pure,bind:=M.bind}
noncomputable def W{α:Type}(m:M α)(st:aj)(Q:α->aj->Prop):Prop:=∃a st',m st=some (.ok a,st')/\Q a st'
section
variable{α β:Type}{m:M α}{f:α->M β}{st:aj}
theorem ao{a:α}{Q:α->aj->Prop}:W (pure a) st Q↔Q a st:=by
 constructor
 ·rintro⟨b,st',e,h⟩;cases e;exact h
 ·intro h;exact⟨a,st,rfl,h⟩
theorem ah{Q:β->aj->Prop}:W (m >>= f) st Q↔W m st fun a st'=>W (f a) st' Q:=by
 constructor
 ·rintro⟨b,st',e,h⟩;have e':M.bind m f st=some (.ok b,st'):=e;unfold M.bind at e';cases q:m st with
  |none=>rw[q]at e';cases e'
  |some r =>
   obtain⟨r,s1⟩:=r;rw[q]at e';cases r with
   |ok a=>exact⟨a,s1,q,b,st',e',h⟩
   |exc c=>cases e'
 ·rintro⟨a,s1,q,b,st',e,h⟩;refine⟨b,st',?_,h⟩;show M.bind m f st=_;unfold M.bind;rw[q];exact e
theorem cJ{o:Option α}{Q:α->aj->Prop}:W (M.ofO o) st Q↔∃a,o=some a/\Q a st:=by
 cases o with
 |none=>exact⟨fun⟨_,_,e,_⟩=>(by cases e),fun⟨_,e,_⟩=>(by cases e)⟩
 |some a=>exact⟨fun⟨_,_,e,h⟩=>(by cases e;exact⟨a,rfl,h⟩),fun⟨_,e,h⟩=>(by cases e;exact⟨a,st,rfl,h⟩)⟩
theorem aw{Q:α->aj->Prop}:W (M.fail:M α) st Q↔False:=⟨fun⟨_,_,e,_⟩=>(by cases e),False.elim⟩
theorem W.mono{Q Q':α->aj->Prop}(h:W m st Q)(i:∀a s,Q a s->Q' a s):W m st Q':=let ⟨a,s,e,q⟩:=h;⟨a,s,e,i a s q⟩
end
inductive Bop where|add|sub|mul|fdv|mod|pow
deriving DecidableEq
inductive Cop where|eq|ne|lt|le|gt|ge|isin|notin|is|isnt
deriving DecidableEq
inductive Bf where|len|sorted|list|tuple|str|int|repr|max|min|all|any
deriving DecidableEq
inductive B2 where|revT|revL|sset|lM
deriving DecidableEq
inductive Mf where|split|join|partition|endswith
deriving DecidableEq
inductive Ty5 where|str|list|tuple|int|bool
deriving DecidableEq
inductive Ik where|seq|rng1|rng2|enm|zip|rev
deriving DecidableEq
inductive E where
 |var (i:Nat)
 |cst (u:U)
 |glb (x:Str) (u:U)
 |bin (op:Bop) (a b:E)
 |cmp (op:Cop) (a b:E)
 |cmp2 (o1 o2:Cop) (a b c:E)
 |and (es:List E)|or (es:List E)|not (a:E)
 |ite (c a b:E)
 |tup (es:List E)|lst (es:List E)|dnew (r:Bool)
 |idx (a b:E)
 |slc (a:E) (lo hi:List E)
 |bi (f:Bf) (es:List E)
 |bi2 (f:B2) (es:List E)
 |mth (m:Mf) (a:E) (es:List E)
 |call (f:Str) (es:List E)
 |comp (k:Nat) (t:Bool) (ik:Ik) (src:List E) (cond:List E) (e:E)
 |neg (a:E)|bad|isi (a:E) (T:Ty5)|fst (es:List E)|inD (neg:Bool) (a:E) (i:Nat)|pub (i:Nat)|get2 (i:Nat) (k d:E)|sit (i:Nat)|sdf (ln:Bool) (a b:E)
 |frz (a:E)|calA (f:Str) (es:List E)
inductive S where
 |set (i:Nat) (e:E)
 |setT (is:List Nat) (e:E)
 |put (i:Nat) (k v:E)
 |app (i:Nat) (e:E)|ext (i:Nat) (e:E)|bad|newD (i:Nat)|putD (i:Nat) (k v:E)|appD (i:Nat) (k v:E)|aug (sub:Bool) (i:Nat) (k v:E)|rvs (i:Nat)
 |exp (e:E)
 |ret (e:E)|retN
 |ite (c:E) (a b:List S)
 |for_ (t:Bool) (is:List Nat) (ik:Ik) (src:List E) (body:List S)
 |whl (c:E) (body:List S)
 |brk|cnt|pas
noncomputable def isAny:Kd->Bool
 |.any=>true
 |_=>false
noncomputable def eN(k:Kd)(xs:List U):Bool:=!isAny k||fu xs
noncomputable def kT(k k':Kd):Kd:=if isAny k||isAny k' then .any else .loc
noncomputable def cut{α:Type}(xs:List α)(lo hi:Option Int):List α:=(xs.drop (HT.sIx xs.length 0 lo)).take (HT.sIx xs.length xs.length hi - HT.sIx xs.length 0 lo)
noncomputable def rW:Kd×U->Kd×U->Option (Kd×U)
 |(_,.int i),(_,.int j)=>some (.loc,.int (i+j))
 |(_,.str x),(_,.str y)=>if x.length+y.length<=sizeLine then some (.loc,.str (x++y)) else none
 |(k,.lst xs),(k',.lst ys)=>if xs.length+ys.length<=sizeLine/\eN k xs=true/\eN k' ys=true then some (.own,.lst (xs++ys)) else none
 |(k,.tup xs),(k',.tup ys)=>if xs.length+ys.length<=sizeLine then some (kT k k',.tup (xs++ys)) else none
 |_,_=>none
noncomputable def o_(f:Int->Int->Option Int):U->U->Option (Kd×U)
 |.int i,.int j=>(f i j).map fun n=>(.loc,.int n)
 |_,_=>none
noncomputable def wI(i j:Int):Option Int:=if ((-(2 ^ 64)<i/\i<2 ^ 64)\/(-(2 ^ 64)<j/\j<2 ^ 64)) then some (i * j) else none
noncomputable def wJ(i j:Int):Option Int:=if 0<j/\j<1073741824 then some (i / j) else none
noncomputable def wK(i j:Int):Option Int:=if 0<j then some (i % j) else none
noncomputable def wL(i j:Int):Option Int:=if 0<=j/\j<=1000000/\i.natAbs<2 ^ 64 then some (i ^ j.toNat) else none
noncomputable def opU(op:Bop)(x y:Kd×U):Option (Kd×U):=match op with
 |.add=>rW x y
 |.sub=>o_ (fun i j=>some (i - j)) x.2 y.2
 |.mul=>o_ wI x.2 y.2
 |.fdv=>o_ wJ x.2 y.2
 |.mod=>o_ wK x.2 y.2
 |.pow=>o_ wL x.2 y.2
mutual
noncomputable def eqD:Nat->U->Bool
 |_,.dic _ _=>false
 |_,.rdc _=>false
 |0,.tup _=>false
 |0,.lst _=>false
 |n+1,.tup xs=>b9 n xs
 |n+1,.lst xs=>b9 n xs
 |_,.non=>true|_,.bl _=>true|_,.int _=>true|_,.str _=>true
noncomputable def b9:Nat->List U->Bool
 |_,[]=>true
 |n,u::us=>eqD n u&&b9 n us
end
mutual
noncomputable def bj:U->U->Bool
 |.non,.non=>true
 |.bl a,.bl b=>a==b
 |.bl a,.int b=>(if a then 1 else 0)==b
 |.int a,.bl b=>a==(if b then 1 else 0)
 |.int a,.int b=>a==b
 |.str a,.str b=>a==b
 |.tup xs,.tup ys=>bM xs ys
 |.lst xs,.lst ys=>bM xs ys
 |_,_=>false
noncomputable def bM:List U->List U->Bool
 |[],[]=>true
 |u::us,w::ws=>bj u w&&bM us ws
 |_,_=>false
end
noncomputable def inU(x:U)(ys:List U):Option Bool:=if eqD 50 x=true/\b9 50 ys=true then some (ys.any fun y=>bj y x) else none
noncomputable def ltS(x y:Str):Bool:=decide (x.cps.toList<y.cps.toList)
noncomputable def strsOf:List U->Option (List Str)
 |[]=>some []
 |.str x::us=>(strsOf us).map (x::·)
 |_::_=>none
noncomputable def rowOf:U->Option dJ
 |.tup [.str x,.tup ys]=>(strsOf ys).map fun ss=>(x,ss)
 |_=>none
noncomputable def iD:U->U->Option Bool
 |x,.lst ys=>inU x ys
 |x,.tup ys=>inU x ys
 |.str x,.dic ks _=>some (decide (x∈ks))
 |x,.rdc ks=>(rowOf x).map fun r=>decide (r∈ks)
 |_,_=>none
noncomputable def ue:List Str->List U->Str->Option U
 |y::ks,u::us,x=>if y=x then some u else ue ks us x
 |_,_,_=>none
noncomputable def dput(ks:List Str)(us:List U)(x:Str)(u:U):List Str×List U :=
 if x∈ks then(ks,(ks.zip us).map fun p=>if p.1=x then u else p.2) else(ks++[x],us++[u])
noncomputable def kO:U->Bool
 |.non=>true
 |_=>false
noncomputable def bo:Cop->U->U->Option Bool
 |.eq,a,b=>if eqD 50 a=true/\eqD 50 b=true then some (bj a b) else none
 |.ne,a,b=>if eqD 50 a=true/\eqD 50 b=true then some (!bj a b) else none
 |.lt,.int i,.int j=>some (decide (i<j))
 |.gt,.int i,.int j=>some (decide (j<i))
 |.ge,.int i,.int j=>some (decide (j<=i))
 |.ge,.str x,.str y=>some (!ltS x y)
 |.isin,x,y=>iD x y
 |.notin,x,y=>(iD x y).map (!·)
 |.is,x,.non=>some (kO x)
 |.isnt,x,.non=>some (!kO x)
 |.is,.bl x,.bl y=>some (x==y)
 |.isnt,.bl x,.bl y=>some (!(x==y))
 |_,_,_=>none
noncomputable def eO:List U->Option (List Bool)
 |[]=>some []
 |.bl x::us=>(eO us).map (x::·)
 |_::_=>none
noncomputable def gw:Kd×U->U->Option (Kd×U)
 |(k,.lst xs),.int i=>(atI xs i).map fun u=>(kE k,u)
 |(k,.tup xs),.int i=>(atI xs i).map fun u=>(kE k,u)
 |(_,.str x),.int i=>if x.length<=sizeLine then(atI x.cps.toList i).map fun c=>(.loc,.str ⟨#[c]⟩) else none
 |_,_=>none
noncomputable def gU:Kd×U->Option Int->Option Int->Option (Kd×U)
 |(k,.lst xs),lo,hi=>if eN k xs=true then some (.own,.lst (cut xs lo hi)) else none
 |(k,.tup xs),lo,hi=>some (kE k,.tup (cut xs lo hi))
 |(_,.str x),lo,hi=>if x.length<=sizeLine then some (.loc,.str (PySem.StrLaws.sliceText x lo hi)) else none
 |_,_,_=>none
noncomputable def yX:U->Option Nat
 |.lst xs=>some xs.length
 |.tup xs=>some xs.length
 |.str x=>if x.length<=sizeLine then some x.length else none
 |_=>none
noncomputable def fv{β:Type}(f:Kd×U->Option β):List (Kd×U)->Option β
 |[x]=>f x
 |_=>none
noncomputable def kP:List U->Option (List Str)
 |[]=>some []
 |.tup [.str x,.tup _]::us=>(kP us).map (x::·)
 |_::_=>none
noncomputable def wM(k:Kd)(xs:List U):Option (Kd×U):=(kP xs).bind fun ks=>if ks.length<64/\ks.Nodup/\eN k xs=true then some (.own,.lst ((kh ks).map fun i=>xs.getD i .non)) else none
noncomputable def wN(k:Kd)(xs:List U):Option (Kd×U):=match strsOf xs with
 |some ss=>if ss.length<64 then some (.own,.lst ((aH ss).map .str)) else none
 |none=>wM k xs
noncomputable def yY:Kd×U->Option (Kd×U)
 |(k,.lst xs)=>wN k xs
 |(_,.tup xs)=>(strsOf xs).bind fun ss=>if ss.length<64 then some (.own,.lst ((aH ss).map .str)) else none
 |_=>none
noncomputable def yZ:Kd×U->Option (Kd×U)
 |(k,.lst xs)=>if eN k xs=true then some (.own,.lst xs) else none
 |(k,.tup xs)=>if eN k xs=true then some (.own,.lst xs) else none
 |_=>none
noncomputable def y6:Kd×U->Option (Kd×U)
 |(k,.lst xs)=>some (kE k,.tup xs)
 |(k,.tup xs)=>some (kE k,.tup xs)
 |_=>none
noncomputable def wO:Kd×U->Option (Kd×U)
 |(_,.int i)=>if i.natAbs.log2<1920 then some (.loc,.str (toString i)) else none
 |_=>none
noncomputable def y7:Kd×U->Option (Kd×U)
 |(_,.bl b)=>some (.loc,.str (if b then "True" else "False"))
 |_=>none
noncomputable def rX(mn:Bool):List (Kd×U)->Option (Kd×U)
 |[(_,.int i),(_,.int j)]=>some (.loc,.int (if mn=true then(if j<i then j else i) else(if j>i then j else i)))
 |_=>none
noncomputable def y8:Kd×U->Option (Kd×U)
 |(_,.lst xs)=>(eO xs).map fun bs=>(.loc,.bl (bs.all id))
 |_=>none
noncomputable def y9:Kd×U->Option (Kd×U)
 |(_,.lst xs)=>(eO xs).map fun bs=>(.loc,.bl (bs.any id))
 |_=>none
noncomputable def biU(f:Bf)(rs:List (Kd×U)):Option (Kd×U):=match f with
 |.len=>fv (fun x=>(yX x.2).map fun(n:Nat)=>(Kd.loc,U.int (n:Int))) rs
 |.sorted=>fv yY rs
 |.list=>fv yZ rs
 |.tuple=>fv y6 rs
 |.str=>fv wO rs
 |.repr=>fv y7 rs
 |.max=>rX false rs
 |.min=>rX true rs
 |.all=>fv y8 rs
 |.any=>fv y9 rs
 |_=>none
noncomputable def fw:U->Option (List Str)
 |.lst xs=>(strsOf xs).bind fun ss=>if ss.length+1<scanBound then some (ak ss) else none
 |.tup xs=>(strsOf xs).bind fun ss=>if ss.length+1<scanBound then some (ak ss) else none
 |_=>none
noncomputable def pd(f:B2)(rs:List (Kd×U)):Option (Kd×U):=match f with
 |.sset=>fv (fun x=>(fw x.2).bind fun ss=>if ss.length<64 then some (.own,.lst ((aH ss).map .str)) else none) rs
 |.lM=>fv (fun x=>(fw x.2).map fun ss=>(.loc,.int ss.length)) rs
 |_=>none
noncomputable def iE:Mf->U->List (Kd×U)->Option (Kd×U)
 |.split,.str a,[(_,.str b)]=>if (b.length==0)=false/\a.length+2<=sizeLine then some (.own,.lst ((Txt.split a b).map .str)) else none
 |.join,.str a,[(_,.lst xs)]=>(strsOf xs).bind fun ss=>if JoinOk a ss=true then some (.loc,.str (Txt.join a ss)) else none
 |_,_,_=>none
noncomputable def BW:Kd×U->Option (List (Kd×U))
 |(k,.lst xs)=>some (xs.map fun u=>(kE k,u))
 |(k,.tup xs)=>some (xs.map fun u=>(kE k,u))
 |_=>none
noncomputable def rY:Kd×U->Option (List (Kd×U))
 |(_,.int n)=>if n<2 ^ 62/\-(2 ^ 62)<n then some ((List.range n.toNat).map fun i:Nat=>(Kd.loc,U.int (0+(i:Int)))) else none
 |_=>none
noncomputable def y_:Kd×U->Option (List (Kd×U))
 |(k,.lst xs)=>some (xs.zipIdx.map fun p=>(kE k,.tup [.int p.2,p.1]))
 |(k,.tup xs)=>some (xs.zipIdx.map fun p=>(kE k,.tup [.int p.2,p.1]))
 |_=>none
noncomputable def za:List (Kd×U)->Option (List (Kd×U))
 |[(k,.lst xs),(k',.tup ys)]=>some ((xs.zip ys).map fun p=>(kT k k',.tup [p.1,p.2]))
 |_=>none
noncomputable def itU(ik:Ik)(rs:List (Kd×U)):Option (List (Kd×U)):=match ik with
 |.seq=>fv BW rs
 |.rng1=>fv rY rs
 |.enm=>fv y_ rs
 |.zip=>za rs
 |_=>none
noncomputable def wQ(ln:Bool)(d1 d2:List Str):Option (Kd×U):=if d1.length<64/\d2.length<64 then some (if ln=true then(.loc,.int ((d1.filter fun x=>decide (x∉d2)).length:Nat)) else(.own,.lst ((aH (d1.filter fun x=>decide (x∉d2))).map .str))) else none
noncomputable def kl:U->Option Bool
 |.bl b=>some b
 |.lst xs=>some !xs.isEmpty
 |.tup xs=>some !xs.isEmpty
 |.str x=>if x.length<=sizeLine then some ((x.length:Int) != 0) else none
 |_=>none
noncomputable def lift:Kd×U->M U
 |(.own,u)=>pure u
 |(.loc,u)=>pure u
 |(.any,u)=>if imm u=true then pure u else M.fail
 |(.bor j,_)=>fun st=>match st[j]? with
  |some (some (.own,u))=>some (.ok u,st.set j (some (.loc,u)))
  |_=>none
 |(.io,_)=>M.fail
 |(.ownD,_)=>M.fail
noncomputable def cK:List (Kd×U)->M (List U)
 |[]=>pure []
 |r::rs=>do let u <-lift r;let us <-cK rs;pure (u::us)
noncomputable def dz(i:Nat):Kd×U->M Unit
 |(.bor j,_)=>fun st=>match st[j]? with
  |some (some (.own,u))=>some (.ok (),(st.set j (some (.loc,u))).set i (some (.loc,u)))
  |_=>none
 |(.io,_)=>M.fail
 |(.ownD,_)=>M.fail
 |(k,u)=>fun st=>some (.ok (),st.set i (some (k,u)))
noncomputable def aZ:List (Kd×U)->aj->Prop
 |[],_=>True
 |(.bor j,u)::rs,st=>(∃k:Kd,k.root=true/\st[j]?=some (some (k,u)))/\aZ rs st
 |_::rs,st=>aZ rs st
open Classical in
noncomputable def ay(rs:List (Kd×U)):M Unit:=fun st=>if aZ rs st then some (.ok (),st) else none
noncomputable abbrev Tab:=Str->List U->Option (Ex (Kd×U))
noncomputable def js(Γ:Tab)(f:Str)(us:List U):M (Kd×U):=fun st=>match Γ f us with
 |some (.ok (.any,_))=>none
 |none=>none
 |some r=>some (r,st)
noncomputable def nG(Γ:Tab)(f:Str)(rs:List (Kd×U)):M (Kd×U):=fun st=>if rs.all (fun r=>decide (r.1=.loc)||decide (r.1=.any))=true then match Γ f (rs.map (·.2)) with
 |none=>none
 |some r=>some (r,st)
 else none
noncomputable def fR(i:Nat):M (Kd×U):=fun st=>match st[i]? with
 |some (some (.ownD,_))=>none
 |some (some (k,u))=>some (.ok (if k.root=true then .bor i else k,u),st)
 |_=>none
noncomputable def sets:List Nat->List (Kd×U)->M Unit
 |[],[]=>pure ()
 |i::is,r::rs=>do dz i r;sets is rs
 |_,_=>M.fail
noncomputable def cy(t:Bool)(is:List Nat)(r:Kd×U):M Unit:=match t,is,r with
 |false,[i],r=>dz i r
 |true,is,(k,.tup xs)=>sets is (xs.map fun u=>(kE k,u))
 |_,_,_=>M.fail
noncomputable def inScope{α:Type}(k:Nat)(m:M α):M α:=fun st=>match m (List.replicate k none++st) with
 |none=>none
 |some (r,st')=>some (r,st'.drop k)
noncomputable def bC(k:Nat)(t:Bool)(cond:M Bool)(elt:M (Kd×U))(src:List (Kd×U)):List (Kd×U)->List U->M (List U)
 |[],acc=>do ay src;pure acc
 |x::xs,acc=>do
  ay src
  let r <-inScope k (cy t (List.range k) x >>= fun _=>cond >>= fun b=>if b=true then(elt >>= fun r=>lift r >>= fun u=>pure (some u)) else pure none)
  match r with
  |some u=>if acc.length<sizeLine then bC k t cond elt src xs (acc++[u]) else M.fail
  |none=>bC k t cond elt src xs acc
noncomputable def BX:Kd×U->Option (Kd×U)
 |(_,.int i)=>some (.loc,.int (-i))
 |_=>none
noncomputable def zb(x:Kd×U):M (Option Int):=match x.2 with
 |.int i=>pure (some i)
 |_=>M.fail
section
variable(Γ:Tab)
mutual
noncomputable def ev:E->M (Kd×U)
 |.var i=>fR i
 |.cst u=>pure (.loc,u)
 |.glb _ u=>pure (.loc,u)
 |.bin op a b=>do
  let x <-ev a
  let y <-ev b
  ay [x,y]
  M.ofO (opU op x y)
 |.cmp op a b=>do
  let x <-ev a
  let y <-ev b
  ay [x,y]
  let c <-M.ofO (bo op x.2 y.2)
  pure (.loc,.bl c)
 |.cmp2 o1 o2 a b c=>do
  let x <-ev a
  let y <-ev b
  ay [x,y]
  let p <-M.ofO (bo o1 x.2 y.2)
  if p=true then do
   let z <-ev c
   ay [y,z]
   let q <-M.ofO (bo o2 y.2 z.2)
   pure (.loc,.bl q)
  else pure (.loc,.bl false)
 |.and es=>gx es
 |.or es=>zc es
 |.not a=>do
  let x <-ev a
  match x.2 with
  |.bl c=>pure (.loc,.bl !c)
  |_=>M.fail
 |.ite c a b=>do
  let p <-tst c
  if p=true then ev a else ev b
 |.tup es=>do
  let rs <-bB es
  ay rs
  let us <-cK rs
  if us.length<=sizeLine then pure (.loc,.tup us) else M.fail
 |.lst es=>do
  let rs <-bB es
  ay rs
  let us <-cK rs
  if us.length<=sizeLine then pure (.own,.lst us) else M.fail
 |.dnew r=>pure (.own,if r=true then .rdc [] else .dic [] [])
 |.idx a b=>do
  let x <-ev a
  let y <-ev b
  ay [x,y]
  M.ofO (gw x y.2)
 |.slc a lo hi=>do
  let x <-ev a
  let l <-evO lo
  let h <-evO hi
  ay [x]
  M.ofO (gU x l h)
 |.bi f es=>do
  let rs <-bB es
  ay rs
  M.ofO (biU f rs)
 |.bi2 f es=>do
  let rs <-bB es
  ay rs
  M.ofO (pd f rs)
 |.mth m a es=>do
  let x <-ev a
  let rs <-bB es
  ay (x::rs)
  M.ofO (iE m x.2 rs)
 |.call f es=>do
  let rs <-bB es
  ay rs
  js Γ f (rs.map (·.2))
 |.comp k t ik src cond e=>do
  let rs <-bB src
  ay rs
  let xs <-M.ofO (itU ik rs)
  let us <-bC k t (aM cond) (ev e) rs xs []
  pure (.own,.lst us)
 |.neg a=>do
  let x <-ev a
  M.ofO (BX x)
 |.bad=>M.fail
 |.sit _=>M.fail
 |.inD _ _ _=>M.fail
 |.pub _=>M.fail
 |.get2 _ _ _=>M.fail
 |.frz a=>do
  let r <-ev a
  let u <-lift r
  pure (.loc,u)
 |.calA f es=>do
  let rs <-bB es
  ay rs
  nG Γ f rs
 |.sdf ln a b=>do
  let x <-ev a
  let d1 <-M.ofO (fw x.2)
  let y <-ev b
  let d2 <-M.ofO (fw y.2)
  M.ofO (wQ ln d1 d2)
 |.fst es=>M.fail
 |.isi a T=>M.fail
noncomputable def bB:List E->M (List (Kd×U))
 |[]=>pure []
 |e::es=>do let r <-ev e;let rs <-bB es;pure (r::rs)
noncomputable def evO:List E->M (Option Int)
 |[]=>pure none
 |[e]=>do let x <-ev e;zb x
 |_=>M.fail
noncomputable def gx:List E->M (Kd×U)
 |[]=>M.fail
 |[e]=>ev e
 |e::es=>do
  let x <-ev e
  match x.2 with
  |.bl true=>gx es
  |.bl false=>pure (.loc,.bl false)
  |_=>M.fail
noncomputable def zc:List E->M (Kd×U)
 |[]=>M.fail
 |[e]=>ev e
 |e::es=>do
  let x <-ev e
  match x.2 with
  |.bl true=>pure (.loc,.bl true)
  |.bl false=>zc es
  |_=>M.fail
noncomputable def tst:E->M Bool
 |.and es=>aM es
 |.or es=>eQ es
 |.not a=>do let b <-tst a;pure !b
 |.cmp op a b=>do
  let x <-ev a
  let y <-ev b
  ay [x,y]
  M.ofO (bo op x.2 y.2)
 |.var i=>do let x <-fR i;M.ofO (kl x.2)
 |.cst u=>M.ofO (kl u)
 |.idx a b=>do
  let x <-ev a
  let y <-ev b
  ay [x,y]
  let r <-M.ofO (gw x y.2)
  M.ofO (kl r.2)
 |.bi2 f es=>do
  let rs <-bB es
  ay rs
  let r <-M.ofO (pd f rs)
  M.ofO (kl r.2)
 |.bi f es=>do
  let rs <-bB es
  ay rs
  let r <-M.ofO (biU f rs)
  M.ofO (kl r.2)
 |.mth m a es=>do
  let x <-ev a
  let rs <-bB es
  ay (x::rs)
  let r <-M.ofO (iE m x.2 rs)
  M.ofO (kl r.2)
 |.call f es=>do
  let rs <-bB es
  ay rs
  let r <-js Γ f (rs.map (·.2))
  M.ofO (kl r.2)
 |.cmp2 o1 o2 a b c=>do
  let x <-ev a
  let y <-ev b
  ay [x,y]
  let p <-M.ofO (bo o1 x.2 y.2)
  if p=true then do
   let z <-ev c
   ay [y,z]
   M.ofO (bo o2 y.2 z.2)
  else pure false
 |_=>M.fail
noncomputable def aM:List E->M Bool
 |[]=>pure true
 |[e]=>tst e
 |e::es=>do let b <-tst e;if b=true then aM es else pure false
noncomputable def eQ:List E->M Bool
 |[]=>pure false
 |[e]=>tst e
 |e::es=>do let b <-tst e;if b=true then pure true else eQ es
end
inductive Fl where|nx|rt (k:Kd) (u:U)|bk|ct
noncomputable def retS:Kd×U->M Fl
 |(.own,u)=>pure (.rt .own u)
 |(.loc,u)=>pure (.rt .loc u)
 |(.any,u)=>if imm u=true then pure (.rt .loc u) else pure (.rt .any u)
 |(.bor j,_)=>fun st=>match st[j]? with
  |some (some (.own,u))=>some (.ok (.rt .own u),st.set j none)
  |_=>none
 |(.io,_)=>M.fail
 |(.ownD,_)=>M.fail
noncomputable def forM(t:Bool)(is:List Nat)(body:M Fl)(src:List (Kd×U)):List (Kd×U)->M Fl
 |[]=>do ay src;pure .nx
 |x::xs=>do
  ay src
  cy t is x
  let f <-body
  match f with
  |.nx=>forM t is body src xs
  |.ct=>forM t is body src xs
  |.bk=>pure .nx
  |.rt k u=>pure (.rt k u)
noncomputable def gy(c:M Bool)(body:M Fl):Nat->M Fl
 |0=>M.fail
 |n+1=>do
  let b <-c
  if b=true then do
   let f <-body
   match f with
   |.nx=>gy c body n
   |.ct=>gy c body n
   |.bk=>pure .nx
   |.rt k u=>pure (.rt k u)
  else pure .nx
noncomputable def modS(i:Nat)(f:U->Option U):M Unit:=fun st=>match st[i]? with
 |some (some (k,u))=>if k.root=true then match f u with
   |some u'=>some (.ok (),st.set i (some (k,u')))
   |none=>none
  else none
 |_=>none
noncomputable def uf(u:U):U->Option U
 |.lst xs=>if xs.length<sizeLine then some (.lst (xs++[u])) else none
 |_=>none
noncomputable def km:Kd×U->U->Option U
 |(k,.lst ys),.lst xs=>if xs.length+ys.length<=sizeLine/\eN k ys=true then some (.lst (xs++ys)) else none
 |(k,.tup ys),.lst xs=>if xs.length+ys.length<=sizeLine/\eN k ys=true then some (.lst (xs++ys)) else none
 |_,_=>none
noncomputable def jt(x u:U):U->Option U
 |.dic ks vs=>match x with
  |.str y=>if ks.length<sizeLine then some (.dic (dput ks vs y u).1 (dput ks vs y u).2) else none
  |_=>none
 |.rdc ks=>match rowOf x,u with
  |some r,.bl true=>if r∉ks/\ks.length<=1000 then some (.rdc (ks++[r])) else none
  |_,_=>none
 |.lst xs=>match x with
  |.int i=>(ixN xs.length i).map fun j=>.lst (xs.set j u)
  |_=>none
 |_=>none
noncomputable def qt:List U->U->Option U
 |[u,x]=>jt x u
 |_=>fun _=>none
noncomputable def isL:U->M Unit
 |.lst _=>pure ()
 |_=>M.fail
noncomputable def fuel:Nat:=100000
mutual
noncomputable def nsS:S->Nat->Bool
 |.set i _,j=>decide (j≠i)
 |.setT is _,j=>decide (j∉is)
 |.ite _ a b,j=>nsL a j&&nsL b j
 |.for_ _ is _ _ body,j=>decide (j∉is)&&nsL body j
 |.whl _ body,j=>nsL body j
 |.put _ _ _,_=>true
 |.app _ _,_=>true
 |.ext _ _,_=>true
 |.bad,_=>true
 |.newD i,j=>decide (j≠i)
 |.putD _ _ _,_=>true
 |.appD _ _ _,_=>true
 |.aug _ _ _ _,_=>true
 |.rvs _,_=>true
 |.exp _,_=>true
 |.ret _,_=>true
 |.retN,_=>true
 |.brk,_=>true
 |.cnt,_=>true
 |.pas,_=>true
noncomputable def nsL:List S->Nat->Bool
 |[],_=>true
 |s::ss,j=>nsS s j&&nsL ss j
end
noncomputable def nI(rs:List (Kd×U))(is:List Nat)(body:List S):Bool:=rs.all fun r=>match r.1 with
 |.bor j=>decide (j∉is)&&nsL body j
 |_=>true
mutual
noncomputable def exec:S->M Fl
 |.set i e=>do let r <-ev Γ e;dz i r;pure .nx
 |.setT is e=>do let r <-ev Γ e;cy true is r;pure .nx
 |.put i k v=>do
  let r <-ev Γ v
  let _ <-fR i
  let x <-ev Γ k
  let us <-cK [r,x]
  modS i (qt us)
  pure .nx
 |.app i e=>do
  let x <-fR i
  isL x.2
  let r <-ev Γ e
  let u <-lift r
  modS i (uf u)
  pure .nx
 |.ext i e=>do
  let x <-fR i
  isL x.2
  let r <-ev Γ e
  modS i (km r)
  pure .nx
 |.bad=>M.fail
 |.newD _=>M.fail
 |.putD _ _ _=>M.fail
 |.appD _ _ _=>M.fail
 |.aug _ _ _ _=>M.fail
 |.rvs _=>M.fail
 |.exp e=>do let _ <-ev Γ e;pure .nx
 |.ret e=>do let r <-ev Γ e;retS r
 |.retN=>pure (.rt .loc .non)
 |.ite c a b=>do let p <-tst Γ c;if p=true then execs a else execs b
 |.for_ t is ik src body=>do
  let rs <-bB Γ src
  ay rs
  let xs <-M.ofO (itU ik rs)
  if nI rs is body=true then forM t is (execs body) rs xs else M.fail
 |.whl c body=>gy (tst Γ c) (execs body) fuel
 |.brk=>pure .bk
 |.cnt=>pure .ct
 |.pas=>pure .nx
noncomputable def execs:List S->M Fl
 |[]=>pure .nx
 |s::ss=>do
  let f <-exec s
  match f with
  |.nx=>execs ss
  |f=>pure f
end
end
structure Fn where
 name:Str
 np:Nat
 ns:Nat
 body:List S
noncomputable def start(us:List U)(n:Nat):aj:=us.map (fun u=>some (if imm u=true then Kd.loc else Kd.any,u))++List.replicate (n - us.length) none
noncomputable def bO(Γ:Tab)(fn:Fn)(us:List U):Option (Ex (Kd×U)):=if us.length=fn.np then match execs Γ fn.body (start us fn.ns) with
  |some (.ok (.rt .own u),_)=>some (.ok (.own,u))
  |some (.ok (.rt .loc u),_)=>some (.ok (.loc,u))
  |some (.ok (.rt .any u),_)=>some (.ok (.any,u))
  |some (.ok .nx,_)=>some (.ok (.loc,.non))
  |some (.exc c,_)=>some (.exc c)
  |_=>none
 else none
noncomputable def sem(P:List Fn):Nat->Tab
 |0=>fun _ _=>none
 |d+1=>fun f us=>match P.find? fun fn=>decide (fn.name=f) with
  |some fn=>bO (sem P d) fn us
  |none=>none
end TM
namespace TM
open PySem L2
section
variable{X:Cx}{pins:List (Addr×Obj)}{σ:St}{H:Hp}{s:Shared}{C:Ct}{S:Addr->Prop}
theorem qu(I:Inv X pins σ H s){a:Addr}{vs:List V}(h:SqL X.K H a vs):∃its:List Value,Vals vs its/\s.heap.IsList a its.toArray/\vs.length<=sizeLine:=by
 obtain⟨its,r,p,z⟩:=I.list h;exact⟨its,r,p.isList,z⟩
theorem aO(I:Inv X pins σ H s)(hK:C.K=X.K){a:Addr}{vs:List V}(h:LAt C.K S H a vs):∃its:List Value,Vals vs its/\s.heap.IsList a its.toArray/\vs.length<=sizeLine:=qu I (hK▸h.sq)
theorem qv(I:Inv X pins σ H s)(hK:C.K=X.K){a:Addr}{vs ws:List V}(h:LAt C.K S H a vs)(h':LAt C.K S H a ws):vs=ws:=I.fZ (hK▸h.sq) (hK▸h'.sq)
theorem gz(I:Inv X pins σ H s)(hK:C.K=X.K){a:Addr}{vs ws:List V}(h:LAt C.K S H a vs)(h':SqT C.K H a ws):False:=by
 obtain⟨its,_,p,_⟩:=aO I hK h;rw[hK]at h';obtain⟨its',_,p',_⟩:=I.tuple h';exact SeqAt.ne_of_list_tuple p p' rfl
mutual
theorem pe(I:Inv X pins σ H s)(hK:C.K=X.K):∀(u w:U) (v:V) (n:Nat),eqD n u=true->eqD n w=true->Rep C S H u v->Rep C S H w v->bj u w=true
 |.non,w,v,n,_,h2,h3,h4=>by
  cases w<;>first|rfl|(simp only[Rep]at h3 h4;subst h3;first|(cases h4;done)|(obtain⟨a,vs,e,_⟩:=h4;cases e;done))|(cases n<;>simp[eqD]at h2)
 |.bl b,w,v,n,_,h2,h3,h4=>by
  cases w<;>first|(simp only[Rep]at h3 h4;subst h3;first|(cases h4;done)|(cases h4;simp[bj];done)|(obtain⟨a,vs,e,_⟩:=h4;cases e;done))|(cases n<;>simp[eqD]at h2)
 |.int b,w,v,n,_,h2,h3,h4=>by
  cases w<;>first|(simp only[Rep]at h3 h4;subst h3;first|(cases h4;done)|(cases h4;simp[bj];done)|(obtain⟨a,vs,e,_⟩:=h4;cases e;done))|(cases n<;>simp[eqD]at h2)
 |.str b,w,v,n,_,h2,h3,h4=>by
  cases w<;>first|(simp only[Rep]at h3 h4;subst h3;first|(cases h4;done)|(cases h4;simp[bj];done)|(obtain⟨a,vs,e,_⟩:=h4;cases e;done))|(cases n<;>simp[eqD]at h2)
 |.tup us,w,v,n,h1,h2,h3,h4=>by
  obtain⟨a,vs,rfl,q1,q2⟩:=h3;cases n with
  |zero=>simp[eqD]at h1
  |succ n =>
   cases w with
   |tup ws =>
    obtain⟨a',vs',e,q3,q4⟩:=h4;cases e;rw[hK]at q1 q3;have:=I.dn q1 q3;subst this;simp only[eqD]at h1 h2;exact l7 I hK us ws vs n h1 h2 q2 q4
   |lst ws =>
    obtain⟨a',vs',e,q3,q4⟩:=h4;cases e;exact(gz I hK q3 q1).elim
   |dic=>simp[eqD]at h2
   |rdc=>simp[eqD]at h2
   |_=>simp only[Rep]at h4;cases h4
 |.lst us,w,v,n,h1,h2,h3,h4=>by
  obtain⟨a,vs,rfl,q1,q2⟩:=h3;cases n with
  |zero=>simp[eqD]at h1
  |succ n =>
   cases w with
   |lst ws =>
    obtain⟨a',vs',e,q3,q4⟩:=h4;cases e;have:=qv I hK q1 q3;subst this;simp only[eqD]at h1 h2;exact l7 I hK us ws vs n h1 h2 q2 q4
   |tup ws =>
    obtain⟨a',vs',e,q3,q4⟩:=h4;cases e;exact(gz I hK q1 q3).elim
   |dic=>simp[eqD]at h2
   |rdc=>simp[eqD]at h2
   |_=>simp only[Rep]at h4;cases h4
 |.dic _ _,_,_,n,h,_,_,_=>by cases n<;>simp[eqD]at h
 |.rdc _,_,_,n,h,_,_,_=>by cases n<;>simp[eqD]at h
theorem l7(I:Inv X pins σ H s)(hK:C.K=X.K):∀(us ws:List U) (vs:List V) (n:Nat),b9 n us=true->b9 n ws=true->ai C S H us vs->ai C S H ws vs->bM us ws=true
 |[],[],_,_,_,_,_,_=>rfl
 |[],w::ws,vs,n,_,_,h3,h4=>by
  obtain⟨v,r,e,_⟩:=h4;simp only[ai]at h3;rw[h3]at e;cases e
 |u::us,[],vs,n,_,_,h3,h4=>by
  obtain⟨v,r,e,_⟩:=h3;simp only[ai]at h4;rw[h4]at e;cases e
 |u::us,w::ws,vs,n,h1,h2,h3,h4=>by
  obtain⟨v,r,rfl,q1,q2⟩:=h3;obtain⟨v',r',e,q3,q4⟩:=h4;cases e;simp only[b9,Bool.and_eq_true]at h1 h2;simp only[bM,Bool.and_eq_true];exact⟨pe I hK u w v n h1.1 h2.1 q1 q3,l7 I hK us ws r n h1.2 h2.2 q2 q4⟩
end
mutual
theorem qw(I:Inv X pins σ H s)(hK:C.K=X.K):∀(u w:U) (v:V) (n:Nat),eqD n u=true->eqD n w=true->Rep C S H u v->Rep C S H w v->u=w
 |.non,w,v,n,_,h2,h3,h4=>by
  cases w<;>first|rfl|(simp only[Rep]at h3 h4;subst h3;first|(cases h4;done)|(obtain⟨a,vs,e,_⟩:=h4;cases e;done))|(cases n<;>simp[eqD]at h2)
 |.bl b,w,v,n,_,h2,h3,h4=>by
  cases w<;>first|(simp only[Rep]at h3 h4;subst h3;first|(cases h4;done)|(cases h4;rfl;done)|(obtain⟨a,vs,e,_⟩:=h4;cases e;done))|(cases n<;>simp[eqD]at h2)
 |.int b,w,v,n,_,h2,h3,h4=>by
  cases w<;>first|(simp only[Rep]at h3 h4;subst h3;first|(cases h4;done)|(cases h4;rfl;done)|(obtain⟨a,vs,e,_⟩:=h4;cases e;done))|(cases n<;>simp[eqD]at h2)
 |.str b,w,v,n,_,h2,h3,h4=>by
  cases w<;>first|(simp only[Rep]at h3 h4;subst h3;first|(cases h4;done)|(cases h4;rfl;done)|(obtain⟨a,vs,e,_⟩:=h4;cases e;done))|(cases n<;>simp[eqD]at h2)
 |.tup us,w,v,n,h1,h2,h3,h4=>by
  obtain⟨a,vs,rfl,q1,q2⟩:=h3;cases n with
  |zero=>simp[eqD]at h1
  |succ n =>
   cases w with
   |tup ws =>
    obtain⟨a',vs',e,q3,q4⟩:=h4;cases e;rw[hK]at q1 q3;have:=I.dn q1 q3;subst this;simp only[eqD]at h1 h2;rw[ju I hK us ws vs n h1 h2 q2 q4]
   |lst ws =>
    obtain⟨a',vs',e,q3,q4⟩:=h4;cases e;exact(gz I hK q3 q1).elim
   |dic=>simp[eqD]at h2
   |rdc=>simp[eqD]at h2
   |_=>simp only[Rep]at h4;cases h4
 |.lst us,w,v,n,h1,h2,h3,h4=>by
  obtain⟨a,vs,rfl,q1,q2⟩:=h3;cases n with
  |zero=>simp[eqD]at h1
  |succ n =>
   cases w with
   |lst ws =>
    obtain⟨a',vs',e,q3,q4⟩:=h4;cases e;have:=qv I hK q1 q3;subst this;simp only[eqD]at h1 h2;rw[ju I hK us ws vs n h1 h2 q2 q4]
   |tup ws =>
    obtain⟨a',vs',e,q3,q4⟩:=h4;cases e;exact(gz I hK q1 q3).elim
   |dic=>simp[eqD]at h2
   |rdc=>simp[eqD]at h2
   |_=>simp only[Rep]at h4;cases h4
 |.dic _ _,_,_,n,h,_,_,_=>by cases n<;>simp[eqD]at h
 |.rdc _,_,_,n,h,_,_,_=>by cases n<;>simp[eqD]at h
theorem ju(I:Inv X pins σ H s)(hK:C.K=X.K):∀(us ws:List U) (vs:List V) (n:Nat),b9 n us=true->b9 n ws=true->ai C S H us vs->ai C S H ws vs->us=ws
 |[],[],_,_,_,_,_,_=>rfl
 |[],w::ws,vs,n,_,_,h3,h4=>by
  obtain⟨v,r,e,_⟩:=h4;simp only[ai]at h3;rw[h3]at e;cases e
 |u::us,[],vs,n,_,_,h3,h4=>by
  obtain⟨v,r,e,_⟩:=h3;simp only[ai]at h4;rw[h4]at e;cases e
 |u::us,w::ws,vs,n,h1,h2,h3,h4=>by
  obtain⟨v,r,rfl,q1,q2⟩:=h3;obtain⟨v',r',e,q3,q4⟩:=h4;cases e;simp only[b9,Bool.and_eq_true]at h1 h2;rw[qw I hK u w v n h1.1 h2.1 q1 q3,ju I hK us ws r n h1.2 h2.2 q2 q4]
end
theorem cz:∀{us ws:List U},us.length≠ws.length->bM us ws=false
 |[],[],h=>absurd rfl h
 |[],_::_,_=>rfl
 |_::_,[],_=>rfl
 |u::us,w::ws,h=>by
  rw[bM,cz (us:=us) (ws:=ws) (fun e=>h (by simp[e])),Bool.and_false]
theorem bP:∀{us ws:List U},us.length=ws.length->bM us ws=(List.range us.length).all fun j=>bj (us.getD j .non) (ws.getD j .non)
 |[],[],_=>rfl
 |[],_::_,h=>by simp at h
 |_::_,[],h=>by simp at h
 |u::us,w::ws,h=>by
  have h':us.length=ws.length:=by simpa using h
  rw[bM,bP h',List.length_cons,List.range_succ_eq_map,List.all_cons,List.all_map];rfl
mutual
theorem ug(I:Inv X pins σ H s)(hK:C.K=X.K):∀(u w:U) (v v':V) (x x':Value) (n:Nat) (A:Around),eqD n u=true->eqD n w=true->Rep C S H u v->Rep C S H w v'->RelV v x->RelV v' x'->A.units+n<cLine->SeqAt.EqAt A s x x' (bj u w)
 |.non,w,v,v',x,x',n,A,_,h2,h3,h4,r1,r2,hu=>by
  simp only[Rep]at h3;subst h3;cases r1;cases w with
  |non=>simp only[Rep]at h4;subst h4;cases r2;exact SeqAt.EqAt.same _
  |bl b=>simp only[Rep]at h4;subst h4;cases r2;exact SeqAt.EqAt.none_bool b
  |int b=>simp only[Rep]at h4;subst h4;obtain⟨t,rfl⟩:=r2;exact SeqAt.EqAt.none_int b t
  |str b=>simp only[Rep]at h4;subst h4;obtain⟨t,rfl⟩:=r2;exact SeqAt.EqAt.none_str b t
  |tup ws=>obtain⟨a,vs,rfl,q1,q2⟩:=h4;cases r2;rw[hK]at q1;obtain⟨its,_,p,_⟩:=I.tuple q1;exact SeqAt.EqAt.none_tuple p (by omega)
  |lst ws=>obtain⟨a,vs,rfl,q1,q2⟩:=h4;cases r2;obtain⟨its,_,p,_⟩:=aO I hK q1;exact SeqAt.EqAt.none_list p (by omega)
  |dic=>cases n<;>simp[eqD]at h2
  |rdc=>cases n<;>simp[eqD]at h2
 |.bl a,w,v,v',x,x',n,A,_,h2,h3,h4,r1,r2,hu=>by
  simp only[Rep]at h3;subst h3;cases r1;cases w with
  |non=>simp only[Rep]at h4;subst h4;cases r2;exact SeqAt.EqAt.bool_none a
  |bl b=>simp only[Rep]at h4;subst h4;cases r2;exact SeqAt.EqAt.bool_bool a b
  |int b=>simp only[Rep]at h4;subst h4;obtain⟨t,rfl⟩:=r2;exact SeqAt.EqAt.bool_int a b t
  |str b=>simp only[Rep]at h4;subst h4;obtain⟨t,rfl⟩:=r2;exact SeqAt.EqAt.bool_str a b t
  |tup ws=>obtain⟨a,vs,rfl,q1,q2⟩:=h4;cases r2;rw[hK]at q1;obtain⟨its,_,p,_⟩:=I.tuple q1;exact SeqAt.EqAt.bool_tuple _ p (by omega)
  |lst ws=>obtain⟨a,vs,rfl,q1,q2⟩:=h4;cases r2;obtain⟨its,_,p,_⟩:=aO I hK q1;exact SeqAt.EqAt.bool_list _ p (by omega)
  |dic=>cases n<;>simp[eqD]at h2
  |rdc=>cases n<;>simp[eqD]at h2
 |.int a,w,v,v',x,x',n,A,_,h2,h3,h4,r1,r2,hu=>by
  simp only[Rep]at h3;subst h3;obtain⟨t',rfl⟩:=r1;cases w with
  |non=>simp only[Rep]at h4;subst h4;cases r2;exact SeqAt.EqAt.int_none a t'
  |bl b=>simp only[Rep]at h4;subst h4;cases r2;exact SeqAt.EqAt.int_bool a t' b
  |int b=>simp only[Rep]at h4;subst h4;obtain⟨t,rfl⟩:=r2;exact SeqAt.EqAt.int_int a t' b t
  |str b=>simp only[Rep]at h4;subst h4;obtain⟨t,rfl⟩:=r2;exact SeqAt.EqAt.int_str a t' b t
  |tup ws=>obtain⟨a,vs,rfl,q1,q2⟩:=h4;cases r2;rw[hK]at q1;obtain⟨its,_,p,_⟩:=I.tuple q1;exact SeqAt.EqAt.int_tuple _ _ p (by omega)
  |lst ws=>obtain⟨a,vs,rfl,q1,q2⟩:=h4;cases r2;obtain⟨its,_,p,_⟩:=aO I hK q1;exact SeqAt.EqAt.int_list _ _ p (by omega)
  |dic=>cases n<;>simp[eqD]at h2
  |rdc=>cases n<;>simp[eqD]at h2
 |.str a,w,v,v',x,x',n,A,_,h2,h3,h4,r1,r2,hu=>by
  simp only[Rep]at h3;subst h3;obtain⟨t',rfl⟩:=r1;cases w with
  |non=>simp only[Rep]at h4;subst h4;cases r2;exact SeqAt.EqAt.str_none a t'
  |bl b=>simp only[Rep]at h4;subst h4;cases r2;exact SeqAt.EqAt.str_bool a t' b
  |int b=>simp only[Rep]at h4;subst h4;obtain⟨t,rfl⟩:=r2;exact SeqAt.EqAt.str_int a t' b t
  |str b=>simp only[Rep]at h4;subst h4;obtain⟨t,rfl⟩:=r2;exact SeqAt.EqAt.str_str a t' b t
  |tup ws=>obtain⟨a,vs,rfl,q1,q2⟩:=h4;cases r2;rw[hK]at q1;obtain⟨its,_,p,_⟩:=I.tuple q1;exact SeqAt.EqAt.str_tuple _ _ p (by omega)
  |lst ws=>obtain⟨a,vs,rfl,q1,q2⟩:=h4;cases r2;obtain⟨its,_,p,_⟩:=aO I hK q1;exact SeqAt.EqAt.str_list _ _ p (by omega)
  |dic=>cases n<;>simp[eqD]at h2
  |rdc=>cases n<;>simp[eqD]at h2
 |.tup us,w,v,v',x,x',n,A,h1,h2,h3,h4,r1,r2,hu=>by
  obtain⟨a,vs,rfl,q1,q2⟩:=id h3;cases r1;have q1':=q1;rw[hK]at q1';obtain⟨its,rv,p,_⟩:=I.tuple q1';cases n with
  |zero=>simp[eqD]at h1
  |succ n =>
   cases w with
   |tup ws =>
    obtain⟨a',vs',rfl,q3,q4⟩:=id h4;cases r2;by_cases e:a=a'
    ·subst e;rw[pe I hK (.tup us) (.tup ws) (.ref a) (n+1) h1 h2 h3 h4];exact SeqAt.EqAt.same _
    ·rw[hK]at q3;obtain⟨its',rv',p',_⟩:=I.tuple q3;simp only[eqD]at h1 h2;have l1:=q2.len;have l2:=q4.len;have l3:=rv.length;have l4:=rv'.length;have ee:bj (.tup us) (.tup ws)=((List.range (min its.toArray.size its'.toArray.size)).all (fun j=>bj (us.getD j .non) (ws.getD j .non))&&its.toArray.size==its'.toArray.size):=by
      show bM us ws=_;simp only[List.size_toArray];by_cases el:us.length=ws.length
      ·rw[bP el,show min its.length its'.length=us.length by omega,show(its.length==its'.length)=true by simp;omega,Bool.and_true]
      ·rw[cz el,show(its.length==its'.length)=false by simp;omega,Bool.and_false]
     rw[ee];refine .of_refs e (.tuples p p' (by omega) fun j h1' h2'=>?_);simp only[List.size_toArray]at h1' h2';exact jv I hK us ws vs vs' its its' n A.in1 h1 h2 q2 q4 rv rv' (by show A.units+1+n < _;omega) j (us.getD j .non) (ws.getD j .non) _ _ (by rw[List.getD_eq_getElem?_getD,List.getElem?_eq_getElem (by omega)];simp) (by rw[List.getD_eq_getElem?_getD,List.getElem?_eq_getElem (by omega)];simp) (by simp) (by simp)
   |lst ws=>obtain⟨a',vs',rfl,q3,q4⟩:=h4;cases r2;obtain⟨its',_,p',_⟩:=aO I hK q3;exact SeqAt.EqAt.tuple_list p p' (by omega)
   |non=>simp only[Rep]at h4;subst h4;cases r2;exact SeqAt.EqAt.tuple_none p (by omega)
   |bl b=>simp only[Rep]at h4;subst h4;cases r2;exact SeqAt.EqAt.tuple_bool b p (by omega)
   |int b=>simp only[Rep]at h4;subst h4;obtain⟨t,rfl⟩:=r2;exact SeqAt.EqAt.tuple_int b t p (by omega)
   |str b=>simp only[Rep]at h4;subst h4;obtain⟨t,rfl⟩:=r2;exact SeqAt.EqAt.tuple_str b t p (by omega)
   |dic=>simp[eqD]at h2
   |rdc=>simp[eqD]at h2
 |.lst us,w,v,v',x,x',n,A,h1,h2,h3,h4,r1,r2,hu=>by
  obtain⟨a,vs,rfl,q1,q2⟩:=id h3;cases r1;obtain⟨its,rv,p,_⟩:=aO I hK q1;cases n with
  |zero=>simp[eqD]at h1
  |succ n =>
   cases w with
   |lst ws =>
    obtain⟨a',vs',rfl,q3,q4⟩:=id h4;cases r2;by_cases e:a=a'
    ·subst e;rw[pe I hK (.lst us) (.lst ws) (.ref a) (n+1) h1 h2 h3 h4];exact SeqAt.EqAt.same _
    ·obtain⟨its',rv',p',_⟩:=aO I hK q3;simp only[eqD]at h1 h2;have l1:=q2.len;have l2:=q4.len;have l3:=rv.length;have l4:=rv'.length;by_cases el:us.length=ws.length
     ·have ee:bj (.lst us) (.lst ws)=(List.range its.toArray.size).all (fun j=>bj (us.getD j .non) (ws.getD j .non)):=by
       show bM us ws=_;rw[bP el,List.size_toArray,show its.length=us.length by omega]
      rw[ee];refine .of_refs e (.lists p p' (by simp;omega) (by omega) fun j h1' h2'=>?_);simp only[List.size_toArray]at h1' h2';exact jv I hK us ws vs vs' its its' n A.in1 h1 h2 q2 q4 rv rv' (by show A.units+1+n < _;omega) j (us.getD j .non) (ws.getD j .non) _ _ (by rw[List.getD_eq_getElem?_getD,List.getElem?_eq_getElem (by omega)];simp) (by rw[List.getD_eq_getElem?_getD,List.getElem?_eq_getElem (by omega)];simp) (by simp) (by simp)
     ·have ee:bj (.lst us) (.lst ws)=false:=cz el;rw[ee];exact .of_refs e (.lists_lengths p p' (by simp;omega) (by omega))
   |tup ws=>obtain⟨a',vs',rfl,q3,q4⟩:=h4;cases r2;rw[hK]at q3;obtain⟨its',_,p',_⟩:=I.tuple q3;exact SeqAt.EqAt.list_tuple p p' (by omega)
   |non=>simp only[Rep]at h4;subst h4;cases r2;exact SeqAt.EqAt.list_none p (by omega)
   |bl b=>simp only[Rep]at h4;subst h4;cases r2;exact SeqAt.EqAt.list_bool b p (by omega)
   |int b=>simp only[Rep]at h4;subst h4;obtain⟨t,rfl⟩:=r2;exact SeqAt.EqAt.list_int b t p (by omega)
   |str b=>simp only[Rep]at h4;subst h4;obtain⟨t,rfl⟩:=r2;exact SeqAt.EqAt.list_str b t p (by omega)
   |dic=>simp[eqD]at h2
   |rdc=>simp[eqD]at h2
 |.dic _ _,_,_,_,_,_,n,_,h,_,_,_,_,_,_=>by cases n<;>simp[eqD]at h
 |.rdc _,_,_,_,_,_,n,_,h,_,_,_,_,_,_=>by cases n<;>simp[eqD]at h
theorem jv(I:Inv X pins σ H s)(hK:C.K=X.K):∀(us ws:List U) (vs vs':List V) (its its':List Value) (n:Nat) (A:Around),b9 n us=true->b9 n ws=true->ai C S H us vs->ai C S H ws vs'->Vals vs its->Vals vs' its'->A.units+n<cLine ->
  ∀(j:Nat) (u w:U) (x x':Value),us[j]?=some u->ws[j]?=some w->its[j]?=some x->its'[j]?=some x'->SeqAt.EqAt A s x x' (bj u w)
 |[],_,_,_,_,_,_,_,_,_,_,_,_,_,_,j,_,_,_,_,e,_,_,_=>by simp at e
 |u::us,[],_,_,_,_,_,_,_,_,_,_,_,_,_,j,_,_,_,_,_,e,_,_=>by simp at e
 |u::us,w::ws,vs,vs',its,its',n,A,h1,h2,h3,h4,r1,r2,hu,j,u',w',x,x',e1,e2,e3,e4=>by
  obtain⟨v,r,rfl,q1,q2⟩:=h3;obtain⟨v',r',rfl,q3,q4⟩:=h4;simp only[b9,Bool.and_eq_true]at h1 h2;cases r1 with
  |cons ra rb =>
   cases r2 with
   |cons rc rd =>
    cases j with
    |zero =>
     simp at e1 e2 e3 e4;subst e1 e2 e3 e4;exact ug I hK u w v v' _ _ n A h1.1 h2.1 q1 q3 ra rc hu
    |succ j=>exact jv I hK us ws r r' _ _ n A h1.2 h2.2 q2 q4 rb rd hu j u' w' x x' (by simpa using e1) (by simpa using e2) (by simpa using e3) (by simpa using e4)
end
end
end TM
namespace TM
open PySem L2
section
variable{X:Cx}{pins:List (Addr×Obj)}{σ:St}{H:Hp}{s:Shared}{C:Ct}{S:Addr->Prop}
theorem BY(I:Inv X pins σ H s)(hK:C.K=X.K)(u w:U)(v v':V)(x x':Value)(n:Nat)(A:Around)(h1:eqD n u=true)(h2:eqD n w=true)(h3:Rep C S H u v)(h4:Rep C S H w v')(r1:RelV v x)(r2:RelV v' x')(hu:A.units+n<cLine):SeqAt.RcAt A s x x' (bj u w):=by
 cases u with
 |non =>
  simp only[Rep]at h3;subst h3;cases r1;cases w with
  |non=>simp only[Rep]at h4;subst h4;cases r2;exact SeqAt.RcAt.none_none
  |bl q=>simp only[Rep]at h4;subst h4;cases r2;exact SeqAt.RcAt.none_bool  q
  |int q=>simp only[Rep]at h4;subst h4;obtain⟨t,rfl⟩:=r2;exact SeqAt.RcAt.none_int  q t
  |str q=>simp only[Rep]at h4;subst h4;obtain⟨t,rfl⟩:=r2;exact SeqAt.RcAt.none_str  q t
  |tup ws=>obtain⟨a',vs',rfl,q3,q4⟩:=id h4;cases r2;rw[hK]at q3;obtain⟨its',rv',p',_⟩:=I.tuple q3;exact SeqAt.RcAt.none_tuple  p' (by omega)
  |lst ws=>obtain⟨a',vs',rfl,q3,q4⟩:=id h4;cases r2;obtain⟨its',rv',p',_⟩:=aO I hK q3;exact SeqAt.RcAt.none_list  p' (by omega)
  |dic=>cases n<;>simp[eqD]at h2
  |rdc=>cases n<;>simp[eqD]at h2
 |bl p =>
  simp only[Rep]at h3;subst h3;cases r1;cases w with
  |non=>simp only[Rep]at h4;subst h4;cases r2;exact SeqAt.RcAt.bool_none p
  |bl q=>simp only[Rep]at h4;subst h4;cases r2;exact SeqAt.RcAt.bool_bool p q
  |int q=>simp only[Rep]at h4;subst h4;obtain⟨t,rfl⟩:=r2;exact SeqAt.RcAt.bool_int p q t
  |str q=>simp only[Rep]at h4;subst h4;obtain⟨t,rfl⟩:=r2;exact SeqAt.RcAt.bool_str p q t
  |tup ws=>obtain⟨a',vs',rfl,q3,q4⟩:=id h4;cases r2;rw[hK]at q3;obtain⟨its',rv',p',_⟩:=I.tuple q3;exact SeqAt.RcAt.bool_tuple p p' (by omega)
  |lst ws=>obtain⟨a',vs',rfl,q3,q4⟩:=id h4;cases r2;obtain⟨its',rv',p',_⟩:=aO I hK q3;exact SeqAt.RcAt.bool_list p p' (by omega)
  |dic=>cases n<;>simp[eqD]at h2
  |rdc=>cases n<;>simp[eqD]at h2
 |int p =>
  simp only[Rep]at h3;subst h3;obtain⟨t',rfl⟩:=r1;cases w with
  |non=>simp only[Rep]at h4;subst h4;cases r2;exact SeqAt.RcAt.int_none p t'
  |bl q=>simp only[Rep]at h4;subst h4;cases r2;exact SeqAt.RcAt.int_bool p t' q
  |int q=>simp only[Rep]at h4;subst h4;obtain⟨t,rfl⟩:=r2;exact SeqAt.RcAt.int_int p t' q t
  |str q=>simp only[Rep]at h4;subst h4;obtain⟨t,rfl⟩:=r2;exact SeqAt.RcAt.int_str p t' q t
  |tup ws=>obtain⟨a',vs',rfl,q3,q4⟩:=id h4;cases r2;rw[hK]at q3;obtain⟨its',rv',p',_⟩:=I.tuple q3;exact SeqAt.RcAt.int_tuple p t' p' (by omega)
  |lst ws=>obtain⟨a',vs',rfl,q3,q4⟩:=id h4;cases r2;obtain⟨its',rv',p',_⟩:=aO I hK q3;exact SeqAt.RcAt.int_list p t' p' (by omega)
  |dic=>cases n<;>simp[eqD]at h2
  |rdc=>cases n<;>simp[eqD]at h2
 |str p =>
  simp only[Rep]at h3;subst h3;obtain⟨t',rfl⟩:=r1;cases w with
  |non=>simp only[Rep]at h4;subst h4;cases r2;exact SeqAt.RcAt.str_none p t'
  |bl q=>simp only[Rep]at h4;subst h4;cases r2;exact SeqAt.RcAt.str_bool p t' q
  |int q=>simp only[Rep]at h4;subst h4;obtain⟨t,rfl⟩:=r2;exact SeqAt.RcAt.str_int p t' q t
  |str q=>simp only[Rep]at h4;subst h4;obtain⟨t,rfl⟩:=r2;exact SeqAt.RcAt.str_str p t' q t
  |tup ws=>obtain⟨a',vs',rfl,q3,q4⟩:=id h4;cases r2;rw[hK]at q3;obtain⟨its',rv',p',_⟩:=I.tuple q3;exact SeqAt.RcAt.str_tuple p t' p' (by omega)
  |lst ws=>obtain⟨a',vs',rfl,q3,q4⟩:=id h4;cases r2;obtain⟨its',rv',p',_⟩:=aO I hK q3;exact SeqAt.RcAt.str_list p t' p' (by omega)
  |dic=>cases n<;>simp[eqD]at h2
  |rdc=>cases n<;>simp[eqD]at h2
 |tup us =>
  obtain⟨a,vs,rfl,q1,q2⟩:=id h3;cases r1;rw[hK]at q1;obtain⟨its,rv,p,_⟩:=I.tuple q1;cases w with
  |non=>simp only[Rep]at h4;subst h4;cases r2;exact SeqAt.RcAt.tuple_none  p (by omega)
  |bl q=>simp only[Rep]at h4;subst h4;cases r2;exact SeqAt.RcAt.tuple_bool q p (by omega)
  |int q=>simp only[Rep]at h4;subst h4;obtain⟨t,rfl⟩:=r2;exact SeqAt.RcAt.tuple_int q t p (by omega)
  |str q=>simp only[Rep]at h4;subst h4;obtain⟨t,rfl⟩:=r2;exact SeqAt.RcAt.tuple_str q t p (by omega)
  |tup ws =>
   obtain⟨a',vs',rfl,q3,q4⟩:=id h4;cases r2;rw[hK]at q3;obtain⟨its',rv',p',_⟩:=I.tuple q3;cases n with
   |zero=>simp[eqD]at h1
   |succ n =>
    simp only[eqD]at h1 h2;have l1:=q2.len;have l2:=q4.len;have l3:=rv.length;have l4:=rv'.length;have ee:bj (.tup us) (.tup ws)=((List.range (min its.toArray.size its'.toArray.size)).all (fun j=>bj (us.getD j .non) (ws.getD j .non))&&its.toArray.size==its'.toArray.size):=by
     show bM us ws=_;simp only[List.size_toArray];by_cases el:us.length=ws.length
     ·rw[bP el,show min its.length its'.length=us.length by omega,show(its.length==its'.length)=true by simp;omega,Bool.and_true]
     ·rw[cz el,show(its.length==its'.length)=false by simp;omega,Bool.and_false]
    rw[ee];refine SeqAt.RcAt.tuples p p' (by omega) fun j h1' h2'=>?_;simp only[List.size_toArray]at h1' h2';exact jv I hK us ws vs vs' its its' n A.in1 h1 h2 q2 q4 rv rv' (by show A.units+1+n < _;omega) j (us.getD j .non) (ws.getD j .non) _ _ (by rw[List.getD_eq_getElem?_getD,List.getElem?_eq_getElem (by omega)];simp) (by rw[List.getD_eq_getElem?_getD,List.getElem?_eq_getElem (by omega)];simp) (by simp) (by simp)
  |lst ws=>obtain⟨a',vs',rfl,q3,q4⟩:=id h4;cases r2;obtain⟨its',rv',p',_⟩:=aO I hK q3;exact SeqAt.RcAt.tuple_list p p' (by omega)
  |dic=>cases n<;>simp[eqD]at h2
  |rdc=>cases n<;>simp[eqD]at h2
 |lst us =>
  obtain⟨a,vs,rfl,q1,q2⟩:=id h3;cases r1;obtain⟨its,rv,p,_⟩:=aO I hK q1;cases w with
  |non=>simp only[Rep]at h4;subst h4;cases r2;exact SeqAt.RcAt.list_none  p (by omega)
  |bl q=>simp only[Rep]at h4;subst h4;cases r2;exact SeqAt.RcAt.list_bool q p (by omega)
  |int q=>simp only[Rep]at h4;subst h4;obtain⟨t,rfl⟩:=r2;exact SeqAt.RcAt.list_int q t p (by omega)
  |str q=>simp only[Rep]at h4;subst h4;obtain⟨t,rfl⟩:=r2;exact SeqAt.RcAt.list_str q t p (by omega)
  |tup ws=>obtain⟨a',vs',rfl,q3,q4⟩:=id h4;cases r2;rw[hK]at q3;obtain⟨its',rv',p',_⟩:=I.tuple q3;exact SeqAt.RcAt.list_tuple p p' (by omega)
  |lst ws =>
   obtain⟨a',vs',rfl,q3,q4⟩:=id h4;cases r2;obtain⟨its',rv',p',_⟩:=aO I hK q3;cases n with
   |zero=>simp[eqD]at h1
   |succ n =>
    simp only[eqD]at h1 h2;have l1:=q2.len;have l2:=q4.len;have l3:=rv.length;have l4:=rv'.length;by_cases el:us.length=ws.length
    ·have ee:bj (.lst us) (.lst ws)=(List.range its.toArray.size).all (fun j=>bj (us.getD j .non) (ws.getD j .non)):=by
      show bM us ws=_;rw[bP el,List.size_toArray,show its.length=us.length by omega]
     rw[ee];refine SeqAt.RcAt.lists p p' (by simp;omega) (by omega) fun j h1' h2'=>?_;simp only[List.size_toArray]at h1' h2';exact jv I hK us ws vs vs' its its' n A.in1 h1 h2 q2 q4 rv rv' (by show A.units+1+n < _;omega) j (us.getD j .non) (ws.getD j .non) _ _ (by rw[List.getD_eq_getElem?_getD,List.getElem?_eq_getElem (by omega)];simp) (by rw[List.getD_eq_getElem?_getD,List.getElem?_eq_getElem (by omega)];simp) (by simp) (by simp)
    ·have ee:bj (.lst us) (.lst ws)=false:=cz el;rw[ee];exact SeqAt.RcAt.lists_lengths p p' (by simp;omega) (by omega)
  |dic=>cases n<;>simp[eqD]at h2
  |rdc=>cases n<;>simp[eqD]at h2
 |dic=>cases n<;>simp[eqD]at h1
 |rdc=>cases n<;>simp[eqD]at h1
theorem zd(I:Inv X pins σ H s)(hK:C.K=X.K)(u w:U)(v v':V)(x x':Value)(n:Nat)(A:Around)(h1:eqD n u=true)(h2:eqD n w=true)(h3:Rep C S H u v)(h4:Rep C S H w v')(r1:RelV v x)(r2:RelV v' x')(hu:A.units+n<cLine):SeqAt.RcNeAt A s x x' (!(bj u w)):=by
 cases u with
 |non =>
  simp only[Rep]at h3;subst h3;cases r1;cases w with
  |non=>simp only[Rep]at h4;subst h4;cases r2;exact SeqAt.RcNeAt.none_none
  |bl q=>simp only[Rep]at h4;subst h4;cases r2;exact SeqAt.RcNeAt.none_bool  q
  |int q=>simp only[Rep]at h4;subst h4;obtain⟨t,rfl⟩:=r2;exact SeqAt.RcNeAt.none_int  q t
  |str q=>simp only[Rep]at h4;subst h4;obtain⟨t,rfl⟩:=r2;exact SeqAt.RcNeAt.none_str  q t
  |tup ws=>obtain⟨a',vs',rfl,q3,q4⟩:=id h4;cases r2;rw[hK]at q3;obtain⟨its',rv',p',_⟩:=I.tuple q3;exact SeqAt.RcNeAt.none_tuple  p' (by omega)
  |lst ws=>obtain⟨a',vs',rfl,q3,q4⟩:=id h4;cases r2;obtain⟨its',rv',p',_⟩:=aO I hK q3;exact SeqAt.RcNeAt.none_list  p' (by omega)
  |dic=>cases n<;>simp[eqD]at h2
  |rdc=>cases n<;>simp[eqD]at h2
 |bl p =>
  simp only[Rep]at h3;subst h3;cases r1;cases w with
  |non=>simp only[Rep]at h4;subst h4;cases r2;exact SeqAt.RcNeAt.bool_none p
  |bl q=>simp only[Rep]at h4;subst h4;cases r2;exact SeqAt.RcNeAt.bool_bool p q
  |int q=>simp only[Rep]at h4;subst h4;obtain⟨t,rfl⟩:=r2;exact SeqAt.RcNeAt.bool_int p q t
  |str q=>simp only[Rep]at h4;subst h4;obtain⟨t,rfl⟩:=r2;exact SeqAt.RcNeAt.bool_str p q t
  |tup ws=>obtain⟨a',vs',rfl,q3,q4⟩:=id h4;cases r2;rw[hK]at q3;obtain⟨its',rv',p',_⟩:=I.tuple q3;exact SeqAt.RcNeAt.bool_tuple p p' (by omega)
  |lst ws=>obtain⟨a',vs',rfl,q3,q4⟩:=id h4;cases r2;obtain⟨its',rv',p',_⟩:=aO I hK q3;exact SeqAt.RcNeAt.bool_list p p' (by omega)
  |dic=>cases n<;>simp[eqD]at h2
  |rdc=>cases n<;>simp[eqD]at h2
 |int p =>
  simp only[Rep]at h3;subst h3;obtain⟨t',rfl⟩:=r1;cases w with
  |non=>simp only[Rep]at h4;subst h4;cases r2;exact SeqAt.RcNeAt.int_none p t'
  |bl q=>simp only[Rep]at h4;subst h4;cases r2;exact SeqAt.RcNeAt.int_bool p t' q
  |int q=>simp only[Rep]at h4;subst h4;obtain⟨t,rfl⟩:=r2;exact SeqAt.RcNeAt.int_int p t' q t
  |str q=>simp only[Rep]at h4;subst h4;obtain⟨t,rfl⟩:=r2;exact SeqAt.RcNeAt.int_str p t' q t
  |tup ws=>obtain⟨a',vs',rfl,q3,q4⟩:=id h4;cases r2;rw[hK]at q3;obtain⟨its',rv',p',_⟩:=I.tuple q3;exact SeqAt.RcNeAt.int_tuple p t' p' (by omega)
  |lst ws=>obtain⟨a',vs',rfl,q3,q4⟩:=id h4;cases r2;obtain⟨its',rv',p',_⟩:=aO I hK q3;exact SeqAt.RcNeAt.int_list p t' p' (by omega)
  |dic=>cases n<;>simp[eqD]at h2
  |rdc=>cases n<;>simp[eqD]at h2
 |str p =>
  simp only[Rep]at h3;subst h3;obtain⟨t',rfl⟩:=r1;cases w with
  |non=>simp only[Rep]at h4;subst h4;cases r2;exact SeqAt.RcNeAt.str_none p t'
  |bl q=>simp only[Rep]at h4;subst h4;cases r2;exact SeqAt.RcNeAt.str_bool p t' q
  |int q=>simp only[Rep]at h4;subst h4;obtain⟨t,rfl⟩:=r2;exact SeqAt.RcNeAt.str_int p t' q t
  |str q=>simp only[Rep]at h4;subst h4;obtain⟨t,rfl⟩:=r2;exact SeqAt.RcNeAt.str_str p t' q t
  |tup ws=>obtain⟨a',vs',rfl,q3,q4⟩:=id h4;cases r2;rw[hK]at q3;obtain⟨its',rv',p',_⟩:=I.tuple q3;exact SeqAt.RcNeAt.str_tuple p t' p' (by omega)
  |lst ws=>obtain⟨a',vs',rfl,q3,q4⟩:=id h4;cases r2;obtain⟨its',rv',p',_⟩:=aO I hK q3;exact SeqAt.RcNeAt.str_list p t' p' (by omega)
  |dic=>cases n<;>simp[eqD]at h2
  |rdc=>cases n<;>simp[eqD]at h2
 |tup us =>
  obtain⟨a,vs,rfl,q1,q2⟩:=id h3;cases r1;rw[hK]at q1;obtain⟨its,rv,p,_⟩:=I.tuple q1;cases w with
  |non=>simp only[Rep]at h4;subst h4;cases r2;exact SeqAt.RcNeAt.tuple_none  p (by omega)
  |bl q=>simp only[Rep]at h4;subst h4;cases r2;exact SeqAt.RcNeAt.tuple_bool q p (by omega)
  |int q=>simp only[Rep]at h4;subst h4;obtain⟨t,rfl⟩:=r2;exact SeqAt.RcNeAt.tuple_int q t p (by omega)
  |str q=>simp only[Rep]at h4;subst h4;obtain⟨t,rfl⟩:=r2;exact SeqAt.RcNeAt.tuple_str q t p (by omega)
  |tup ws =>
   obtain⟨a',vs',rfl,q3,q4⟩:=id h4;cases r2;rw[hK]at q3;obtain⟨its',rv',p',_⟩:=I.tuple q3;cases n with
   |zero=>simp[eqD]at h1
   |succ n =>
    simp only[eqD]at h1 h2;have l1:=q2.len;have l2:=q4.len;have l3:=rv.length;have l4:=rv'.length;have ee:bj (.tup us) (.tup ws)=((List.range (min its.toArray.size its'.toArray.size)).all (fun j=>bj (us.getD j .non) (ws.getD j .non))&&its.toArray.size==its'.toArray.size):=by
     show bM us ws=_;simp only[List.size_toArray];by_cases el:us.length=ws.length
     ·rw[bP el,show min its.length its'.length=us.length by omega,show(its.length==its'.length)=true by simp;omega,Bool.and_true]
     ·rw[cz el,show(its.length==its'.length)=false by simp;omega,Bool.and_false]
    rw[ee];refine SeqAt.RcNeAt.tuples p p' (by omega) fun j h1' h2'=>?_;simp only[List.size_toArray]at h1' h2';exact jv I hK us ws vs vs' its its' n A.in1 h1 h2 q2 q4 rv rv' (by show A.units+1+n < _;omega) j (us.getD j .non) (ws.getD j .non) _ _ (by rw[List.getD_eq_getElem?_getD,List.getElem?_eq_getElem (by omega)];simp) (by rw[List.getD_eq_getElem?_getD,List.getElem?_eq_getElem (by omega)];simp) (by simp) (by simp)
  |lst ws=>obtain⟨a',vs',rfl,q3,q4⟩:=id h4;cases r2;obtain⟨its',rv',p',_⟩:=aO I hK q3;exact SeqAt.RcNeAt.tuple_list p p' (by omega)
  |dic=>cases n<;>simp[eqD]at h2
  |rdc=>cases n<;>simp[eqD]at h2
 |lst us =>
  obtain⟨a,vs,rfl,q1,q2⟩:=id h3;cases r1;obtain⟨its,rv,p,_⟩:=aO I hK q1;cases w with
  |non=>simp only[Rep]at h4;subst h4;cases r2;exact SeqAt.RcNeAt.list_none  p (by omega)
  |bl q=>simp only[Rep]at h4;subst h4;cases r2;exact SeqAt.RcNeAt.list_bool q p (by omega)
  |int q=>simp only[Rep]at h4;subst h4;obtain⟨t,rfl⟩:=r2;exact SeqAt.RcNeAt.list_int q t p (by omega)
  |str q=>simp only[Rep]at h4;subst h4;obtain⟨t,rfl⟩:=r2;exact SeqAt.RcNeAt.list_str q t p (by omega)
  |tup ws=>obtain⟨a',vs',rfl,q3,q4⟩:=id h4;cases r2;rw[hK]at q3;obtain⟨its',rv',p',_⟩:=I.tuple q3;exact SeqAt.RcNeAt.list_tuple p p' (by omega)
  |lst ws =>
   obtain⟨a',vs',rfl,q3,q4⟩:=id h4;cases r2;obtain⟨its',rv',p',_⟩:=aO I hK q3;cases n with
   |zero=>simp[eqD]at h1
   |succ n =>
    simp only[eqD]at h1 h2;have l1:=q2.len;have l2:=q4.len;have l3:=rv.length;have l4:=rv'.length;by_cases el:us.length=ws.length
    ·have ee:bj (.lst us) (.lst ws)=(List.range its.toArray.size).all (fun j=>bj (us.getD j .non) (ws.getD j .non)):=by
      show bM us ws=_;rw[bP el,List.size_toArray,show its.length=us.length by omega]
     rw[ee];refine SeqAt.RcNeAt.lists p p' (by simp;omega) (by omega) fun j h1' h2'=>?_;simp only[List.size_toArray]at h1' h2';exact jv I hK us ws vs vs' its its' n A.in1 h1 h2 q2 q4 rv rv' (by show A.units+1+n < _;omega) j (us.getD j .non) (ws.getD j .non) _ _ (by rw[List.getD_eq_getElem?_getD,List.getElem?_eq_getElem (by omega)];simp) (by rw[List.getD_eq_getElem?_getD,List.getElem?_eq_getElem (by omega)];simp) (by simp) (by simp)
    ·have ee:bj (.lst us) (.lst ws)=false:=cz el;rw[ee];exact SeqAt.RcNeAt.lists_lengths p p' (by simp;omega) (by omega)
  |dic=>cases n<;>simp[eqD]at h2
  |rdc=>cases n<;>simp[eqD]at h2
 |dic=>cases n<;>simp[eqD]at h1
 |rdc=>cases n<;>simp[eqD]at h1
end
end TM
namespace TM
open PySem L2 PyProof.Rows
noncomputable def tEv(C:Ct)(m:M (Kd×U)):TE:=fun σ H Q=>∃c0:Cf,c0.σ=σ/\c0.H=H/\Ok C c0/\W m c0.st fun r st'=>∀c v,c.σ=σ->c.st=st'->Ok C c->Nx c0 c->aI C c0 c r.1 r.2 v->Q v c.H
noncomputable def tTs(C:Ct)(m:M Bool):TT:=fun σ H Q=>∃c0:Cf,c0.σ=σ/\c0.H=H/\Ok C c0/\W m c0.st fun b st'=>∀c,c.σ=σ->c.st=st'->Ok C c->Nx c0 c->Q b c.H
noncomputable def b_(C:Ct)(c0 c:Cf):List (Kd×U)->List V->Prop
 |[],vs=>vs=[]
 |r::rs,vs=>∃v t,vs=v::t/\eM C c0 c r.1 r.2 v/\b_ C c0 c rs t/\(r.1=.own->∀(i:Nat) r' v',rs[i]?=some r'->t[i]?=some v'->r'.1=.own->v'≠v)
noncomputable def tEs(C:Ct)(m:M (List (Kd×U))):TA:=fun σ H Q=>∃c0:Cf,c0.σ=σ/\c0.H=H/\Ok C c0/\W m c0.st fun rs st'=>∀c vs,c.σ=σ->c.st=st'->Ok C c->Nx c0 c->b_ C c0 c rs vs->Q vs c.H
section
variable{X:Cx}{C:Ct}
theorem PE.weak{e:Expr}{t t':TE}(h:PE X e t)(i:∀σ H Q,t' σ H Q->t σ H Q):PE X e t':=fun pins s σ H Q I q=>h pins s σ H Q I (i σ H Q q)
theorem PT.weak{e:Expr}{t t':TT}(h:PT X e t)(i:∀σ H Q,t' σ H Q->t σ H Q):PT X e t':=fun pins s σ H Q I q=>h pins s σ H Q I (i σ H Q q)
theorem bV{rs:List (Kd×U)}{st:aj}{Q:Unit->aj->Prop}:W (ay rs) st Q↔aZ rs st/\Q () st:=by
 constructor
 ·rintro⟨a,st',e,h⟩;unfold ay at e;split at e
  ·cases e;exact⟨by assumption,h⟩
  ·cases e
 ·rintro⟨h1,h2⟩;exact⟨(),st,by unfold ay;rw[if_pos h1],h2⟩
theorem fj{r:Kd×U}{rs:List (Kd×U)}{st:aj}:aZ (r::rs) st↔aZ [r] st/\aZ rs st:=by
 obtain⟨k,u⟩:=r;cases k<;>simp[aZ]
theorem eM.t{c0 c:Cf}{k:Kd}{u:U}{v:V}(h:eM C c0 c k u v)(s:aZ [(k,u)] c.st):aI C c0 c k u v:=by
 cases k with
 |own=>exact h
 |loc=>exact h
 |any=>exact h
 |bor j=>exact⟨s.1,h⟩
 |io=>exact h
 |ownD=>exact h
structure At2(C:Ct)(c0 c:Cf)(x y:Kd×U)(vx vy:V):Prop where
 hσ:c.σ=c0.σ
 ok:Ok C c
 nx:Nx c0 c
 rx:aI C c0 c x.1 x.2 vx
 ry:aI C c0 c y.1 y.2 vy
 ne:x.1=.own->y.1=.own->vy≠vx
theorem l8{c0 c1 c:Cf}{k k':Kd}{u u':U}{v v':V}(h:eM C c0 c1 k u v)(h':eM C c1 c k' u' v'):k=.own->k'=.own->v'≠v:=by
 rintro rfl rfl e;obtain⟨r,e1,_,_,_,h4⟩:=h;obtain⟨r',e2,h5,_⟩:=h';obtain⟨o,ho,_⟩:=h4.some;subst e1;rw[e2]at e;cases e;rw[ho]at h5;cases h5
variable{a b:Expr}{ma mb:M (Kd×U)}{pins:List (Addr×Obj)}{σ:L2.St}{H:Hp}{s:Shared}
theorem two{β:Type}{k:Kd×U->Kd×U->M β}{Post:β->aj->Prop}{α:Type}{f:Value->Value->Sem α}{Q':Value->Value->α->Shared->Prop}{c0:Cf}(ha:PE X a (tEv C ma))(hb:PE X b (tEv C mb))(I:Inv X pins c0.σ c0.H s)(ok:Ok C c0)
  (h:W (ma >>= fun x=>mb >>= fun y=>ay [x,y] >>= fun _=>k x y) c0.st Post)
  (hf:∀x y c vx vy v u s2,At2 C c0 c x y vx vy->Inv X pins c.σ c.H s2->RelV vx v->RelV vy u->W (k x y) c.st Post->wpAny (model X.prog X.w) X.A (f v u) (Q' v u) X.xe s2) :
  wpAny (model X.prog X.w) X.A (eval a X.env) (fun v s₁=>wpAny (model X.prog X.w) X.A (eval b X.env) (fun u s₂=>wpAny (model X.prog X.w) X.A (f v u) (Q' v u) X.xe s₂) X.xe s₁) X.xe s:=by
 rw[ah]at h;refine thn (ha pins s c0.σ c0.H (fun vx H1=>∃x c1,c1.H=H1/\c1.σ=c0.σ/\Ok C c1/\Nx c0 c1/\aI C c0 c1 x.1 x.2 vx/\W (mb >>= fun y=>ay [x,y] >>= fun _=>k x y) c1.st Post) I ⟨c0,rfl,rfl,ok,h.mono fun x st1 h1 c1 vx e1 e2 ok1 n1 r1=>⟨x,c1,rfl,e1,ok1,n1,r1,by rw[e2];exact h1⟩⟩) ?_;rintro v s1 ⟨vx,H1,I1,rv,x,c1,rfl,e1,ok1,n1,r1,h1⟩;rw[ah]at h1;refine thn (hb pins s1 c0.σ c1.H (fun vy H2=>∃y c2,c2.H=H2/\At2 C c0 c2 x y vx vy/\W (k x y) c2.st Post) I1 ⟨c1,e1,rfl,ok1,h1.mono fun y st2 h2 c2 vy e3 e4 ok2 n2 r2=>?_⟩) ?_
 ·rw[ah,bV]at h2;subst e4;rw[fj]at h2;exact⟨y,c2,rfl,⟨e3,ok2,n1.trans n2,(r1.w.on ok1 n2 (e3.trans e1.symm)).t h2.1.1,(r2.from n1),l8 r1.w r2.w⟩,h2.2⟩
 ·rintro u s2 ⟨vy,H2,I2,ru,y,c2,rfl,at2,h2⟩;have hs:c2.σ=c0.σ:=at2.hσ;exact hf x y c2 vx vy v u s2 at2 (by rw[hs];exact I2) rv ru h2
structure At1(C:Ct)(c0 c:Cf)(x:Kd×U)(vx:V):Prop where
 hσ:c.σ=c0.σ
 ok:Ok C c
 nx:Nx c0 c
 rx:aI C c0 c x.1 x.2 vx
theorem one{β:Type}{k:Kd×U->M β}{Post:β->aj->Prop}{α:Type}{f:Value->Sem α}{Q':α->Shared->Prop}{c0:Cf}(ha:PE X a (tEv C ma))(I:Inv X pins c0.σ c0.H s)(ok:Ok C c0)
  (h:W (ma >>= fun x=>k x) c0.st Post)
  (hf:∀x c vx v s2,At1 C c0 c x vx->Inv X pins c.σ c.H s2->RelV vx v->W (k x) c.st Post->wpAny (model X.prog X.w) X.A (f v) Q' X.xe s2) :
  wpAny (model X.prog X.w) X.A (eval a X.env) (fun v s₁=>wpAny (model X.prog X.w) X.A (f v) Q' X.xe s₁) X.xe s:=by
 rw[ah]at h;refine thn (ha pins s c0.σ c0.H (fun vx H1=>∃x c1,c1.H=H1/\At1 C c0 c1 x vx/\W (k x) c1.st Post) I ⟨c0,rfl,rfl,ok,h.mono fun x st1 h1 c1 vx e1 e2 ok1 n1 r1=>⟨x,c1,rfl,⟨e1,ok1,n1,r1⟩,by rw[e2];exact h1⟩⟩) ?_;rintro v s1 ⟨vx,H1,I1,rv,x,c1,rfl,at1,h1⟩;exact hf x c1 vx v s1 at1 (by rw[at1.hσ];exact I1) rv h1
noncomputable def bT(C:Ct)(c0:Cf)(Q:VK)(r:Kd×U)(st':aj):Prop:=∀c v,c.σ=c0.σ->c.st=st'->Ok C c->Nx c0 c->aI C c0 c r.1 r.2 v->Q v c.H
section
variable{c0 c:Cf}{Q:VK}
theorem bT.flat{u:U}{v:V}(h:bT C c0 Q (.loc,u) c.st)(hσ:c.σ=c0.σ)(ok:Ok C c)(n:Nx c0 c)(r:Rep C c.S c.H u v):Q v c.H:=h c v hσ rfl ok n r
theorem bT.list{us:List U}{vs:List V}(h:bT C c0 Q (.own,.lst us) c.st)(hσ:c.σ=c0.σ)(ok:Ok C c)(n:Nx c0 c)(r:ai C c.S c.H us vs)(p:Addr)(hp:c.H p=none):Q (.ref p) (upd c.H p (.lst vs)):=by
 obtain⟨ok',n',r'⟩:=ok.newList n hp r;exact h {c with H:=upd c.H p (.lst vs)} _ hσ rfl ok' n' r'
theorem bT.tup{us:List U}{vs:List V}(h:bT C c0 Q (.loc,.tup us) c.st)(hσ:c.σ=c0.σ)(ok:Ok C c)(n:Nx c0 c)(r:ai C c.S c.H us vs)(p:Addr)(hp:c.H p=none):Q (.ref p) (upd c.H p (.tup vs)):=by
 obtain⟨ok',n',r'⟩:=ok.yW n hp r;exact h {c with H:=upd c.H p (.tup vs)} _ hσ rfl ok' n' r'
theorem bT.tupK{k:Kd}{us:List U}{vs:List V}(h:bT C c0 Q (kE k,.tup us) c.st)(hσ:c.σ=c0.σ)(ok:Ok C c)(n:Nx c0 c)(r:ai C (SK C c k) c.H us vs)(p:Addr)(hp:c.H p=none):Q (.ref p) (upd c.H p (.tup vs)):=by
 obtain⟨ok',n'⟩:=ok.lay (o:=.tup vs) hp;refine h {c with H:=upd c.H p (.tup vs)} _ hσ rfl ok' (n.trans n') (aI.item ?_);cases k<;>exact⟨p,vs,rfl,SqT.of aS,by first|exact r.mv (ok.mvP n')|exact r.mv (ok.mv n')⟩
theorem cL{k:Kd}{us:List U}{vs:List V}(h:eN k us=true)(r:ai C (SK C c k) c.H us vs):ai C c.S c.H us vs:=by
 cases k with
 |any=>exact r.imm (by simpa[eN,isAny] using h)
 |own=>exact r
 |loc=>exact r
 |bor j=>exact r
 |io=>exact r
 |ownD=>exact r
end
theorem uh{c:Cf}(k k':Kd):∀a,SK C c k a->SK C c (kT k k') a:=by
 intro a h;cases k<;>cases k'<;>first|exact h|exact .inr h
theorem qx{c:Cf}(k k':Kd):∀a,SK C c k' a->SK C c (kT k k') a:=by
 intro a h;cases k<;>cases k'<;>first|exact h|exact .inr h
theorem xV(k k':Kd):kE (kT k k')=kT k k':=by cases k<;>cases k'<;>rfl
theorem wR:OpR X (binaryOp .Add) (fun x y H Q=>∃l b xs zs,x=.ref l/\y=.ref b/\SqL X.K H l xs/\SqL X.K H b zs/\xs.length+zs.length<=sizeLine/\∀p,H p=none->Q (.ref p) (upd H p (.lst (xs++zs)))):=by
 intro pins s σ H x y v u Q I rx ry h;obtain⟨l,b,xs,zs,rfl,rfl,hH,hB,hz,q⟩:=h;cases rx;cases ry;obtain⟨its,r,pl,z⟩:=I.list hH;obtain⟨its2,r2,pl2,z2⟩:=I.list hB;have hl:=r.length;have hl2:=r2.length;obtain⟨⟨cls,dd,data,sl⟩,ho,hc,n,hd⟩:=pl.isList;obtain⟨⟨cls2,dd2,data2,sl2⟩,ho2,hc2,n2,hd2⟩:=pl2.isList;simp only at hc hd hc2 hd2;subst hc hd hc2 hd2;refine concat_meets ⟨_,ho,rfl⟩ ⟨_,ho2,rfl⟩ noFill_list_add seq_list_add PySem.F.slot_list_add PySem.F.entry_list_add (PySem.F.args_list_add_2 _ _)
   (list_addW l b its.toArray its2.toArray n n2 dd dd2 sl sl2 (by rw[List.size_toArray,List.size_toArray];omega)) ⟨ho,ho2,?_⟩
 have ea:its.toArray++its2.toArray=(its++its2).toArray:=by simp
 rw[ea];exact⟨.ref _,_,I.BO (t':=s.toks) (r.append r2) (by rw[List.length_append];omega),rfl,q _ I.fresh⟩
end
end TM
namespace TM
open PySem L2 PyProof.Rows
section
variable{X:Cx}{C:Ct}{pins:List (Addr×Obj)}{s:Shared}{c0 c:Cf}{Q:VK}
theorem ui:OpR X (binaryOp .Add) (fun x y H Q=>∃a b ys,x=.ref a/\y=.ref b/\SqT X.K H a []/\SqT X.K H b ys/\Q (.ref b) H):=by
 intro pins s σ H x y v u Q I rx ry h;obtain⟨a,b,ys,rfl,rfl,ha,hb,q⟩:=h;cases rx;cases ry;obtain⟨its,r1,p1,_⟩:=I.tuple ha;obtain⟨its2,r2,p2,_⟩:=I.tuple hb;cases r1;obtain⟨⟨cls,dd,data,sl⟩,ho,hc,n,hd⟩:=id p1;obtain⟨⟨cls2,dd2,data2,sl2⟩,ho2,hc2,n2,hd2⟩:=id p2;simp only at hc hd hc2 hd2;subst hc hd hc2 hd2;exact concat_meets ⟨_,ho,rfl⟩ ⟨_,ho2,rfl⟩ noFill_tuple_add seq_tuple_add PySem.F.slot_tuple_add PySem.F.entry_tuple_add (PySem.F.args_tuple_add_2 _ _)
   (tuple_addW0 a b _ its2.toArray n n2 dd dd2 sl sl2 (by rfl)) ⟨ho,ho2,.ref b,H,I,rfl,q⟩
noncomputable def Bop.op:Bop->Operator
 |.add=>.Add|.sub=>.Sub|.mul=>.Mult|.fdv=>.FloorDiv|.mod=>.Mod|.pow=>.Pow
theorem dA{f:Int->Int->Option Int}{a b:U}{r:Kd×U}(h:o_ f a b=some r):∃i j o,a=.int i/\b=.int j/\f i j=some o/\r=(.loc,.int o):=by
 unfold o_ at h;split at h
 ·rw[Option.map_eq_some_iff]at h;obtain⟨o,e,rfl⟩:=h;exact⟨_,_,o,rfl,rfl,e,rfl⟩
 ·cases h
theorem ze{op:Bop}{x y r:Kd×U}{vx vy:V}{v u:Value}(hK:C.K=X.K)(t:At2 C c0 c x y vx vy)(I:Inv X pins c.σ c.H s)(rx:RelV vx v)(ry:RelV vy u)(h:opU op x y=some r)(q:bT C c0 Q r c.st):
  wpAny (model X.prog X.w) X.A (binaryOp op.op v u) (EP X pins c.σ Q) X.xe s:=by
 obtain⟨hσ,ok,n,tx,ty,_⟩:=t;cases op with
 |add =>
  have h:rW x y=some r:=h;unfold rW at h;split at h
  ·have ex:=tx.int ok;have ey:=ty.int ok;cases h;exact ef pins s c.σ c.H vx vy v u Q I rx ry ⟨_,_,ex,ey,q.flat hσ ok n rfl⟩
  ·have ex:=tx.str ok;have ey:=ty.str ok;split at h
   ·cases h;exact oF pins s c.σ c.H vx vy v u Q I rx ry ⟨_,_,ex,ey,by assumption,q.flat hσ ok n rfl⟩
   ·cases h
  ·obtain⟨a,vs,ex,h1,h2⟩:=tx.list ok;obtain⟨b,ws,ey,h3,h4⟩:=ty.list ok;split at h
   ·rename_i hh;cases h;exact wR pins s c.σ c.H vx vy v u Q I rx ry ⟨a,b,vs,ws,ex,ey,hK▸h1,hK▸h3,by rw[<-h2.len,<-h4.len];exact hh.1,fun p hp=>q.list hσ ok n ((cL hh.2.1 h2).append (cL hh.2.2 h4)) p hp⟩
   ·cases h
  ·rename_i k xs k' ys _ _;obtain⟨a,vs,ex,h1,h2⟩:=tx.tuple ok;obtain⟨b,ws,ey,h3,h4⟩:=ty.tuple ok;have h1':=h1;have h3':=h3;rw[hK]at h1' h3';split at h
   ·rename_i hh;cases h;have m1:ai C (SK C c (kT k k')) c.H xs vs:=h2.mv (.up (uh k k'));have m2:ai C (SK C c (kT k k')) c.H ys ws:=h4.mv (.up (qx k k'));have q':bT C c0 Q (kE (kT k k'),.tup (xs++ys)) c.st:=by rw[xV];exact q
    by_cases e1:vs=[]
    ·subst e1;refine ui pins s c.σ c.H vx vy v u Q I rx ry ⟨a,b,ws,ex,ey,h1',h3',?_⟩;refine q' c (.ref b) hσ rfl ok n (aI.item ⟨b,ws,rfl,h3,?_⟩);have:xs=[]:=by have:=m1.len;simpa using this
     rw[this];exact m2
    ·refine wa pins s c.σ c.H vx vy v u Q I rx ry ⟨a,b,vs,ws,ex,ey,h1',h3',e1,by rw[<-h2.len,<-h4.len];exact hh,fun e2=>?_,fun _ p hp=>q'.tupK hσ ok n (m1.append m2) p hp⟩;subst e2;refine q' c (.ref a) hσ rfl ok n (aI.item ⟨a,vs,rfl,h1,?_⟩);have:ys=[]:=by have:=m2.len;simpa using this
     rw[this,List.append_nil];exact m1
   ·cases h
  ·cases h
 |sub =>
  obtain⟨i,j,o,ex,ey,eo,rfl⟩:=dA h;have ex:=(ex▸tx).int ok;have ey:=(ey▸ty).int ok;cases eo;exact iX pins s c.σ c.H vx vy v u Q I rx ry ⟨_,_,ex,ey,q.flat hσ ok n rfl⟩
 |mul =>
  obtain⟨i,j,o,ex,ey,eo,rfl⟩:=dA h;have ex:=(ex▸tx).int ok;have ey:=(ey▸ty).int ok;unfold wI at eo;split at eo
  ·cases eo;exact lB pins s c.σ c.H vx vy v u Q I rx ry ⟨_,_,ex,ey,by assumption,q.flat hσ ok n rfl⟩
  ·cases eo
 |fdv =>
  obtain⟨i,j,o,ex,ey,eo,rfl⟩:=dA h;have ex:=(ex▸tx).int ok;have ey:=(ey▸ty).int ok;unfold wJ at eo;split at eo
  ·cases eo;exact vY pins s c.σ c.H vx vy v u Q I rx ry ⟨_,_,ex,ey,by assumption,q.flat hσ ok n rfl⟩
  ·cases eo
 |mod =>
  obtain⟨i,j,o,ex,ey,eo,rfl⟩:=dA h;have ex:=(ex▸tx).int ok;have ey:=(ey▸ty).int ok;unfold wK at eo;split at eo
  ·cases eo;exact br pins s c.σ c.H vx vy v u Q I rx ry ⟨_,_,ex,ey,by assumption,q.flat hσ ok n rfl⟩
  ·cases eo
 |pow =>
  obtain⟨i,j,o,ex,ey,eo,rfl⟩:=dA h;have ex:=(ex▸tx).int ok;have ey:=(ey▸ty).int ok;unfold wL at eo;split at eo
  ·cases eo;exact lC pins s c.σ c.H vx vy v u Q I rx ry ⟨_,_,ex,ey,by assumption,q.flat hσ ok n rfl⟩
  ·cases eo
theorem wU{op:Bop}{a b:Expr}{ma mb:M (Kd×U)}{pos:Pos}(hK:C.K=X.K)(ha:PE X a (tEv C ma))(hb:PE X b (tEv C mb)):PE X (.BinOp a op.op b pos) (tEv C (ma >>= fun x=>mb >>= fun y=>ay [x,y] >>= fun _=>M.ofO (opU op x y))):=by
 rintro pins s σ H Q I ⟨c0,rfl,rfl,ok,h⟩;refine wpAny_BinOp (two ha hb I ok h fun x y c vx vy v u s2 t I2 rx ry w=>?_);obtain⟨r,e,q⟩:=cJ.mp w;exact thn (ze hK t I2 rx ry e q) fun _ _ z=>by rw[t.hσ]at z;exact z
noncomputable def Cop.op:Cop->CmpOp
 |.eq=>.Eq|.ne=>.NotEq|.lt=>.Lt|.le=>.LtE|.gt=>.Gt|.ge=>.GtE|.isin=>.In|.notin=>.NotIn|.is=>.Is|.isnt=>.IsNot
theorem AI{neg:Bool}(I:Inv X pins c.σ c.H s)(hK:C.K=X.K)(hu:X.A.units+60<cLine){x:U}{ys:List U}{vx:V}{v:Value}{a:Addr}{vs:List V}{S:Addr->Prop}(hx:Rep C S c.H x vx)(rx:RelV vx v)(hy:ai C S c.H ys vs)
  (ha:SqL C.K c.H a vs\/SqT C.K c.H a vs) (e1:eqD 50 x=true) (e2:b9 50 ys=true) {Q:Value->Shared->Prop} (q:Q (.bool (if neg then !(ys.any fun y=>bj y x) else ys.any fun y=>bj y x)) s) :
  wpAny (model X.prog X.w) X.A (compareOp (if neg then .NotIn else .In) v (.ref a)) Q X.xe s:=by
 have hS:∀(j:Nat) (w:U) (vw:V),ys[j]?=some w->vs[j]?=some vw->Rep C S c.H w vw:=fun j w vw h1 h2=>by
  obtain⟨vw',e,r⟩:=hy.get h1;rw[h2]at e;cases e;exact r
 have eD:∀(j:Nat) (w:U),ys[j]?=some w->eqD 50 w=true:=by
  have:∀(l:List U),b9 50 l=true->∀w∈l,eqD 50 w=true:=by
   intro l;induction l with
   |nil=>intro _ w hw;cases hw
   |cons z l ih =>
    intro h w hw;simp only[b9,Bool.and_eq_true]at h;rcases List.mem_cons.mp hw with rfl|hw
    ·exact h.1
    ·exact ih h.2 w hw
  exact fun j w h=>this ys e2 w (List.mem_of_getElem? h)
 have go:∀its:List Value,Vals vs its->∃e:Value->Bool,(∀y,y∈its.toArray->SeqAt.EqAt X.A.in1 s y v (e y))/\its.toArray.any e=ys.any fun y=>bj y x:=by
  intro its rv;have l1:=hy.len;have l2:=rv.length
  classical
  have at':∀(j:Nat) (y:Value),its[j]?=some y->∃w vw,ys[j]?=some w/\vs[j]?=some vw/\RelV vw y/\Rep C S c.H w vw:=by
   intro j y h;have hj:j<its.length:=(List.getElem?_eq_some_iff.mp h).1;obtain⟨w,hw⟩:∃w,ys[j]?=some w:=⟨ys[j]'(by omega),by simp⟩
   obtain⟨vw,hvw,r⟩:=hy.get hw;obtain⟨y',hy',rr⟩:=rv.get hvw;rw[h]at hy';cases hy';exact⟨w,vw,hw,hvw,rr,r⟩
  refine⟨fun y=>decide (∃(j:Nat) (w:U),its[j]?=some y/\ys[j]?=some w/\bj w x=true),fun y hmem=>?_,?_⟩
  ·obtain⟨j,hj,e⟩:=List.getElem_of_mem (show y∈its by simpa using hmem);have hjy:its[j]?=some y:=by rw[List.getElem?_eq_getElem hj,e]
   obtain⟨w,vw,hw,hvw,rr,r⟩:=at' j y hjy;have eq:decide (∃(j:Nat) (w:U),its[j]?=some y/\ys[j]?=some w/\bj w x=true)=bj w x:=by
    rw[Bool.eq_iff_iff,decide_eq_true_iff];constructor
    ·rintro⟨j',w',h1,h2,h3⟩;obtain⟨w2,vw2,hw2,_,rr2,r2⟩:=at' j' y h1;rw[h2]at hw2;cases hw2;have:vw2=vw:=rr2.inj rr;subst this;rw[qw I hK w w' vw2 50 (eD j w hw) (eD j' w' h2) r r2];exact h3
    ·intro h;exact⟨j,w,hjy,hw,h⟩
   have z:=ug I hK w x vw vx y v 50 X.A.in1 (eD j w hw) e1 r hx rr rx (by show X.A.units+1+50 < _;omega);rw[<-eq]at z;exact z
  ·rw[Bool.eq_iff_iff];simp only[List.any_toArray,List.any_eq_true,decide_eq_true_iff];constructor
   ·rintro⟨y,_,j,w,h1,h2,h3⟩;exact⟨w,List.mem_of_getElem? h2,h3⟩
   ·rintro⟨w,hw,h3⟩;obtain⟨j,hj,e⟩:=List.getElem_of_mem hw;have hjy:its[j]?=some (its[j]'(by omega)):=List.getElem?_eq_getElem _;exact⟨its[j]'(by omega),List.getElem_mem _,j,w,hjy,by rw[List.getElem?_eq_getElem hj,e],h3⟩
 rcases ha with ha|ha
 ·obtain⟨its,rv,p,_⟩:=qu I (hK▸ha);obtain⟨e,h1,h2⟩:=go its rv;cases neg with
  |false=>exact SeqAt.in_listAt e p h1 (by rw[h2];exact q)
  |true=>exact SeqAt.notIn_listAt e p h1 (by rw[h2];exact q)
 ·rw[hK]at ha;obtain⟨its,rv,p,_⟩:=I.tuple ha;obtain⟨e,h1,h2⟩:=go its rv;cases neg with
  |false=>exact SeqAt.in_tupleAt e p h1 (by rw[h2];exact q)
  |true=>exact SeqAt.notIn_tupleAt e p h1 (by rw[h2];exact q)
end
end TM
namespace TM
open PySem L2 PyProof.Rows
section
variable{X:Cx}{C:Ct}{pins:List (Addr×Obj)}{s:Shared}{c0 c:Cf}{Q:VK}
theorem bQ:∀{us:List U}{ss:List Str},strsOf us=some ss->us=ss.map .str
 |[],ss,h=>by cases h;rfl
 |.str x::us,ss,h=>by
  simp only[strsOf,Option.map_eq_some_iff]at h;obtain⟨t,h1,rfl⟩:=h;rw[bQ h1];rfl
 |.non::_,_,h=>by cases h
 |.bl _::_,_,h=>by cases h
 |.int _::_,_,h=>by cases h
 |.tup _::_,_,h=>by cases h
 |.lst _::_,_,h=>by cases h
 |.dic _ _::_,_,h=>by cases h
 |.rdc _::_,_,h=>by cases h
theorem fS:∀{us:List U}{ss:List Bool},eO us=some ss->us=ss.map .bl
 |[],ss,h=>by cases h;rfl
 |.bl x::us,ss,h=>by
  simp only[eO,Option.map_eq_some_iff]at h;obtain⟨t,h1,rfl⟩:=h;rw[fS h1];rfl
 |.non::_,_,h=>by cases h
 |.str _::_,_,h=>by cases h
 |.int _::_,_,h=>by cases h
 |.tup _::_,_,h=>by cases h
 |.lst _::_,_,h=>by cases h
 |.dic _ _::_,_,h=>by cases h
 |.rdc _::_,_,h=>by cases h
theorem ai.bls{S:Addr->Prop}{H:Hp}:∀{xs:List Bool}{vs:List V},ai C S H (xs.map .bl) vs->vs=xs.map V.bl
 |[],vs,h=>h
 |x::xs,vs,h=>by
  obtain⟨v,r,rfl,h1,h2⟩:=h;rw[ai.bls h2];have:v=.bl x:=h1;rw[this];rfl
noncomputable def AJ(r:dJ):U:=.tup [.str r.1,.tup (r.2.map .str)]
theorem jw{u:U}{r:dJ}(h:rowOf u=some r):u=AJ r:=by
 unfold rowOf at h;split at h
 ·rw[Option.map_eq_some_iff]at h;obtain⟨ss,h1,rfl⟩:=h;rw[bQ h1];rfl
 ·cases h
noncomputable def zf(X:Cx)(pins:List (Addr×Obj))(c:Cf)(b:Bool)(v:Value)(s':Shared):Prop:=v=.bool b/\Inv X pins c.σ c.H s'
theorem cI{f:Value->Value->Sem Value}{r:R2}{b:Bool}{vx vy:V}{v u:Value}(o:OpR X f r)(I:Inv X pins c.σ c.H s)(rx:RelV vx v)(ry:RelV vy u)(h:r vx vy c.H fun x H'=>x=.bl b/\H'=c.H):
  wpAny (model X.prog X.w) X.A (f v u) (zf X pins c b) X.xe s :=
 thn (o pins s c.σ c.H vx vy v u _ I rx ry h) fun w s' hIx=>by
  obtain⟨z,H',I',r,e1,e2⟩:=hIx;subst e1 e2;exact⟨r,I'⟩
theorem aI.dict{k:Kd}{ks:List Str}{us:List U}{v:V}(ok:Ok C c)(h:aI C c0 c k (.dic ks us) v):∃a kvs,v=.ref a/\c.H a=some (.dK kvs)/\kvs.map (·.1)=ks.map Sum.inr/\ai C (SK C c k) c.H us (kvs.map (·.2)):=by
 cases k with
 |own=>obtain⟨r,e,_,_,_,kvs,h1,h2,h3⟩:=h;exact⟨r,kvs,e,h1,h2,h3⟩
 |loc=>obtain⟨a,e,_,kvs,h1,h2,h3⟩:=h;exact⟨a,kvs,e,h1,h2,h3⟩
 |any=>obtain⟨a,e,_,kvs,h1,h2,h3⟩:=h;exact⟨a,kvs,e,h1,h2,h3⟩
 |bor j=>obtain⟨r,e,_,_,_,kvs,h1,h2,h3⟩:=ok.rootOf h.1 h.2;exact⟨r,kvs,e,h1,h2,h3⟩
 |io=>exact h.elim
 |ownD=>exact h.elim
theorem aI.qr{k:Kd}{ks:List dJ}{v:V}(ok:Ok C c)(h:aI C c0 c k (.rdc ks) v):∃a,v=.ref a/\d7 C.P C.w C.K c.H a ks:=by
 cases k with
 |own=>obtain⟨r,e,_,_,_,h⟩:=h;exact⟨r,e,h⟩
 |loc=>obtain⟨a,e,_,h⟩:=h;exact⟨a,e,h⟩
 |any=>obtain⟨a,e,_,h⟩:=h;exact⟨a,e,h⟩
 |bor j=>obtain⟨r,e,_,_,_,h⟩:=ok.rootOf h.1 h.2;exact⟨r,e,h⟩
 |io=>exact h.elim
 |ownD=>exact h.elim
theorem gW{S:Addr->Prop}{H:Hp}{x:Str}:∀{ks:List Str}{us:List U}{kvs:List (Key×V)},kvs.map (·.1)=ks.map Sum.inr->ai C S H us (kvs.map (·.2)) ->
  (∀u,ue ks us x=some u->∃v,gb kvs (Sum.inr x)=some v/\Rep C S H u v)/\(gb kvs (Sum.inr x)).isSome=decide (x∈ks)
 |[],us,kvs,h1,h2=>by
  have:kvs=[]:=by simpa using h1
  subst this;exact⟨fun u h=>by cases us<;>simp[ue]at h,by simp[gb]⟩
 |k::ks,us,[],h1,h2=>by simp at h1
 |k::ks,[],p::kvs,h1,h2=>by simp[ai]at h2
 |k::ks,u0::us,p::kvs,h1,h2=>by
  obtain⟨v,r,e,h3,h4⟩:=h2;rw[List.map_cons]at e;cases e;rw[List.map_cons,List.map_cons,List.cons.injEq]at h1;obtain⟨i1,i2⟩:=gW (x:=x) h1.2 h4;by_cases hk:k=x
  ·subst hk;refine⟨fun u h=>?_,?_⟩
   ·simp[ue]at h;subst h;exact⟨p.2,eh h1.1,h3⟩
   ·rw[eh h1.1];simp
  ·have hp:¬p.1=Sum.inr x:=by rw[h1.1];intro z;exact hk (Sum.inr.inj z)
   refine⟨fun u h=>?_,?_⟩
   ·simp[ue,hk]at h;obtain⟨v,e,q⟩:=i1 u h;exact⟨v,by rw[eu hp];exact e,q⟩
   ·rw[eu hp,i2];simp[Ne.symm hk]
theorem zg(hu:X.A.units+3<cLine):OpR X (compareOp .In) (fun x y H Q=>∃k d ks,eC X.K H x k/\y=.ref d/\d7 X.prog X.w X.K H d ks/\Q (.bl (decide (k∈ks))) H):=by
 intro pins s σ H x y v u Q I rx ry h;obtain⟨k,d,ks,⟨a,b,rfl,h1,h2⟩,rfl,⟨xs,h3,h4,h5⟩,q⟩:=h;cases rx;cases ry;obtain⟨hd,dd⟩:=je I h3 h5;refine wpAny_in_heap hu (iG I ⟨a,b,rfl,h1,h2⟩) hd dd ?_;exact⟨.bl (decide (k∈ks)),H,I.tok _,by rw[fK,h4];rfl,q⟩
theorem Rep.row{S:Addr->Prop}{H:Hp}{r:dJ}{v:V}(h:Rep C S H (AJ r) v):eC C.K H v r:=by
 obtain⟨a,vs,e,h1,v1,r1,e1,h2,v2,r2,e2,h3,h4⟩:=h;cases h4;have e3:v1=.str r.1:=h2;obtain⟨b,ws,e4,h5,h6⟩:=h3;rw[ai.strs]at h6;subst e1 e2 e3 e4 h6;exact⟨a,b,e,h1,h5⟩
theorem Rep.kO{S:Addr->Prop}{H:Hp}{u:U}{v:V}(h:Rep C S H u v):decide (v=.non)=kO u:=by
 cases u with
 |non=>have:v=.non:=h;subst this;rfl
 |bl b=>have:v=.bl b:=h;subst this;rfl
 |int b=>have:v=.int b:=h;subst this;rfl
 |str b=>have:v=.str b:=h;subst this;rfl
 |tup us=>obtain⟨a,vs,rfl,_⟩:=h;rfl
 |lst us=>obtain⟨a,vs,rfl,_⟩:=h;rfl
 |dic ks us=>obtain⟨a,rfl,_⟩:=h;rfl
 |rdc ks=>obtain⟨a,rfl,_⟩:=h;rfl
theorem uj:OpR X (compareOp .Is) (fun x y H Q=>∃i j,x=.bl i/\y=.bl j/\Q (.bl (i==j)) H):=by
 intro pins s σ H x y v u Q I rx ry h;obtain⟨i,j,rfl,rfl,q⟩:=h;cases rx;cases ry;cases i<;>cases j<;>exact wpAny_pure (lD I q rfl)
theorem pf:OpR X (compareOp .IsNot) (fun x y H Q=>∃i j,x=.bl i/\y=.bl j/\Q (.bl (!(i==j))) H):=by
 intro pins s σ H x y v u Q I rx ry h;obtain⟨i,j,rfl,rfl,q⟩:=h;cases rx;cases ry;cases i<;>cases j<;>exact wpAny_pure (lD I q rfl)
theorem um{op:Cop}{x y:Kd×U}{b:Bool}{vx vy:V}{v u:Value}(hP:C.P=X.prog)(hw:C.w=X.w)(hK:C.K=X.K)(hu:X.A.units+60<cLine)(t:At2 C c0 c x y vx vy)(I:Inv X pins c.σ c.H s)(rx:RelV vx v)(ry:RelV vy u)(h:bo op x.2 y.2=some b):
  wpAny (model X.prog X.w) X.A (compareOp op.op v u) (zf X pins c b) X.xe s:=by
 obtain⟨hσ,ok,n,tx,ty,_⟩:=t;obtain⟨kx,ux⟩:=x;obtain⟨ky,uy⟩:=y
 dsimp only at h tx ty
 have has:∀neg:Bool,∀b',iD ux uy=some b'->wpAny (model X.prog X.w) X.A (compareOp (if neg then .NotIn else .In) v u) (zf X pins c (if neg then !b' else b')) X.xe s:=by
  intro neg b' h;have mx:=tx.read ok;have my:=ty.read ok;unfold iD at h;split at h
  ·obtain⟨a,vs,rfl,h1,h2⟩:=my;cases ry;unfold inU at h;split at h
   ·rename_i hh;cases h;exact AI I hK hu mx rx h2 (.inl h1.sq) hh.1 hh.2 ⟨by cases neg<;>rfl,I⟩
   ·cases h
  ·obtain⟨a,vs,rfl,h1,h2⟩:=my;cases ry;unfold inU at h;split at h
   ·rename_i hh;cases h;exact AI I hK hu mx rx h2 (.inr h1) hh.1 hh.2 ⟨by cases neg<;>rfl,I⟩
   ·cases h
  ·cases h;have ex:vx=_:=mx;obtain⟨a,kvs,rfl,h1,h2,h3⟩:=ty.dict ok;cases ry;subst ex;have hs:=fun z:Str=>(gW (x:=z) h2 h3).2;cases neg with
   |false=>exact BP (by omega) I (rD.k (k:=Sum.inr _) h1) rx fun s' I'=>⟨by rw[hs];rfl,I'⟩
   |true=>exact wg (by omega) I (rD.k (k:=Sum.inr _) h1) rx fun s' I'=>⟨by rw[hs];rfl,I'⟩
  ·rw[Option.map_eq_some_iff]at h;obtain⟨r,h1,h2⟩:=h;have e:=jw h1;subst e;have hr:=mx.row;obtain⟨a,ea,h3⟩:=ty.qr ok;rw[hK]at hr h3;rw[hP,hw]at h3;subst h2;cases neg with
   |false=>exact cI (zg (by omega)) I rx ry ⟨r,a,_,hr,ea,h3,rfl,rfl⟩
   |true=>exact cI (rG (by omega)) I rx ry ⟨r,a,_,hr,ea,h3,rfl,rfl⟩
  ·cases h
 unfold bo at h;split at h
 ·split at h
  ·rename_i hh;cases h;exact BY I hK _ _ vx vy v u 50 X.A hh.1 hh.2 (tx.read ok) (ty.read ok) rx ry (by omega) _ _ _ _ ⟨rfl,I⟩
  ·cases h
 ·split at h
  ·rename_i hh;cases h;exact zd I hK _ _ vx vy v u 50 X.A hh.1 hh.2 (tx.read ok) (ty.read ok) rx ry (by omega) _ _ _ _ ⟨rfl,I⟩
  ·cases h
 ·cases h;exact cI Aq I rx ry ⟨_,_,tx.int ok,ty.int ok,rfl,rfl⟩
 ·cases h;exact cI Ar I rx ry ⟨_,_,tx.int ok,ty.int ok,rfl,rfl⟩
 ·cases h;exact cI As I rx ry ⟨_,_,tx.int ok,ty.int ok,rfl,rfl⟩
 ·cases h;exact cI rU I rx ry ⟨_,_,tx.str ok,ty.str ok,rfl,rfl⟩
 ·exact has false b h
 ·rw[Option.map_eq_some_iff]at h;obtain⟨b',h1,rfl⟩:=h;exact has true b' h1
 ·cases h;have e:=ty.non ok;exact cI yC I rx ry ⟨e,by rw[(tx.read ok).kO],rfl⟩
 ·cases h;have e:=ty.non ok;exact cI vZ I rx ry ⟨e,by rw[(tx.read ok).kO],rfl⟩
 ·cases h;exact cI uj I rx ry ⟨_,_,tx.bl ok,ty.bl ok,rfl,rfl⟩
 ·cases h;exact cI pf I rx ry ⟨_,_,tx.bl ok,ty.bl ok,rfl,rfl⟩
 ·cases h
variable{a b d:Expr}{ma mb md:M (Kd×U)}{pos:Pos}
theorem wV{op:Cop}(hP:C.P=X.prog)(hw:C.w=X.w)(hK:C.K=X.K)(hu:X.A.units+60<cLine)(ha:PE X a (tEv C ma))(hb:PE X b (tEv C mb))(hm:behindInMarks op.op b=false):
  PE X (.Compare a [op.op] [b] pos) (tEv C (ma >>= fun x=>mb >>= fun y=>ay [x,y] >>= fun _=>M.ofO (bo op x.2 y.2) >>= fun c=>pure (.loc,.bl c))):=by
 rintro pins s σ H Q I ⟨c0,rfl,rfl,ok,h⟩;refine wpAny_Compare1 (two ha hb I ok h fun x y c vx vy v u s2 t I2 rx ry w=>?_) hm;rw[ah]at w;obtain⟨r,e,q⟩:=cJ.mp w;rw[ao]at q;refine thn (um hP hw hK hu t I2 rx ry e) fun z s' ⟨e,I'⟩=>?_;subst e;exact⟨.bl r,c.H,by rw[<-t.hσ];exact I',rfl,q c (.bl r) t.hσ rfl t.ok t.nx rfl⟩
theorem wW{op:Cop}(hP:C.P=X.prog)(hw:C.w=X.w)(hK:C.K=X.K)(hu:X.A.units+60<cLine)(ha:PE X a (tEv C ma))(hb:PE X b (tEv C mb))(hm:behindInMarks op.op b=false):
  PT X (.Compare a [op.op] [b] pos) (tTs C (ma >>= fun x=>mb >>= fun y=>ay [x,y] >>= fun _=>M.ofO (bo op x.2 y.2))):=by
 rintro pins s σ H Q I ⟨c0,rfl,rfl,ok,h⟩;refine wpAny_isTrue_Compare1 (two (f:=fun v u=>compareOp op.op v u) (Q':=fun _ _ c s=>wpAny (model X.prog X.w) X.A (truthy c) (TP X pins c0.σ Q) X.xe s) ha hb I ok h fun x y c vx vy v u s2 t I2 rx ry w=>?_) hm;obtain⟨r,e,q⟩:=cJ.mp w;refine thn (um hP hw hK hu t I2 rx ry e) fun z s' ⟨e,I'⟩=>?_;subst e;exact wpAny_truthy_bool ⟨c.H,by rw[<-t.hσ];exact I',q c t.hσ rfl t.ok t.nx⟩
end
end TM
namespace TM
open PySem L2 PyProof.Rows
section
variable{X:Cx}{C:Ct}{pins:List (Addr×Obj)}{s:Shared}{c0 c c1:Cf}
variable{a b d:Expr}{ma mb md:M (Kd×U)}{ta tb:M Bool}{pos:Pos}{rest:List Expr}
noncomputable def AK(C:Ct)(c0:Cf)(Q:Bool->Hp->Prop)(b:Bool)(st':aj):Prop:=∀c,c.σ=c0.σ->c.st=st'->Ok C c->Nx c0 c->Q b c.H
theorem uo{m:M (Kd×U)}{Q:VK}(hσ:c1.σ=c0.σ)(ok:Ok C c1)(n:Nx c0 c1)(h:W m c1.st (bT C c0 Q)):tEv C m c0.σ c1.H Q :=
 ⟨c1,hσ,rfl,ok,h.mono fun r st h2 c2 v e3 e4 ok2 n2 r2=>h2 c2 v e3 e4 ok2 (n.trans n2) (r2.from n)⟩
theorem uq{m:M Bool}{Q:Bool->Hp->Prop}(hσ:c1.σ=c0.σ)(ok:Ok C c1)(n:Nx c0 c1)(h:W m c1.st (AK C c0 Q)):tTs C m c0.σ c1.H Q :=
 ⟨c1,hσ,rfl,ok,h.mono fun r st h2 c2 e3 e4 ok2 n2=>h2 c2 e3 e4 ok2 (n.trans n2)⟩
theorem bh{β:Type}{k:Kd×U->M β}{Post:β->aj->Prop}{Z:V->Hp->Prop}(ok:Ok C c0)(h:W (ma >>= k) c0.st Post)
  (hz:∀x c v,At1 C c0 c x v->W (k x) c.st Post->Z v c.H):tEv C ma c0.σ c0.H Z:=by
 rw[ah]at h;exact⟨c0,rfl,rfl,ok,h.mono fun x st1 h1 c1 vx e1 e2 ok1 n1 r1=>hz x c1 vx ⟨e1,ok1,n1,r1⟩ (by rw[e2];exact h1)⟩
theorem eT{β:Type}{k:Bool->M β}{Post:β->aj->Prop}{Z:Bool->Hp->Prop}(ok:Ok C c0)(h:W (ta >>= k) c0.st Post)
  (hz:∀b c,c.σ=c0.σ->Ok C c->Nx c0 c->W (k b) c.st Post->Z b c.H):tTs C ta c0.σ c0.H Z:=by
 rw[ah]at h;exact⟨c0,rfl,rfl,ok,h.mono fun x st1 h1 c1 e1 e2 ok1 n1=>hz x c1 e1 ok1 n1 (by rw[e2];exact h1)⟩
noncomputable def AL(m:M (Kd×U))(x:Kd×U):M (Kd×U):=match x.2 with
 |.bl true=>m
 |.bl false=>pure (.loc,.bl false)
 |_=>M.fail
noncomputable def orK(m:M (Kd×U))(x:Kd×U):M (Kd×U):=match x.2 with
 |.bl true=>pure (.loc,.bl true)
 |.bl false=>m
 |_=>M.fail
noncomputable def AM(x:Kd×U):M (Kd×U):=match x.2 with
 |.bl c=>pure (.loc,.bl !c)
 |_=>M.fail
theorem snd_and(ha:PE X a (tEv C ma))(hb:PE X (.BoolOp .And (b::rest) pos) (tEv C mb)):PE X (.BoolOp .And (a::b::rest) pos) (tEv C (ma >>= AL mb)):=by
 refine PE.weak (yn ha hb) ?_;rintro σ H Q ⟨c0,rfl,rfl,ok,h⟩;refine bh ok h fun x c v t w=>?_;obtain⟨k,u⟩:=x;obtain⟨hσ,ok1,n,r⟩:=t;unfold AL at w;split at w
 ·rename_i e
  dsimp only at e r
  subst e;exact⟨true,r.bl ok1,by rw[if_pos rfl];exact uo hσ ok1 n w⟩
 ·rename_i e
  dsimp only at e r
  subst e;rw[ao]at w;exact⟨false,r.bl ok1,by rw[if_neg Bool.false_ne_true];exact w c (.bl false) hσ rfl ok1 n rfl⟩
 ·exact(aw.mp w).elim
theorem zh(ha:PE X a (tEv C ma))(hb:PE X (.BoolOp .Or (b::rest) pos) (tEv C mb)):PE X (.BoolOp .Or (a::b::rest) pos) (tEv C (ma >>= orK mb)):=by
 refine PE.weak (Ah ha hb) ?_;rintro σ H Q ⟨c0,rfl,rfl,ok,h⟩;refine bh ok h fun x c v t w=>?_;obtain⟨k,u⟩:=x;obtain⟨hσ,ok1,n,r⟩:=t;unfold orK at w;split at w
 ·rename_i e
  dsimp only at e r
  subst e;rw[ao]at w;exact⟨true,r.bl ok1,by rw[if_pos rfl];exact w c (.bl true) hσ rfl ok1 n rfl⟩
 ·rename_i e
  dsimp only at e r
  subst e;exact⟨false,r.bl ok1,by rw[if_neg Bool.false_ne_true];exact uo hσ ok1 n w⟩
 ·exact(aw.mp w).elim
theorem wX(ha:PE X a (tEv C ma)):PE X (.UnaryOp .Not a pos) (tEv C (ma >>= AM)):=by
 refine PE.weak (yo ha) ?_;rintro σ H Q ⟨c0,rfl,rfl,ok,h⟩;refine bh ok h fun x c v t w=>?_;obtain⟨k,u⟩:=x;obtain⟨hσ,ok1,n,r⟩:=t;unfold AM at w;split at w
 ·rename_i e
  dsimp only at e r
  subst e;rw[ao]at w;exact⟨_,r.bl ok1,w c (.bl _) hσ rfl ok1 n rfl⟩
 ·exact(aw.mp w).elim
theorem wY(ha:PT X a (tTs C ta)):PT X (.UnaryOp .Not a pos) (tTs C (ta >>= fun b=>pure !b)):=by
 refine PT.weak (ym ha) ?_;rintro σ H Q ⟨c0,rfl,rfl,ok,h⟩;refine eT ok h fun p c hσ ok1 n w=>?_;rw[ao]at w;exact w c hσ rfl ok1 n
theorem wZ(ha:PT X a (tTs C ta))(hb:PW X (.BoolOp .And (b::rest) pos) (tTs C tb)):PW X (.BoolOp .And (a::b::rest) pos) (tTs C (ta >>= fun p=>if p=true then tb else pure false)):=by
 have h0:=yl ha hb;rintro wh pins s σ H Q I ⟨c0,rfl,rfl,ok,h⟩;refine h0 wh pins s c0.σ c0.H Q I (eT ok h fun p c hσ ok1 n w=>?_);cases p with
 |true=>rw[if_pos rfl]at w ⊢;exact uq hσ ok1 n w
 |false=>rw[if_neg Bool.false_ne_true]at w ⊢;rw[ao]at w;exact w c hσ rfl ok1 n
theorem zi(ha:PT X a (tTs C ta))(hb:PW X (.BoolOp .Or (b::rest) pos) (tTs C tb)):PW X (.BoolOp .Or (a::b::rest) pos) (tTs C (ta >>= fun p=>if p=true then pure true else tb)):=by
 have h0:=Ae ha hb;rintro wh pins s σ H Q I ⟨c0,rfl,rfl,ok,h⟩;refine h0 wh pins s c0.σ c0.H Q I (eT ok h fun p c hσ ok1 n w=>?_);cases p with
 |true=>rw[if_pos rfl]at w ⊢;rw[ao]at w;exact w c hσ rfl ok1 n
 |false=>rw[if_neg Bool.false_ne_true]at w ⊢;exact uq hσ ok1 n w
theorem qy{α β:Type}{us:List α}{vs:List β}(h:us.length=vs.length):(!us.isEmpty)=!vs.isEmpty:=by
 cases us<;>cases vs<;>simp_all
theorem dP(ha:PE X a (tEv C ma))(hK:C.K=X.K)(he:∀whole,isTrue a X.env whole=(do let v <-whole;standAt a.pos;holding [v] (truthy v))):PT X a (tTs C (ma >>= fun x=>M.ofO (kl x.2))):=by
 refine PT.weak (sV ha he) ?_;rintro σ H Q ⟨c0,rfl,rfl,ok,h⟩;refine bh ok h fun x c v t w=>?_;obtain⟨k,u⟩:=x;obtain⟨hσ,ok1,n,r⟩:=t;obtain⟨p,e,q⟩:=cJ.mp w
 dsimp only at e r
 refine⟨p,?_,q c hσ rfl ok1 n⟩;unfold kl at e;split at e
 ·cases e;rw[r.bl ok1];rfl
 ·cases e;obtain⟨a,vs,rfl,h1,h2⟩:=r.list ok1;exact .inl ⟨vs,hK▸h1,qy h2.len⟩
 ·cases e;obtain⟨a,vs,rfl,h1,h2⟩:=r.tuple ok1;rw[hK]at h1;exact .inr (.inl ⟨vs,h1,qy h2.len⟩)
 ·split at e
  ·cases e;rw[r.str ok1];exact⟨by assumption,rfl⟩
  ·cases e
 ·cases e
end
end TM
namespace TM
open PySem L2 PyProof.Rows
section
variable{X:Cx}{C:Ct}{pins:List (Addr×Obj)}{s:Shared}{c0 c c1:Cf}
variable{a b d e:Expr}{es:List Expr}{m ma mb md:M (Kd×U)}{ms:M (List (Kd×U))}{ta tb:M Bool}{pos p:Pos}
theorem b_.from{rs:List (Kd×U)}{vs:List V}(n:Nx c0 c1):b_ C c1 c rs vs->b_ C c0 c rs vs:=by
 intro h;induction rs generalizing vs with
 |nil=>exact h
 |cons r rs ih=>obtain⟨v,t,e,h1,h2,h3⟩:=h;exact⟨v,t,e,h1.from n,ih h2,h3⟩
theorem b_.get{rs:List (Kd×U)}{vs:List V}{i:Nat}{r:Kd×U}{v:V}(h:b_ C c0 c rs vs)(e:rs[i]?=some r)(e':vs[i]?=some v):eM C c0 c r.1 r.2 v:=by
 induction rs generalizing vs i with
 |nil=>simp at e
 |cons r' rs ih =>
  obtain⟨v',t,rfl,h1,h2,h3⟩:=h;cases i with
  |zero=>simp at e e';subst e e';exact h1
  |succ i=>exact ih h2 (by simpa using e) (by simpa using e')
theorem w9:PA X [] (tEs C (pure [])):=by
 rintro pos pins s σ H Q I ⟨c0,rfl,rfl,ok,h⟩;rw[ao]at h;exact oG pos pins s c0.σ c0.H Q I (h c0 [] rfl rfl ok (Nx.refl c0) rfl)
theorem ur(ha:PE X e (tEv C m))(hr:PA X es (tEs C ms))(hs:starEach (e::es) X.env=(false,eval e X.env)::starEach es X.env):PA X (e::es) (tEs C (m >>= fun r=>ms >>= fun rs=>pure (r::rs))):=by
 rintro pos pins s σ H Q I ⟨c0,rfl,rfl,ok,h⟩;refine lF ha hr hs pos pins s c0.σ c0.H Q I (bh ok h fun r c1 v t w=>?_);rw[ah]at w;refine⟨c1,t.hσ,rfl,t.ok,w.mono fun rs st2 h2 c2 vs e3 e4 ok2 n2 r2=>?_⟩;rw[ao]at h2;refine h2 c2 (v::vs) e3 e4 ok2 (t.nx.trans n2) ⟨v,vs,rfl,t.rx.w.on t.ok n2 (e3.trans t.hσ.symm),r2.from t.nx,fun hk i r' v' e5 e6 hk'=>?_⟩;exact l8 t.rx.w (r2.get e5 e6) hk hk'
structure Ats(C:Ct)(c0 c:Cf)(rs:List (Kd×U))(vs:List V):Prop where
 hσ:c.σ=c0.σ
 ok:Ok C c
 nx:Nx c0 c
 rep:b_ C c0 c rs vs
 stb:aZ rs c.st
theorem args{β:Type}{k:List (Kd×U)->M β}{Post:β->aj->Prop}(ha:PA X es (tEs C ms))(I:Inv X pins c0.σ c0.H s)(ok:Ok C c0)(h:W (ms >>= fun rs=>ay rs >>= fun _=>k rs) c0.st Post)(pos:Pos):
  wpAny (model X.prog X.w) X.A (spliced (backTo pos (starEach es X.env))) (fun us s1=>∃rs c vs,Ats C c0 c rs vs/\Inv X pins c.σ c.H s1/\Vals vs us/\W (k rs) c.st Post) X.xe s:=by
 rw[ah]at h;refine thn (ha pos pins s c0.σ c0.H (fun vs H1=>∃rs c,c.H=H1/\Ats C c0 c rs vs/\W (k rs) c.st Post) I ⟨c0,rfl,rfl,ok,h.mono fun rs st1 h1 c1 vs e1 e2 ok1 n1 r1=>?_⟩) ?_
 ·rw[ah,bV]at h1;subst e2;exact⟨rs,c1,rfl,⟨e1,ok1,n1,r1,h1.1⟩,h1.2⟩
 ·rintro us s1 ⟨vs,H1,I1,rv,rs,c1,rfl,t,w⟩;exact⟨rs,c1,vs,t,by rw[t.hσ];exact I1,rv,w⟩
theorem Ats.one{r:Kd×U}{vs:List V}(t:Ats C c0 c [r] vs):∃v,vs=[v]/\aI C c0 c r.1 r.2 v:=by
 obtain⟨v,t',rfl,h1,h2,_⟩:=t.rep;cases h2;exact⟨v,rfl,h1.t t.stb⟩
theorem Ats.two{r r':Kd×U}{vs:List V}(t:Ats C c0 c [r,r'] vs):∃v v',vs=[v,v']/\aI C c0 c r.1 r.2 v/\aI C c0 c r'.1 r'.2 v':=by
 obtain⟨v,t',rfl,h1,⟨v',t'',rfl,h2,h3,_⟩,_⟩:=t.rep;cases h3;have hs:=fj.mp t.stb;exact⟨v,v',rfl,h1.t hs.1,h2.t hs.2⟩
theorem Ok.share(ok:Ok C c){r:Addr}{st':aj}(h0:C.H₀ r=none)(hH:∃o,c.H r=some o)(hl:st'.length=c.st.length)
  (hst:∀(i:Nat) k u,st'[i]?=some (some (k,u))->(∃v,c.σ[i]?=some (some v)/\eJ C (fun a=>c.S a\/a=r) c.H k u v)/\(k.root=true->c.st[i]?=some (some (k,u)))) (hdd:DOk C {c with S:=fun a=>c.S a\/a=r,st:=st' }) :
  Ok C {c with S:=fun a=>c.S a\/a=r,st:=st' }:=by
 refine⟨ok.same,fun a z=>?_,ok.par,ok.io,by rw[show({c with S:=fun a=>c.S a\/a=r,st:=st' }:Cf).st.length=st'.length from rfl,hl];exact ok.len,fun i k u e=>(hst i k u e).1,fun i j k k' u u' r' hk hk' e1 e2 e3 e4=>?_,hdd⟩
 ·rcases z with z|rfl
  ·exact ok.sfr a z
  ·exact⟨h0,hH⟩
 ·exact ok.inj i j k k' u u' r' hk hk' ((hst i k u e1).2 hk) ((hst j k' u' e2).2 hk') e3 e4
theorem Ok.zj(ok0:Ok C c0)(ok:Ok C c)(n:Nx c0 c){r:Addr}(h0:c0.H r=none)(hR:¬c.R r){u:U}(hr:cX C c.S c.H r u):
  Ok C {c with S:=fun a=>c.S a\/a=r}/\Nx c0 {c with S:=fun a=>c.S a\/a=r}:=by
 obtain⟨o,ho,_⟩:=hr.some;refine⟨ok.share (st':=c.st) (ok0.oZ h0).1 ⟨o,ho⟩ rfl (fun i k u e=>⟨?_,fun _=>e⟩) (ok.dd.hs (.up fun a=>.inl) fun j a z=>⟨fun q=>q.elim (ok.root (.inr ⟨j,z⟩)).1 fun e=>hR (.inr ⟨j,e▸z⟩),fun o q=>q⟩),⟨⟨n.keep,n.there,n.roots,fun a z=>.inl (n.sub a z),fun a z=>?_⟩,n.all⟩⟩
 ·obtain⟨v,e1,e2⟩:=ok.sl i k u e;have mup:Mv c.S c.H (fun a=>c.S a\/a=r) c.H:=.up fun a=>.inl;refine⟨v,e1,e2.mv mup (.up fun a z=>z.imp id .inl) fun hk r' er=>⟨?_,fun o q=>q⟩⟩;obtain⟨r'',er',q1,_⟩:=e2.rt hk;rw[er]at er';cases er';rintro(z|rfl)
  ·exact q1 z
  ·exact hR (.inl ⟨i,k,u,hk,e,by rw[e1,er]⟩)
 ·rcases z with z|rfl
  ·exact n.new a z
  ·exact .inr (.inr h0)
theorem Ok.uu(ok:Ok C c)(n:Nx c0 c){j:Nat}{u:U}{r:Addr}(hj:c.st[j]?=some (some (.own,u)))(hv:c.σ[j]?=some (some (.ref r))):
  Ok C {c with S:=fun a=>c.S a\/a=r,st:=c.st.set j (some (.loc,u))}/\Nx c0 {c with S:=fun a=>c.S a\/a=r,st:=c.st.set j (some (.loc,u))}/\Rep C (fun a=>c.S a\/a=r) c.H u (.ref r):=by
 obtain⟨v',e1,r',er,q1,q2,q3,q4⟩:=ok.sl j _ _ hj;rw[hv]at e1;cases e1;cases er;have hrep:Rep C (fun a=>c.S a\/a=r) c.H u (.ref r):=q4.rep (fun a=>.inl) (.inr rfl);obtain⟨o,ho,_⟩:=q4.some;have hjl:j<c.st.length:=(List.getElem?_eq_some_iff.mp hj).1;have oth:∀(i:Nat) k u',(c.st.set j (some (.loc,u)))[i]?=some (some (k,u'))->i≠j->c.st[i]?=some (some (k,u')):=fun i k u' e ne=>by rw[List.getElem?_set_ne (Ne.symm ne)]at e;exact e
 have hR1:c.R1 r:=⟨j,.own,u,rfl,hj,hv⟩
 have dD:∀(i:Nat) (u':U),(c.st.set j (some (.loc,u)))[i]?=some (some (.ownD,u'))->c.st[i]?=some (some (.ownD,u')):=fun i u' e=>by
  by_cases hij:i=j
  ·subst hij;rw[List.getElem?_set_self hjl]at e;cases e
  ·exact oth i .ownD u' e hij
 have b1:∀a,({c with S:=fun a=>c.S a\/a=r,st:=c.st.set j (some (.loc,u))}:Cf).R1 a->c.R1 a:=fun a hIx=>by
  obtain⟨i,k,u',hk,e,e'⟩:=hIx;by_cases hij:i=j
  ·subst hij;rw[List.getElem?_set_self hjl]at e;cases e;cases hk
  ·exact⟨i,k,u',hk,oth i k u' e hij,e'⟩
 have hdd:DOk C {c with S:=fun a=>c.S a\/a=r,st:=c.st.set j (some (.loc,u))}:=ok.dd.of rfl (fun i u' e=>⟨dD i u' e,rfl⟩) (fun a z=>.inl (b1 a z)) (.up fun a=>.inl) fun i a z=>⟨fun q=>q.elim (ok.root (.inr ⟨i,z⟩)).1 fun e=>ok.dd.d1 i a z (e▸hR1),fun o q=>q⟩
 refine⟨ok.share (st':=c.st.set j (some (.loc,u))) q3 ⟨o,ho⟩ (by simp) (fun i k u' e=>?_) hdd,⟨⟨n.keep,n.there,fun a z=>?_,fun a z=>.inl (n.sub a z),fun a z=>?_⟩,n.all⟩,hrep⟩
 ·by_cases hij:i=j
  ·subst hij;rw[List.getElem?_set_self hjl]at e;cases e;exact⟨⟨.ref r,hv,hrep⟩,fun z=>nomatch z⟩
  ·have e0:=oth i k u' e hij;obtain⟨v,e1,e2⟩:=ok.sl i k u' e0;refine⟨⟨v,e1,e2.mv (.up fun a=>.inl) (.up fun a z=>z.imp id .inl) fun hk r' er=>⟨?_,fun o q=>q⟩⟩,fun _=>e0⟩;obtain⟨r'',er',p1,_⟩:=e2.rt hk;rw[er]at er';cases er';rintro(z|rfl)
   ·exact p1 z
   ·exact hij (ok.inj i j k .own u' u r' hk rfl e0 hj (by rw[e1,er]) hv)
 ·rcases z with z|⟨i,u',r',e1,e2,e3⟩
  ·exact n.roots a (.inl (b1 a z))
  ·exact n.roots a (.inr ⟨i,u',r',dD i u' e1,e2,e3⟩)
 ·rcases z with z|rfl
  ·exact n.new a z
  ·rcases n.roots a (.inl ⟨j,.own,u,rfl,hj,hv⟩) with z|z
   ·exact .inr (.inl z)
   ·exact .inr (.inr z)
theorem iJ{r:Kd×U}{v:V}{Post:U->aj->Prop}(ok0:Ok C c0)(ok:Ok C c)(n:Nx c0 c)(hr:eM C c0 c r.1 r.2 v)(h:W (lift r) c.st Post):
  ∃(S':Addr->Prop) (st':aj) (u:U),(∀a,c.S a->S' a)/\Ok C {c with S:=S',st:=st' }/\Nx c0 {c with S:=S',st:=st' }/\Rep C S' c.H u v/\Post u st' /\
   (∀a,S' a->c.S a\/v=.ref a/\(r.1=.own\/c.R a))/\∀a,({c with S:=S',st:=st' }:Cf).R a->c.R a:=by
 obtain⟨k,u⟩:=r;cases k with
 |own =>
  rw[show lift (.own,u)=pure u from rfl,ao]at h;obtain⟨r,e,h1,h2,h3,h4⟩:=hr;obtain⟨ok',n'⟩:=Ok.zj ok0 ok n h1 h3 h4;refine⟨_,c.st,u,fun a=>.inl,ok',n',by rw[e];exact h4.rep (fun a=>.inl) (.inr rfl),h,fun a z=>?_,fun a z=>z⟩;rcases z with z|rfl
  ·exact .inl z
  ·exact .inr ⟨e,.inl rfl⟩
 |loc =>
  rw[show lift (.loc,u)=pure u from rfl,ao]at h;exact⟨c.S,c.st,u,fun a=>id,ok,n,hr,h,fun a z=>.inl z,fun a z=>z⟩
 |any =>
  rw[show lift (.any,u)=if imm u=true then pure u else M.fail from rfl]at h;split at h
  ·rw[ao]at h;exact⟨c.S,c.st,u,fun a=>id,ok,n,Rep.imm (by assumption) hr,h,fun a z=>.inl z,fun a z=>z⟩
  ·exact(aw.mp h).elim
 |io=>exact hr.elim
 |ownD=>exact hr.elim
 |bor j =>
  obtain⟨x,st',e,hp⟩:=h;rw[show lift (.bor j,u) c.st=match c.st[j]? with|some (some (.own,u))=>some (Ex.ok u,c.st.set j (some (.loc,u)))|_=>none from rfl]at e;split at e
  ·rename_i w hj;cases e;obtain⟨v',e1,r,er,_⟩:=ok.sl j _ _ hj;have hv:c.σ[j]?=some (some v):=hr;rw[hv]at e1;cases e1;subst er;obtain⟨ok',n',rep⟩:=ok.uu n hj hv;refine⟨_,_,_,fun a=>.inl,ok',n',rep,hp,fun a z=>?_,fun a z=>?_⟩
   ·rcases z with z|rfl
    ·exact .inl z
    ·exact .inr ⟨rfl,.inr (.inl ⟨j,.own,_,rfl,hj,hv⟩)⟩
   ·rcases z with⟨i,k,u',hk,e,e'⟩|⟨i,u',r',e,e',e''⟩
    rotate_left 1
    ·by_cases hij:i=j
     ·subst hij;have hjl:i<c.st.length:=(List.getElem?_eq_some_iff.mp hj).1;rw[List.getElem?_set_self hjl]at e;cases e
     ·rw[List.getElem?_set_ne (Ne.symm hij)]at e;exact .inr ⟨i,u',r',e,e',e''⟩
    by_cases hij:i=j
    ·subst hij;have hjl:i<c.st.length:=(List.getElem?_eq_some_iff.mp hj).1;rw[List.getElem?_set_self hjl]at e;cases e;cases hk
    ·rw[List.getElem?_set_ne (Ne.symm hij)]at e;exact .inl ⟨i,k,u',hk,e,e'⟩
  ·cases e
theorem gA:∀{rs:List (Kd×U)}{vs:List V}{c:Cf}{Post:List U->aj->Prop},Ok C c0->Ok C c->Nx c0 c->b_ C c0 c rs vs->W (cK rs) c.st Post ->
  ∃(S':Addr->Prop) (st':aj) (us:List U),(∀a,c.S a->S' a)/\Ok C {c with S:=S',st:=st' }/\Nx c0 {c with S:=S',st:=st' }/\ai C S' c.H us vs/\Post us st'
 |[],vs,c,Post,ok0,ok,n,hr,h=>by
  rw[show cK []=pure [] from rfl,ao]at h;exact⟨c.S,c.st,[],fun a=>id,ok,n,hr,h⟩
 |r::rs,vs,c,Post,ok0,ok,n,hr,h=>by
  obtain⟨v,t,rfl,h1,h2,h3⟩:=hr;rw[show cK (r::rs)=lift r >>= fun u=>cK rs >>= fun us=>pure (u::us) from rfl,ah]at h;obtain⟨S1,st1,u,s1,ok1,n1,rep1,h4,hS1,hR1⟩:=iJ ok0 ok n h1 h;rw[ah]at h4;have hr2:b_ C c0 {c with S:=S1,st:=st1} rs t:=by
   clear h h4;have aux:∀(l:List (Kd×U)) (w:List V),b_ C c0 c l w->(r.1=.own->∀(i:Nat) r' v',l[i]?=some r'->w[i]?=some v'->r'.1=.own->v'≠v)->b_ C c0 {c with S:=S1,st:=st1} l w:=by
    intro l;induction l with
    |nil=>intro w q _;exact q
    |cons r2 l ih =>
     intro w q hne;obtain⟨v2,t2,rfl,q1,q2,q3⟩:=q;refine⟨v2,t2,rfl,?_,ih t2 q2 (fun hk i r' v' e1 e2 hk'=>hne hk (i+1) r' v' (by simpa using e1) (by simpa using e2) hk'),q3⟩;obtain⟨k2,u2⟩:=r2;cases k2 with
     |own =>
      obtain⟨a,e,p1,p2,p3,p4⟩:=q1;refine⟨a,e,p1,fun z=>?_,fun z=>p3 (hR1 a z),p4.mv (.up s1) fun o q=>q⟩;rcases hS1 a z with z|⟨z,z'|z'⟩
      ·exact p2 z
      ·exact hne z' 0 _ v2 rfl rfl rfl (e.trans z.symm)
      ·exact p3 z'
     |loc=>exact Rep.mv (.up s1) q1
     |any=>exact Rep.mv (.up fun a z=>z.imp id (s1 a)) q1
     |bor j=>exact q1
     |io=>exact q1
     |ownD=>exact q1
   exact aux rs t h2 h3
  obtain⟨S2,st2,us,s2,ok2,n2,rep2,h5⟩:=gA (c:={c with S:=S1,st:=st1}) ok0 ok1 n1 hr2 h4;rw[ao]at h5;exact⟨S2,st2,u::us,fun a z=>s2 a (s1 a z),ok2,n2,⟨v,t,rfl,rep1.mv (.up s2),rep2⟩,h5⟩
theorem w_{x1:Nat}(ha:PA X es (tEs C ms)):PE X (.Tuple es x1 pos) (tEv C (ms >>= fun rs=>ay rs >>= fun _=>cK rs >>= fun us=>if us.length<=sizeLine then pure (.loc,.tup us) else M.fail)):=by
 rintro pins s σ H Q I ⟨c0,rfl,rfl,ok,h⟩;refine wpAny_Tuple_spliced (thn (args ha I ok h pos) fun us s1 ⟨rs,c,vs,t,I1,rv,w⟩=>?_);rw[ah]at w;obtain⟨S',st',ws,s1',ok1,n1,rep,w1⟩:=gA ok t.ok t.nx t.rep w;split at w1
 ·rename_i hz;rw[ao]at w1;have hl:vs.length<=sizeLine:=by rw[<-rep.len];exact hz
  refine⟨by rw[<-rv.length];exact hl,?_⟩;have hf:c.H s1.heap.objs.size=none:=I1.hok.fresh (Nat.le_refl _);have I2:Inv X pins c0.σ c.H s1:=by rw[<-t.hσ];exact I1
  refine⟨.ref s1.heap.objs.size,upd c.H s1.heap.objs.size (.tup vs),I2.laid (t':=s1.toks) (fun b u e=>Heap.get?_push_of_some _ e) (Nat.le_refl _) ⟨hl,us,rv,IsTup.new _ _⟩,rfl,?_⟩;exact bT.tup (c:={c with S:=S',st:=st' }) w1 t.hσ ok1 n1 rep _ hf
 ·exact(aw.mp w1).elim
theorem xa(ha:PA X es (tEs C ms)):PE X (.List es pos) (tEv C (ms >>= fun rs=>ay rs >>= fun _=>cK rs >>= fun us=>if us.length<=sizeLine then pure (.own,.lst us) else M.fail)):=by
 rintro pins s σ H Q I ⟨c0,rfl,rfl,ok,h⟩;refine wpAny_List_spliced (thn (args ha I ok h pos) fun us s1 ⟨rs,c,vs,t,I1,rv,w⟩=>?_);rw[ah]at w;obtain⟨S',st',ws,s1',ok1,n1,rep,w1⟩:=gA ok t.ok t.nx t.rep w;split at w1
 ·rename_i hz;rw[ao]at w1;have hl:vs.length<=sizeLine:=by rw[<-rep.len];exact hz
  refine⟨by rw[<-rv.length];exact hl,?_⟩;have hf:c.H s1.heap.objs.size=none:=I1.hok.fresh (Nat.le_refl _);have I2:Inv X pins c0.σ c.H s1:=by rw[<-t.hσ];exact I1
  refine⟨.ref s1.heap.objs.size,upd c.H s1.heap.objs.size (.lst vs),I2.laid (t':=s1.toks) (fun b u e=>Heap.get?_push_of_some _ e) (Nat.le_refl _) ⟨hl,us,0,rv,Heap.get?_push_size _ rfl⟩,rfl,?_⟩;exact bT.list (c:={c with S:=S',st:=st' }) w1 t.hσ ok1 n1 rep _ hf
 ·exact(aw.mp w1).elim
end
end TM
namespace TM
open PySem L2 PyProof.Rows
section
variable{X:Cx}{C:Ct}{pins:List (Addr×Obj)}{s:Shared}{c0 c c1:Cf}
variable{a b d e:Expr}{es:List Expr}{m ma mb md:M (Kd×U)}{ms:M (List (Kd×U))}{ta tb:M Bool}{pos p:Pos}
theorem qz{i:Nat}{x:Str}(hN:X.N[i]?=some x)(hv:Vis X.env.scope x)(hd:(x==("__debug__":Str))=false)(hcd:(x==("__classdict__":Str))=false):PE X (.Name x pos) (tEv C (fR i)):=by
 refine PE.weak (lz hN hv hd hcd) ?_;rintro σ H Q ⟨c0,rfl,rfl,ok,r,st',e,h⟩;unfold fR at e;split at e
 ·cases e
 ·rename_i k u hnD hs;cases e;obtain⟨v,e1,e2⟩:=ok.sl i k u hs;refine⟨v,e1,h c0 v rfl rfl ok (Nx.refl c0) ?_⟩;by_cases hk:k.root=true
  ·rw[if_pos hk];exact⟨⟨k,hk,hs⟩,e1⟩
  ·rw[if_neg hk];cases k with
   |own=>exact absurd rfl hk
   |io=>exact absurd rfl hk
   |loc=>exact e2
   |any=>exact e2
   |bor j=>exact e2.elim
   |ownD=>exact(hnD rfl).elim
 ·cases e
theorem gB{u:U}{v:V}(h:PE X e (tC v))(r:∀S H,Rep C S H u v):PE X e (tEv C (pure (.loc,u))):=by
 refine PE.weak h ?_;rintro σ H Q ⟨c0,rfl,rfl,ok,h⟩;rw[ao]at h;exact h c0 v rfl rfl ok (Nx.refl c0) (r _ _)
theorem bT.root{u:U}{o:HO}{Q:VK}(h:bT C c0 Q (.own,u) c.st)(hσ:c.σ=c0.σ)(ok:Ok C c)(n:Nx c0 c)(p:Addr)(hp:c.H p=none)(r:cX C c.S (upd c.H p o) p u):Q (.ref p) (upd c.H p o):=by
 obtain⟨ok',n'⟩:=ok.lay (o:=o) hp;obtain⟨h0,h1,h2,h3,h4⟩:=ok.oZ hp;exact h {c with H:=upd c.H p o} _ hσ rfl ok' (n.trans n') ⟨p,rfl,n.none hp,h1,h4,r⟩
theorem uw(hP:C.P=X.prog)(hw:C.w=X.w)(r:Bool):PE X (.Dict [] [] pos) (tEv C (pure (.own,if r=true then .rdc [] else .dic [] []))):=by
 cases r with
 |false =>
  refine PE.weak tu ?_;rintro σ H Q ⟨c0,rfl,rfl,ok,h⟩ p hp;rw[ao,if_neg Bool.false_ne_true]at h;exact bT.root h rfl ok (Nx.refl c0) p hp ⟨[],aS,rfl,rfl⟩
 |true =>
  refine PE.weak wt ?_;rintro σ H Q ⟨c0,rfl,rfl,ok,h⟩ p hp;rw[ao,if_pos rfl]at h;refine bT.root h rfl ok (Nx.refl c0) p hp ⟨[],?_,rfl,fun x hx=>by cases hx⟩;rw[hP,hw];exact aS
theorem ai.atI{S:Addr->Prop}{H:Hp}{us:List U}{vs:List V}{i:Int}{u:U}(h:ai C S H us vs)(e:atI us i=some u):∃v,L2.atI vs i=some v/\Rep C S H u v:=by
 unfold L2.atI at e ⊢;rw[h.len]at e;cases q:ixN vs.length i with
 |none=>rw[q]at e;cases e
 |some j =>
  rw[q]at e;exact h.get e
theorem zk{x y r:Kd×U}{vx vy:V}{v u:Value}{Q:VK}(hK:C.K=X.K)(hu:X.A.units+60<cLine)(hs:lJ b)(t:At2 C c0 c x y vx vy)(I:Inv X pins c.σ c.H s)(rx:RelV vx v)(ry:RelV vy u)(h:gw x y.2=some r)(q:bT C c0 Q r c.st):
  wpAny (model X.prog X.w) X.A (subscriptTail a b v u) (EP X pins c.σ Q) X.xe s:=by
 obtain⟨hσ,ok,n,tx,ty,-⟩:=t;obtain⟨ky,uy⟩:=y
 dsimp only at h ty
 unfold gw at h;split at h
 ·rename_i k xs i;rw[Option.map_eq_some_iff]at h;obtain⟨w,e,rfl⟩:=h;obtain⟨a',vs,ex,h1,h2⟩:=tx.list ok;obtain⟨vw,e1,e2⟩:=h2.atI e;exact wb a b pins s c.σ c.H vx vy v u Q I rx ry ⟨a',vs,i,vw,ex,ty.int ok,hK▸h1,e1,q c vw hσ rfl ok n (aI.item e2)⟩ (hs _ _)
 ·rename_i k xs i;rw[Option.map_eq_some_iff]at h;obtain⟨w,e,rfl⟩:=h;obtain⟨a',vs,ex,h1,h2⟩:=tx.tuple ok;obtain⟨vw,e1,e2⟩:=h2.atI e;rw[hK]at h1;exact oK a b pins s c.σ c.H vx vy v u Q I rx ry ⟨a',vs,i,vw,ex,ty.int ok,h1,e1,q c vw hσ rfl ok n (aI.item e2)⟩ (hs _ _)
 ·split at h
  ·rw[Option.map_eq_some_iff]at h;obtain⟨w,e,rfl⟩:=h;exact ja a b pins s c.σ c.H vx vy v u Q I rx ry ⟨_,_,w,tx.str ok,ty.int ok,by assumption,e,q c _ hσ rfl ok n rfl⟩ (hs _ _)
  ·cases h
 ·cases h
theorem qA(hK:C.K=X.K)(hu:X.A.units+60<cLine)(hs:lJ b)(ha:PE X a (tEv C ma))(hb:PE X b (tEv C mb)):PE X (.Subscript a b pos) (tEv C (ma >>= fun x=>mb >>= fun y=>ay [x,y] >>= fun _=>M.ofO (gw x y.2))):=by
 rintro pins s σ H Q I ⟨c0,rfl,rfl,ok,h⟩;refine Subscript_ (two ha hb I ok h fun x y c vx vy v u s2 t I2 rx ry w=>?_);obtain⟨r,e,q⟩:=cJ.mp w;exact thn (zk hK hu hs t I2 rx ry e q) fun _ _ z=>by rw[t.hσ]at z;exact z
theorem ai.cut{S:Addr->Prop}{H:Hp}{us:List U}{vs:List V}(h:ai C S H us vs)(lo hi:Option Int):ai C S H (TM.cut us lo hi) (mV vs lo hi):=by
 unfold TM.cut mV;rw[h.len];exact(h.drop _).take _
theorem rZ{α:Type}{xs:List α}{lo hi:Option Int}(h:HT.sIx xs.length 0 lo=0/\HT.sIx xs.length xs.length hi=xs.length):cut xs lo hi=xs:=by
 unfold cut;rw[h.1,h.2];simp
end
end TM
namespace TM
open PySem L2 PyProof.Rows
section
variable{prog:Program}{w:World}{A:Around}{E:Value->Shared->Prop}{s:Shared}
theorem fy{t sl:Addr}{items:Array Value}{vl vu:Value}{lo hi:Option Int}{Q:Value->Shared->Prop}(ht:IsTup s.heap t items)(hs:s.heap.IsSliceOf sl vl vu .none)(pl:IsPart vl lo)(pu:IsPart vu hi)
  (hw:HT.sIx items.size 0 lo=0/\HT.sIx items.size items.size hi=items.size) (h:Q (.ref t) s):wpAny (model prog w) A (getItem (.ref t) (.ref sl)) Q E s:=by
 obtain⟨os,hos,hcs,hds⟩:=id hs;have hTs:s.TypeIs (.ref sl) "slice":=⟨os,hos,hcs⟩
 unfold getItem
 try with_reducible refine wpAny_holding ?_
 first|refine wpAny_bind (wpAny_pure ?_)|skip
 refine wpAny_bind (wpAny_sequenceKey ht.typeIs (by decide) ?_);refine wpAny_bind (wpAny_callSpecial?_slot (name:=Str.ofString "__getitem__") ht.typeIs PyProof.Rows.slot_tuple_getitem
  (wpAny_call_entry PyProof.Rows.slot_tuple_getitem ht.typeIs entry_tuple_getitem ?_ (args_tuple_getitem _ _)))
 show wpAny _ _ (Builtin.Tuple.tupleItemsOf (.ref t) >>= _) _ _ s;refine wpAny_bind (tupleItemsOf_ ht ?_);refine wpAny_bind (wpAny_typeOf hTs ?_);rw[if_pos (by decide)];refine wpAny_bind (HT.dq hs pl pu ?_);have hyes:(((HT.sIx items.size 0 lo:Nat):Int)==0&&(1:Int)==1&&(HT.sIx items.size items.size hi - HT.sIx items.size 0 lo)==items.size)=true:=by
  rw[hw.1,hw.2];simp
 show wpAny _ _ (if (((HT.sIx items.size 0 lo:Nat):Int)==0&&(1:Int)==1&&(HT.sIx items.size items.size hi - HT.sIx items.size 0 lo)==items.size)=true then _ else _) _ _ s;rw[if_pos hyes];show wpAny (model prog w) A.in1 ((typeOf (Value.ref t) >>= fun x=>pure (x==.type "tuple")) >>= _) _ _ s;refine wpAny_bind (wpAny_bind (wpAny_typeOf ht.typeIs (wpAny_pure ?_)));rw[if_pos (by decide)];exact wpAny_bind (wpAny_rule (wpAny_pure ⟨_,rfl,wpAny_pure h⟩))
end
section
variable{X:Cx}{C:Ct}{pins:List (Addr×Obj)}{s:Shared}{c0 c c1:Cf}
variable{a b d e:Expr}{es:List Expr}{m ma mb md:M (Kd×U)}{ms:M (List (Kd×U))}{ta tb:M Bool}{pos p p2:Pos}
theorem xb:SlR X (fun x lo hi H Q=>∃a xs,x=.ref a/\SqT X.K H a xs/\(HT.sIx xs.length 0 lo=0/\HT.sIx xs.length xs.length hi=xs.length)/\Q (.ref a) H):=by
 intro pins s σ H x v vl vu lo hi sl Q I rx hs pl pu h;obtain⟨a,xs,rfl,hx,hw,q⟩:=h;cases rx;obtain⟨its,r,ht,hz⟩:=I.tuple hx;have hlen:its.toArray.size=xs.length:=by rw[List.size_toArray];exact r.length.symm
 exact⟨"tuple",_,PyProof.Rows.slot_tuple_getitem.lookup,ht.typeIs,fy ht hs pl pu (by rw[hlen];exact hw) ⟨.ref a,H,I,rfl,q⟩⟩
noncomputable def tO(C:Ct)(m:M (Option Int)):TO:=fun σ H Q=>∃c0:Cf,c0.σ=σ/\c0.H=H/\Ok C c0/\W m c0.st fun i st'=>∀c,c.σ=σ->c.st=st'->Ok C c->Nx c0 c->Q i c.H
theorem r6:PO X none (tO C (pure none)):=by
 rintro pins s σ H Q I ⟨c0,rfl,rfl,ok,h⟩;rw[ao]at h;exact v9 pins s c0.σ c0.H Q I (h c0 rfl rfl ok (Nx.refl c0))
theorem r9(ha:PE X a (tEv C ma)):PO X (some a) (tO C (ma >>= zb)):=by
 rintro pins s σ H Q I ⟨c0,rfl,rfl,ok,h⟩;refine v_ ha pins s c0.σ c0.H Q I (bh ok h fun x c v t w=>?_);obtain⟨k,u⟩:=x;unfold zb at w;split at w
 ·rename_i i e
  dsimp only at e
  subst e;rw[ao]at w;exact⟨i,t.rx.int t.ok,w c t.hσ rfl t.ok t.nx⟩
 ·exact(aw.mp w).elim
theorem zl{x r:Kd×U}{vx:V}{lo hi:Option Int}{Q:VK}(hK:C.K=X.K)(hσ:c.σ=c0.σ)(ok:Ok C c)(n:Nx c0 c)(tx:aI C c0 c x.1 x.2 vx)(h:gU x lo hi=some r)(q:bT C c0 Q r c.st):
  ((AB X.K vx lo hi c.H Q\/Ay X.K vx lo hi c.H Q)\/(∃a xs,vx=.ref a/\SqT X.K c.H a xs/\(HT.sIx xs.length 0 lo=0/\HT.sIx xs.length xs.length hi=xs.length)/\Q (.ref a) c.H))\/AH vx lo hi c.H Q:=by
 unfold gU at h;split at h
 ·split at h
  ·rename_i hh;cases h;obtain⟨a',vs,ex,h1,h2⟩:=tx.list ok;exact .inl (.inl (.inl ⟨a',vs,ex,hK▸h1,fun p hp=>q.list hσ ok n ((cL hh h2).cut lo hi) p hp⟩))
  ·cases h
 ·cases h;obtain⟨a',vs,ex,h1,h2⟩:=tx.tuple ok;have h1':=h1;rw[hK]at h1';by_cases hw:HT.sIx vs.length 0 lo=0/\HT.sIx vs.length vs.length hi=vs.length
  ·refine .inl (.inr ⟨a',vs,ex,h1',hw,?_⟩);refine q c (.ref a') hσ rfl ok n (aI.item ⟨a',vs,rfl,h1,?_⟩);rw[rZ (by rw[h2.len];exact hw)];exact h2
  ·exact .inl (.inl (.inr ⟨a',vs,ex,h1',hw,fun p hp=>q.tupK hσ ok n (h2.cut lo hi) p hp⟩))
 ·split at h
  ·cases h;exact .inr ⟨_,tx.str ok,by assumption,q.flat hσ ok n rfl⟩
  ·cases h
 ·cases h
theorem xc{lo hi:Option Expr}{ml mh:M (Option Int)}(hK:C.K=X.K)(ha:PE X a (tEv C ma))(hl:PO X lo (tO C ml))(hh:PO X hi (tO C mh)):
  PE X (.Subscript a (.Slice lo hi none p2) pos) (tEv C (ma >>= fun x=>ml >>= fun l=>mh >>= fun h=>ay [x] >>= fun _=>M.ofO (gU x l h))):=by
 refine PE.weak (sY (((SlR.or wc yF).or xb).or yN) ha hl hh) ?_;rintro σ H Q ⟨c0,rfl,rfl,ok,h⟩;refine bh ok h fun x c v t w=>?_;rw[ah]at w;refine⟨c,t.hσ,rfl,t.ok,w.mono fun l st2 h2 c2 e1 e2 ok2 n2=>?_⟩;subst e2;rw[ah]at h2;refine⟨c2,e1,rfl,ok2,h2.mono fun l' st3 h3 c3 e3 e4 ok3 n3=>?_⟩;subst e4;rw[ah,bV]at h3;obtain⟨r,e,q⟩:=cJ.mp h3.2;have n13:Nx c c3:=n2.trans n3;exact zl hK e3 ok3 (t.nx.trans n13) ((t.rx.w.on t.ok n13 (e3.trans t.hσ.symm)).t h3.1) e q
end
end TM
namespace TM
open PySem L2 PyProof.Rows
section
variable{X:Cx}{C:Ct}{pins:List (Addr×Obj)}{s:Shared}{c0 c c1:Cf}
variable{a b d e:Expr}{es:List Expr}{m ma mb md:M (Kd×U)}{ms:M (List (Kd×U))}{ta tb:M Bool}{pos p p2:Pos}
noncomputable def Bf.val:Bf->Value
 |.len=>.builtin "len"|.sorted=>.builtin "sorted"|.repr=>.builtin "repr"|.max=>.builtin "max"|.min=>.builtin "min"|.all=>.builtin "all"|.any=>.builtin "any"
 |.list=>.type "list"|.tuple=>.type "tuple"|.str=>.type "str"|.int=>.type "int"
noncomputable def Bf.name:Bf->Str
 |.len=>"len"|.sorted=>"sorted"|.repr=>"repr"|.max=>"max"|.min=>"min"|.all=>"all"|.any=>"any"
 |.list=>"list"|.tuple=>"tuple"|.str=>"str"|.int=>"int"
theorem call_of{f:Value}{r:List V->Hp->VK->Prop}(hc:d5 X f r){vs:List V}{us:List Value}{Q:VK}(I:Inv X pins c.σ c.H s)(rv:Vals vs us)(h:r vs c.H Q):wpAny (model X.prog X.w) X.A (call f us) (EP X pins c.σ Q) X.xe s:=hc pins s c.σ c.H vs us Q I rv h
theorem ai.qB{S:Addr->Prop}{H:Hp}{α:Type}{f:α->U}{g:α->V}:∀{l:List α},(∀x∈l,Rep C S H (f x) (g x))->ai C S H (l.map f) (l.map g)
 |[],_=>rfl
 |x::l,h=>⟨g x,l.map g,rfl,h x (by simp),ai.qB fun y hy=>h y (by simp[hy])⟩
theorem ai.pks{S:Addr->Prop}{H:Hp}(hK:C.K=X.K):∀{us:List U}{ks:List Str}{vs:List V},kP us=some ks->ai C S H us vs->∃as:List Addr,vs=as.map V.ref/\as.length=ks.length/\∀(j:Nat) a k,as[j]?=some a->ks[j]?=some k->∃b,SqT X.K H a [.str k,.ref b]
 |[],ks,vs,e,h=>by
  cases e;cases h;exact⟨[],rfl,rfl,by simp⟩
 |u::us,ks,vs,e,h=>by
  obtain⟨v,r,rfl,h1,h2⟩:=h;unfold kP at e;split at e
  ·rename_i e0;cases e0
  ·rename_i x ys us' e0;cases e0;rw[Option.map_eq_some_iff]at e;obtain⟨qs,e,rfl⟩:=e;obtain⟨as,rfl,g1,g2⟩:=ai.pks hK e h2;obtain⟨a,ws,rfl,z1,z2⟩:=h1;obtain⟨w1,ws',rfl,y1,y2⟩:=z2;obtain⟨w2,ws'',rfl,y3,y4⟩:=y2;cases y1;cases y4;obtain⟨b,zs,rfl,_,_⟩:=y3;rw[hK]at z1;refine⟨a::as,rfl,by simp[g1],fun j c p e1 e2=>?_⟩;cases j with
   |zero=>simp at e1 e2;subst e1 e2;exact⟨b,z1⟩
   |succ j=>exact g2 j c p (by simpa using e1) (by simpa using e2)
  ·cases e
theorem bu{β:Type}{f:Kd×U->Option β}{rs:List (Kd×U)}{r:β}(h:fv f rs=some r):∃x,rs=[x]/\f x=some r:=by
 unfold fv at h;split at h
 ·exact⟨_,rfl,h⟩
 ·cases h
theorem xW{f:Bf}{rs:List (Kd×U)}{r:Kd×U}{vs:List V}{us:List Value}{Q:VK}(hc:X.calm=true)(hK:C.K=X.K)(hgd:X.A.guards=some [])(hun:X.A.units+60<cLine)(t:Ats C c0 c rs vs)(I:Inv X pins c.σ c.H s)(rv:Vals vs us)(h:biU f rs=some r)(q:bT C c0 Q r c.st):
  wpAny (model X.prog X.w) X.A (call f.val us) (EP X pins c.σ Q) X.xe s:=by
 have hσ:=t.hσ;have ok:=t.ok;have n:=t.nx;cases f with
 |len =>
  obtain⟨x,rfl,hz⟩:=bu (f:=fun x=>(yX x.2).map fun(n:Nat)=>(Kd.loc,U.int (n:Int))) h;clear h;have h:=hz;clear hz;rw[Option.map_eq_some_iff]at h;obtain⟨k,e,rfl⟩:=h;obtain⟨v,rfl,tx⟩:=t.one;obtain⟨kx,ux⟩:=x;unfold yX at e;split at e
  ·rename_i xs hx;have hx:ux=.lst xs:=hx;subst hx;cases e;obtain⟨a',ws,ex,h1,h2⟩:=tx.list ok;rw[h2.len]at q;exact call_of f9 I rv ⟨a',ws,by rw[ex],.inl (hK▸h1),q.flat hσ ok n rfl⟩
  ·rename_i xs hx;have hx:ux=.tup xs:=hx;subst hx;cases e;obtain⟨a',ws,ex,h1,h2⟩:=tx.tuple ok;rw[hK]at h1;rw[h2.len]at q;exact call_of f9 I rv ⟨a',ws,by rw[ex],.inr h1,q.flat hσ ok n rfl⟩
  ·rename_i xs hx;have hx:ux=.str xs:=hx;subst hx;split at e
   ·cases e;exact call_of lL I rv ⟨_,by rw[tx.str ok],by assumption,q.flat hσ ok n rfl⟩
   ·cases e
  ·cases e
 |sorted =>
  obtain⟨x,rfl,hz⟩:=bu (f:=yY) h;clear h;have h:=hz;clear hz;obtain⟨v,rfl,tx⟩:=t.one;unfold yY at h;split at h
  ·obtain⟨a',ws,ex,h1,h2⟩:=tx.list ok;unfold wN at h;split at h
   ·rename_i ss e;have e':=bQ e;subst e';rw[ai.strs]at h2;subst h2;split at h
    ·cases h;exact call_of ib I rv ⟨a',ss,by rw[ex],.inl (hK▸h1),by assumption,fun p hp=>q.list hσ ok n (ai.strs.mpr rfl) p hp⟩
    ·cases h
   ·unfold wM at h;obtain⟨ks,e,h⟩:=Option.bind_eq_some_iff.mp h;split at h
    ·rename_i hh;cases h;subst ex;obtain⟨u,rfl,rr⟩:=vals1 rv;cases rr;obtain⟨as,rfl,hl,ht⟩:=ai.pks hK e h2;have h2':=cL hh.2.2 h2;refine oY I (hK▸h1) hl ht hh.2.1 (by omega) fun p hp=>q.list hσ ok n (ai.qB fun i hi=>?_) p hp;have hi':i<as.length:=by
      have:=List.mem_range.mp ((dy _).mem_iff.mp hi);omega
     have hxl:=h2'.len;rw[List.length_map]at hxl;obtain⟨w,hw,rep⟩:=h2'.get (List.getElem?_eq_getElem (show i < _ by omega));have e1:w=V.ref (as.getD i 0):=by
      have:(as.map V.ref)[i]?=some (V.ref (as.getD i 0)):=by simp[List.getD,hi']
      rw[this]at hw;cases hw;rfl
     rw[<-e1,<-List.getElem_eq_getD];exact rep
    ·cases h
  ·rw[Option.bind_eq_some_iff]at h;obtain⟨ss,e,h⟩:=h;have e':=bQ e;subst e';obtain⟨a',ws,ex,h1,h2⟩:=tx.tuple ok;rw[hK]at h1;rw[ai.strs]at h2;subst h2;split at h
   ·cases h;exact call_of ib I rv ⟨a',ss,by rw[ex],.inr h1,by assumption,fun p hp=>q.list hσ ok n (ai.strs.mpr rfl) p hp⟩
   ·cases h
  ·cases h
 |list =>
  obtain⟨x,rfl,hz⟩:=bu (f:=yZ) h;clear h;have h:=hz;clear hz;obtain⟨v,rfl,tx⟩:=t.one;unfold yZ at h;split at h
  ·obtain⟨a',ws,ex,h1,h2⟩:=tx.list ok;split at h
   ·cases h;exact call_of f_ I rv ⟨a',ws,by rw[ex],.inl (hK▸h1),fun p hp=>q.list hσ ok n (cL (by assumption) h2) p hp⟩
   ·cases h
  ·obtain⟨a',ws,ex,h1,h2⟩:=tx.tuple ok;rw[hK]at h1;split at h
   ·cases h;exact call_of f_ I rv ⟨a',ws,by rw[ex],.inr h1,fun p hp=>q.list hσ ok n (cL (by assumption) h2) p hp⟩
   ·cases h
  ·cases h
 |tuple =>
  obtain⟨x,rfl,hz⟩:=bu (f:=y6) h;clear h;have h:=hz;clear hz;obtain⟨v,rfl,tx⟩:=t.one;unfold y6 at h;split at h
  ·obtain⟨a',ws,ex,h1,h2⟩:=tx.list ok;cases h;exact call_of fA I rv ⟨a',ws,by rw[ex],.inl ⟨hK▸h1,fun p hp=>q.tupK hσ ok n h2 p hp⟩⟩
  ·obtain⟨a',ws,ex,h1,h2⟩:=tx.tuple ok;have h1':=h1;rw[hK]at h1';cases h;exact call_of fA I rv ⟨a',ws,by rw[ex],.inr ⟨h1',q c (.ref a') hσ rfl ok n (aI.item ⟨a',ws,rfl,h1,h2⟩)⟩⟩
  ·cases h
 |str =>
  obtain⟨x,rfl,hz⟩:=bu (f:=wO) h;clear h;have h:=hz;clear hz;obtain⟨v,rfl,tx⟩:=t.one;unfold wO at h;split at h
  ·split at h
   ·cases h;exact call_of lE I rv ⟨_,by rw[tx.int ok],by assumption,q.flat hσ ok n rfl⟩
   ·cases h
  ·cases h
 |repr =>
  obtain⟨x,rfl,hz⟩:=bu (f:=y7) h;clear h;have h:=hz;clear hz;obtain⟨v,rfl,tx⟩:=t.one;unfold y7 at h;split at h
  ·cases h;exact call_of lR I rv ⟨_,by rw[tx.bl ok],q.flat hσ ok n rfl⟩
  ·cases h
 |max =>
  have h:rX false rs=some r:=h;unfold rX at h;split at h
  ·obtain⟨v,v',rfl,tx,ty⟩:=t.two;cases h;exact call_of (rm hc) I rv ⟨_,_,by rw[tx.int ok,ty.int ok],q.flat hσ ok n rfl⟩
  ·cases h
 |min =>
  have h:rX true rs=some r:=h;unfold rX at h;split at h
  ·obtain⟨v,v',rfl,tx,ty⟩:=t.two;cases h;exact call_of (rn hc) I rv ⟨_,_,by rw[tx.int ok,ty.int ok],q.flat hσ ok n rfl⟩
  ·cases h
 |all =>
  obtain⟨x,rfl,hz⟩:=bu (f:=y8) h;clear h;have h:=hz;clear hz;obtain⟨v,rfl,tx⟩:=t.one;unfold y8 at h;split at h
  ·rw[Option.map_eq_some_iff]at h;obtain⟨bs,e,rfl⟩:=h;have e':=fS e;subst e';obtain⟨a',ws,ex,h1,h2⟩:=tx.list ok;have:=h2.bls;subst this;exact call_of (tJ hc) I rv ⟨a',bs,by rw[ex],hK▸h1,q.flat hσ ok n rfl⟩
  ·cases h
 |any =>
  obtain⟨x,rfl,hz⟩:=bu (f:=y9) h;clear h;have h:=hz;clear hz;obtain⟨v,rfl,tx⟩:=t.one;unfold y9 at h;split at h
  ·rw[Option.map_eq_some_iff]at h;obtain⟨bs,e,rfl⟩:=h;have e':=fS e;subst e';obtain⟨a',ws,ex,h1,h2⟩:=tx.list ok;have:=h2.bls;subst this;exact call_of (ua hc) I rv ⟨a',bs,by rw[ex],hK▸h1,q.flat hσ ok n rfl⟩
  ·cases h
 |_=>cases h
theorem xf{f:Bf}{x:Str}{id:String}(hc:X.calm=true)(hK:C.K=X.K)(hgd:X.A.guards=some [])(hun:X.A.units+60<cLine)(hf:f.val=.builtin id)(hg:Gl X x)(hm:X.mg x=none)(hv:bootBuiltins x=some (.builtin id))(hn:x≠"__name__")(hdb:(x==("__debug__":Str))=false)
  (ha:PA X (e::es) (tEs C ms)) (he:starEach (e::es) X.env=(false,eval e X.env)::starEach es X.env) (hpl:(backTo pos (starEach es X.env)).any (·.1)=false) :
  PE X (.Call (.Name x p) (e::es) [] pos) (tEv C (ms >>= fun rs=>ay rs >>= fun _=>M.ofO (biU f rs))):=by
 rintro pins s σ H Q I ⟨c0,rfl,rfl,ok,h⟩;refine wpAny_Call_Name_kw (dg I hg hm hv ?_ hn hdb);refine PyProof.Rows.callWith_builtin1 (thn (args ha I ok h pos) fun us s1 ⟨rs,c,vs,t,I1,rv,w⟩=>?_) he hpl;obtain⟨r,e,q⟩:=cJ.mp w;have z:=xW hc hK hgd hun t I1 rv e q;rw[hf,t.hσ]at z;exact z
theorem xg{f:Bf}{x:Str}{T:String}(hc:X.calm=true)(hK:C.K=X.K)(hgd:X.A.guards=some [])(hun:X.A.units+60<cLine)(hf:f.val=.type T)(hg:Gl X x)(hm:X.mg x=none)(hv:bootBuiltins x=some (.type T))(hn:x≠"__name__")(hdb:(x==("__debug__":Str))=false)
  (ha:PA X (e::es) (tEs C ms)) (he:starEach (e::es) X.env=(false,eval e X.env)::starEach es X.env) (hpl:(backTo pos (starEach es X.env)).any (·.1)=false) :
  PE X (.Call (.Name x p) (e::es) [] pos) (tEv C (ms >>= fun rs=>ay rs >>= fun _=>M.ofO (biU f rs))):=by
 rintro pins s σ H Q I ⟨c0,rfl,rfl,ok,h⟩;refine wpAny_Call_Name_kw (dg I hg hm hv ?_ hn hdb);refine PyProof.Rows.callWith_type1 (thn (args ha I ok h pos) fun us s1 ⟨rs,c,vs,t,I1,rv,w⟩=>?_) he hpl;obtain⟨r,e,q⟩:=cJ.mp w;have z:=xW hc hK hgd hun t I1 rv e q;rw[hf,t.hσ]at z;exact z
noncomputable abbrev ct0(P:Program)(w:World)(K:PySem.W.Frag)(H:Hp)(Pr:Addr->Prop):Ct:=⟨P,w,K,H,Pr,fun _=>False⟩
structure Back(C:Ct)(H H':Hp)(S':Addr->Prop)(k:Kd)(u:U)(v:V):Prop where
 same:AE H H'
 new:∀a,S' a->H a=none/\∃o,H' a=some o
 own:k=.own->∃r,v=.ref r/\H r=none/\¬S' r/\cX C S' H' r u
 loc:k=.loc->Rep C S' H' u v
 any:k=.any->Rep C (PS C S') H' u v
noncomputable def spT(P:Program)(w:World)(K:PySem.W.Frag)(F:List U->Option (Ex (Kd×U)))(np:Nat):Sp:=fun vs H Q _=>vs.length=np/\∃us k u Pr,F us=some (.ok (k,u))/\(k=.own\/k=.loc\/k=.any)/\(∀a,Pr a->Dom H a) /\
 ai (ct0 P w K H Pr) Pr H us vs/\∀v H' S',Back (ct0 P w K H Pr) H H' S' k u v->Q v H'
theorem Ats.read{rs:List (Kd×U)}{vs:List V}(t:Ats C c0 c rs vs):ai C (Dom c.H) c.H (rs.map (·.2)) vs:=by
 have aux:∀(l:List (Kd×U)) (w:List V),b_ C c0 c l w->aZ l c.st->ai C (Dom c.H) c.H (l.map (·.2)) w:=by
  intro l;induction l with
  |nil=>intro w h _;exact h
  |cons r l ih =>
   intro w h hs;obtain⟨v,t',rfl,h1,h2,_⟩:=h;rw[fj]at hs;exact⟨v,t',rfl,(h1.t hs.1).read t.ok,ih t' h2 hs.2⟩
 exact aux rs vs t.rep t.stb
theorem Back.here{k:Kd}{u:U}{v:V}{H':Hp}{S':Addr->Prop}{Q:VK}(hk:k=.own\/k=.loc)(hσ:c.σ=c0.σ)(ok:Ok C c)(n:Nx c0 c){C':Ct}(q:C'.Eqv C)(h:Back C' c.H H' S' k u v)(w:bT C c0 Q (k,u) c.st):Q v H':=by
 obtain⟨ok',n'⟩:=ok.grow (S':=fun a=>c.S a\/S' a) h.same (fun a z=>z.imp id fun z=>h.new a z) fun a=>.inl;have hn:=n.trans n';refine w {c with H:=H',S:=fun a=>c.S a\/S' a} v hσ rfl ok' hn ?_;rcases hk with rfl|rfl
 ·obtain⟨r,e,h1,h2,h3⟩:=h.own rfl;obtain⟨z0,z1,z2,z3,z4⟩:=ok.oZ h1;refine⟨r,e,n.none h1,fun z=>z.elim z1 h2,z4,(h3.cg q).mv (.up fun a=>.inr) fun o q=>q⟩
 ·exact((h.loc rfl).cg q).mv (.up fun a=>.inr)
theorem uz{f:Str}{fa:Addr}{fd:FuncData}{ps:List Str}{k np:Nat}{F:List U->Option (Ex (Kd×U))}{Γ:Tab}(hP:C.P=X.prog)(hw:C.w=X.w)(hK:C.K=X.K)(hF:Γ f=F)(hk:∀us k u,F us=some (.ok (k,u))->(k=.own\/k=.loc\/k=.any)/\us.length=np)
  (G:lG X.prog X.w X.K X.mg X.base CX0 k fa fd ps (spT X.prog X.w X.K F np)) (hr:ft k X.A) (hg:Gl X f) (hm:X.mg f=some (.ref fa)) (hkp:PySem.W.keepIn X.K (.ref fa)=true) (hb:Binds X.K fd ps [])
  (hdb:(f==("__debug__":Str))=false) (ha:PA X (e::es) (tEs C ms)) (he:starEach (e::es) X.env=(false,eval e X.env)::starEach es X.env) (hpl:(backTo pos (starEach es X.env)).any (·.1)=false) :
  PE X (.Call (.Name f p) (e::es) [] pos) (tEv C (ms >>= fun rs=>ay rs >>= fun _=>js Γ f (rs.map (·.2)))):=by
 rintro pins s σ H Q I ⟨c0,rfl,rfl,ok,h⟩;refine wpAny_Call_Name_kw (p8 I hg hm ?_ hdb);refine PySem.W.callWith_K (h₀:=X.base) I.ok.mod.kin hkp (thn (args ha I ok h pos) fun us s1 ⟨rs,c,vs,t,I1,rv,w⟩=>⟨I1.kIn,?_⟩) he hpl;obtain⟨r,st',e1,q⟩:=w;unfold js at e1;rw[hF]at e1;cases e2:F (rs.map (·.2)) with
 |none=>rw[e2]at e1;cases e1
 |some r' =>
  rw[e2]at e1;split at e1
  ·cases e1
  ·rename_i z;cases z
  rename_i hna e3;cases e3;cases e1;obtain⟨kd,u⟩:=r;obtain⟨k0,k2⟩:=hk _ _ _ e2;have k1:kd=.own\/kd=.loc:=by
   rcases k0 with z|z|z
   ·exact .inl z
   ·exact .inr z
   ·subst z;exact(hna u rfl).elim
  have eqv:C.Eqv (ct0 X.prog X.w X.K c.H (Dom c.H)):=⟨hP,hw,hK⟩
  have eqv':(ct0 X.prog X.w X.K c.H (Dom c.H)).Eqv C:=⟨hP.symm,hw.symm,hK.symm⟩
  have rd:=t.read;have hsp:spT X.prog X.w X.K F np vs c.H (fun v H'=>Q v H') E0:=⟨by rw[<-rd.len];exact k2,rs.map (·.2),kd,u,Dom c.H,e2,k0,fun _ z=>z,rd.cg eqv,fun v H' S' hb=>hb.here k1 t.hσ t.ok t.nx eqv' q⟩
  have z:=sW (Q:=Q) G hr hb .nil xP I1 rv (by rw[List.append_nil];exact hsp);rw[t.hσ]at z;exact z
theorem b_.here:∀{rs:List (Kd×U)}{vs:List V},b_ C c0 c rs vs->rs.all (fun r=>decide (r.1=.loc)||decide (r.1=.any))=true->ai C (PS C c.S) c.H (rs.map (·.2)) vs
 |[],_,h,_=>h
 |(k,u)::rs,vs,h,q=>by
  obtain⟨v,t,rfl,h1,h2,_⟩:=h;rw[List.all_cons,Bool.and_eq_true,Bool.or_eq_true,decide_eq_true_eq,decide_eq_true_eq]at q;refine⟨v,t,rfl,?_,b_.here h2 q.2⟩;obtain⟨q1|q1,_⟩:=q
  ·cases q1;exact Rep.mv (.up fun a=>.inr) h1
  ·cases q1;exact h1
theorem uA{f:Str}{fa:Addr}{fd:FuncData}{ps:List Str}{k np:Nat}{F:List U->Option (Ex (Kd×U))}{Γ:Tab}(hP:C.P=X.prog)(hw:C.w=X.w)(hK:C.K=X.K)(hF:Γ f=F)(hk:∀us k u,F us=some (.ok (k,u))->(k=.own\/k=.loc\/k=.any)/\us.length=np)
  (G:lG X.prog X.w X.K X.mg X.base CX0 k fa fd ps (spT X.prog X.w X.K F np)) (hr:ft k X.A) (hg:Gl X f) (hm:X.mg f=some (.ref fa)) (hkp:PySem.W.keepIn X.K (.ref fa)=true) (hb:Binds X.K fd ps [])
  (hdb:(f==("__debug__":Str))=false) (ha:PA X (e::es) (tEs C ms)) (he:starEach (e::es) X.env=(false,eval e X.env)::starEach es X.env) (hpl:(backTo pos (starEach es X.env)).any (·.1)=false) :
  PE X (.Call (.Name f p) (e::es) [] pos) (tEv C (ms >>= fun rs=>ay rs >>= fun _=>nG Γ f rs)):=by
 rintro pins s σ H Q I ⟨c0,rfl,rfl,ok,h⟩;refine wpAny_Call_Name_kw (p8 I hg hm ?_ hdb);refine PySem.W.callWith_K (h₀:=X.base) I.ok.mod.kin hkp (thn (args ha I ok h pos) fun us s1 ⟨rs,c,vs,t,I1,rv,w⟩=>⟨I1.kIn,?_⟩) he hpl;obtain⟨r,st',e1,q⟩:=w;unfold nG at e1;rw[hF]at e1;split at e1
 case isFalse=>cases e1
 rename_i hall;cases e2:F (rs.map (·.2)) with
 |none=>rw[e2]at e1;cases e1
 |some r' =>
  rw[e2]at e1;cases e1;obtain⟨kd,u⟩:=r;obtain⟨k1,k2⟩:=hk _ _ _ e2;have eqv:C.Eqv (ct0 X.prog X.w X.K c.H (PS C c.S)):=⟨hP,hw,hK⟩
  have eqv':(ct0 X.prog X.w X.K c.H (PS C c.S)).Eqv C:=⟨hP.symm,hw.symm,hK.symm⟩
  have rd:=b_.here t.rep hall;have dom:∀a,PS C c.S a->Dom c.H a:=fun a z=>by
   rcases z with z|z
   ·obtain⟨⟨o,h1⟩,h2⟩:=t.ok.par a z;exact⟨o,t.ok.same a o h1 h2⟩
   ·exact(t.ok.sfr a z).2
  have hsp:spT X.prog X.w X.K F np vs c.H (fun v H'=>Q v H') E0:=⟨by rw[<-rd.len];exact k2,rs.map (·.2),kd,u,PS C c.S,e2,k1,dom,rd.cg eqv,fun v H' S' hb=>by
   rcases k1 with z|z|z
   ·exact hb.here (.inl z) t.hσ t.ok t.nx eqv' q
   ·exact hb.here (.inr z) t.hσ t.ok t.nx eqv' q
   ·obtain⟨ok',n'⟩:=t.ok.grow (S':=fun a=>c.S a\/S' a) hb.same (fun a z=>z.imp id fun z=>hb.new a z) fun a=>.inl;refine q {c with H:=H',S:=fun a=>c.S a\/S' a} v t.hσ rfl ok' (t.nx.trans n') ?_;subst z;exact((hb.any rfl).cg eqv').mv (.up fun a z=>z.elim (fun z=>z.imp id .inl) fun z=>.inr (.inr z))⟩
  have z:=sW (Q:=Q) G hr hb .nil xP I1 rv (by rw[List.append_nil];exact hsp);rw[t.hσ]at z;exact z
theorem xh(ha:PE X a (tEv C ma)):PE X a (tEv C (ma >>= fun r=>lift r >>= fun u=>pure (.loc,u))):=by
 refine PE.weak ha ?_;rintro σ H Q ⟨c0,rfl,rfl,ok,h⟩;refine bh ok h fun x c v t w=>?_;rw[ah]at w;obtain⟨S',st',u,s1,ok1,n1,rep,w1,_⟩:=iJ ok t.ok t.nx t.rx.w w;rw[ao]at w1;exact w1 {c with S:=S',st:=st' } v t.hσ rfl ok1 n1 rep
end
end TM
namespace TM
open PySem L2 PyProof.Rows
section
variable{X:Cx}{C:Ct}{pins:List (Addr×Obj)}{s:Shared}{c0 c c1:Cf}
variable{a b d e o:Expr}{es:List Expr}{m ma mb md:M (Kd×U)}{ms:M (List (Kd×U))}{ta tb:M Bool}{pos p p2 apos cpos:Pos}
noncomputable def Mf.id:Mf->String
 |.split=>"str.split"|.join=>"str.join"|.partition=>"str.partition"|.endswith=>"str.endswith"
noncomputable def Mf.name:Mf->Str
 |.split=>"split"|.join=>"join"|.partition=>"partition"|.endswith=>"endswith"
theorem uB{f:Mf}{u:U}{rs:List (Kd×U)}{r:Kd×U}(h:iE f u rs=some r):∃x,u=.str x:=by
 unfold iE at h;split at h
 ·exact⟨_,rfl⟩
 ·exact⟨_,rfl⟩
 ·cases h
theorem zm(hK:C.K=X.K){f:Mf}{x:Kd×U}{rs:List (Kd×U)}{r:Kd×U}{vx:V}{v:Value}{vs:List V}{us:List Value}{Q:VK}(t:Ats C c0 c (x::rs) (vx::vs))(I:Inv X pins c.σ c.H s)(rx:RelV vx v)(rv:Vals vs us)(h:iE f x.2 rs=some r)(q:bT C c0 Q r c.st):
  wpAny (model X.prog X.w) X.A (call (.builtin f.id) (v::us)) (EP X pins c.σ Q) X.xe s:=by
 have hσ:=t.hσ;have ok:=t.ok;have n:=t.nx;obtain⟨kx,ux⟩:=x;have hs:=fj.mp t.stb;obtain⟨v0,vs0,e0,h1,h2,-⟩:=t.rep;cases e0;have tx:aI C c0 c kx ux vx:=h1.t hs.1;have one:∀{r:Kd×U},b_ C c0 c [r] vs->aZ [r] c.st->∃v,vs=[v]/\aI C c0 c r.1 r.2 v:=fun {r} h s=>by
  obtain⟨v,t',rfl,h1,h2,_⟩:=h;cases h2;exact⟨v,rfl,h1.t s⟩
 dsimp only at h
 unfold iE at h;split at h
 ·obtain⟨w,rfl,ty⟩:=one h2 hs.2;split at h
  ·rename_i hh;cases h;exact tI pins s c.σ c.H vx [w] v us Q I rx rv ⟨_,_,tx.str ok,by rw[ty.str ok],hh.1,hh.2,fun p hp=>q.list hσ ok n (ai.strs.mpr rfl) p hp⟩
  ·cases h
 ·rw[Option.bind_eq_some_iff]at h;obtain⟨ss,e,h⟩:=h;have e':=bQ e;subst e';obtain⟨w,rfl,ty⟩:=one h2 hs.2;obtain⟨a',ws,ex,h3,h4⟩:=ty.list ok;rw[ai.strs]at h4;subst h4;split at h
  ·cases h;exact wo pins s c.σ c.H vx [w] v us Q I rx rv ⟨_,a',ss,tx.str ok,by rw[ex],hK▸h3,by assumption,q.flat hσ ok n rfl⟩
  ·cases h
 ·cases h
theorem xi(hK:C.K=X.K){f:Mf}{name:Str}(slot:Slot "str" name f.id)(hty:typeOf (.builtin f.id)=pure (.type "method_descriptor"))(ho:PE X o (tEv C m))(ha:PA X (e::es) (tEs C ms))
  (hbase:attributeBase o name X.env (eval o X.env)=eval o X.env)
  (hfew:((backTo cpos (starEach (e::es) X.env)).all (fun x=>!x.1)&&(backToKw cpos (keywordEach [] X.env)).all (fun x=>x.1.isSome)
   && decide ((e::es).length+([]:List Keyword).length+(if ([]:List Keyword).isEmpty then 0 else 1)<30))=true)
  (hline:(apos.endLine==cpos.line)=true) (hs:starEach (e::es) X.env=(false,eval e X.env)::starEach es X.env) (hplain:(backTo cpos (starEach es X.env)).any (·.1)=false) :
  PE X (.Call (.Attribute o name apos) (e::es) [] cpos) (tEv C (m >>= fun x=>ms >>= fun rs=>ay (x::rs) >>= fun _=>M.ofO (iE f x.2 rs))):=by
 rintro pins s σ H Q I ⟨c0,rfl,rfl,ok,h⟩;refine wpAny_Call_method_late hbase hfew hline rfl (thn (ho pins s c0.σ c0.H (fun vx H1=>∃x c1,c1.H=H1/\At1 C c0 c1 x vx/\W (ms >>= fun rs=>ay (x::rs) >>= fun _=>M.ofO (iE f x.2 rs)) c1.st (bT C c0 Q)) I (bh ok h fun x c v t w=>⟨x,c,rfl,t,w⟩)) ?_);rintro v s1 ⟨vx,H1,I1,rx,x,c1,rfl,t,w⟩;have hstr:∃z,x.2=.str z:=by
  rw[ah]at w;obtain⟨rs,st2,_,w⟩:=w;rw[ah]at w;obtain⟨_,st3,_,w⟩:=w;obtain⟨r,e,_⟩:=cJ.mp w;exact uB e
 obtain⟨z,hz⟩:=hstr;have tx:=t.rx;rw[hz]at tx;have ev:=tx.str t.ok;have ty:tyV X.K "str" vx c1.H:=by rw[ev];rfl
 obtain⟨h1,h2⟩:=sZ I1 rx ty;refine⟨"str",f.id,PySem.F.plainAttrs_str,slot,hty,h1,h2,?_⟩;rw[ah]at w;have hA:=ha cpos pins s1 c0.σ c1.H (fun vs H2=>∃rs c2,c2.H=H2/\Ats C c0 c2 (x::rs) (vx::vs)/\W (M.ofO (iE f x.2 rs)) c2.st (bT C c0 Q)) I1 ⟨c1,t.hσ,rfl,t.ok,w.mono fun rs st2 h3 c2 vs e3 e4 ok2 n2 r2=>by
  rw[ah,bV]at h3;subst e4;exact⟨rs,c2,rfl,⟨e3,ok2,t.nx.trans n2,⟨vx,vs,rfl,t.rx.w.on t.ok n2 (e3.trans t.hσ.symm),r2.from t.nx,fun hk i r' v' e5 e6 hk'=>l8 t.rx.w (r2.get e5 e6) hk hk'⟩,h3.1⟩,h3.2⟩⟩
 rw[hs]at hA ⊢;refine Calls.callWith_builtin (by show(false||(backTo cpos (starEach es X.env)).any (·.1))=false;rw[hplain]<;>rfl) (Calls.evalArgs_plain ?_);refine thn hA ?_;rintro us s2 ⟨vs,H2,I2,r2,rs,c2,rfl,t2,w2⟩;obtain⟨r,e,q⟩:=cJ.mp w2;have z:=zm hK t2 (by rw[t2.hσ];exact I2) rx r2 e q;rw[t2.hσ]at z;exact z
end
end TM
namespace TM
open PySem L2 PyProof.Rows
section
variable{X:Cx}{C:Ct}{pins:List (Addr×Obj)}{s:Shared}{c0 c c1:Cf}
variable{e:Expr}{es:List Expr}{ms:M (List (Kd×U))}{pos p p2 pos2:Pos}
noncomputable def B2.out:B2->Value
 |.revT=>.type "tuple"|.revL=>.type "list"|.sset=>.builtin "sorted"|.lM=>.builtin "len"
noncomputable def B2.inn:B2->Value
 |.revT=>.type "reversed"|.revL=>.type "reversed"|.sset=>.type "set"|.lM=>.type "set"
noncomputable def B2.l9:B2->Str
 |.revT=>"tuple"|.revL=>"list"|.sset=>"sorted"|.lM=>"len"
noncomputable def B2.gC:B2->Str
 |.revT=>"reversed"|.revL=>"reversed"|.sset=>"set"|.lM=>"set"
theorem gX{u:U}{ss:List Str}{k:Kd}{v:V}(hK:C.K=X.K)(ok:Ok C c)(tx:aI C c0 c k u v)(h:fw u=some ss):∃a ys,v=.ref a/\(SqL X.K c.H a (ys.map V.str)\/SqT X.K c.H a (ys.map V.str))/\ys.length+1<scanBound/\ss=ak ys:=by
 unfold fw at h;split at h
 ·rw[Option.bind_eq_some_iff]at h;obtain⟨ys,e,h⟩:=h;have e':=bQ e;subst e';obtain⟨a',ws,ex,h1,h2⟩:=tx.list ok;rw[ai.strs]at h2;subst h2;split at h
  ·cases h;exact⟨a',ys,ex,.inl (hK▸h1),by assumption,rfl⟩
  ·cases h
 ·rw[Option.bind_eq_some_iff]at h;obtain⟨ys,e,h⟩:=h;have e':=bQ e;subst e';obtain⟨a',ws,ex,h1,h2⟩:=tx.tuple ok;rw[ai.strs]at h2;subst h2;rw[hK]at h1;split at h
  ·cases h;exact⟨a',ys,ex,.inr h1,by assumption,rfl⟩
  ·cases h
 ·cases h
theorem zo{f:B2}{rs:List (Kd×U)}{r:Kd×U}{vs:List V}{us:List Value}{Q:VK}(hc:X.calm=true)(hK:C.K=X.K)(t:Ats C c0 c rs vs)(I:Inv X pins c.σ c.H s)(rv:Vals vs us)(h:pd f rs=some r)(q:bT C c0 Q r c.st):
  wpAny (model X.prog X.w) X.A (call f.inn us) (fun v s1=>wpAny (model X.prog X.w) X.A (call f.out [v]) (EP X pins c.σ Q) X.xe s1) X.xe s:=by
 have hσ:=t.hσ;have ok:=t.ok;have n:=t.nx;cases f with
 |sset =>
  obtain⟨x,rfl,hz⟩:=bu (f:=fun x=>(fw x.2).bind fun ss=>if ss.length<64 then some (Kd.own,U.lst ((aH ss).map .str)) else none) h;clear h;have h:=hz;clear hz;obtain⟨ss,e,h⟩:=Option.bind_eq_some_iff.mp h;obtain⟨v,rfl,tx⟩:=t.one;obtain⟨a',ys,rfl,h1,h2,rfl⟩:=gX hK ok tx e;obtain⟨u,rfl,rr⟩:=vals1 rv;cases rr;split at h
  ·cases h;exact gr hc I h1 h2 fun S h' tk hS I1=>fF hc I1 hS (by assumption) fun l hl=>q.list hσ ok n (ai.strs.mpr rfl) l hl
  ·cases h
 |lM =>
  obtain⟨x,rfl,hz⟩:=bu (f:=fun x:Kd×U=>(fw x.2).map fun ss:List Str=>(Kd.loc,U.int (ss.length:Int))) h;clear h;have h:=hz;clear hz;obtain⟨ss,e,rfl⟩:=Option.map_eq_some_iff.mp h;obtain⟨v,rfl,tx⟩:=t.one;obtain⟨a',ys,rfl,h1,h2,rfl⟩:=gX hK ok tx e;obtain⟨u,rfl,rr⟩:=vals1 rv;cases rr;exact gr hc I h1 h2 fun S h' tk hS I1=>jl I1 hS (q.flat hσ ok n rfl)
 |_=>cases h
theorem qC:∀f:B2,bootBuiltins f.l9=some f.out/\bootBuiltins f.gC=some f.inn/\f.l9≠"__name__"/\f.gC≠"__name__"/\(f.l9==("__debug__":Str))=false/\(f.gC==("__debug__":Str))=false:=by
 intro f;cases f<;>exact⟨by decide +kernel,by decide +kernel,by decide +kernel,by decide +kernel,by decide +kernel,by decide +kernel⟩
theorem zp(f:B2):∃T,f.inn=.type T:=by cases f<;>exact⟨_,rfl⟩
theorem zq(f:B2):(∃T,f.out=.type T)\/∃T,f.out=.builtin T:=by cases f<;>first|exact .inl ⟨_,rfl⟩|exact .inr ⟨_,rfl⟩
theorem qD{M:Model}{A:Around}{E:Value->Shared->Prop}{s:Shared}{T:String}{t:Sem Value}{Q:Value->Shared->Prop}(h:wpAny M A t (fun v s₁=>wpAny M A (call (.type T) [v]) Q E s₁) E s):wpAny M A (callWith pos (.type T) [] [(false,t)] []) Q E s :=
 PySem.callWith_type rfl (Calls.evalArgs_plain (Calls.spliced_cons (wpAny_mono h (fun _ _ h₁=>Calls.spliced_nil h₁) fun _ _ e=>e)))
theorem ph{M:Model}{A:Around}{E:Value->Shared->Prop}{s:Shared}{T:String}{t:Sem Value}{Q:Value->Shared->Prop}(h:wpAny M A t (fun v s₁=>wpAny M A (call (.builtin T) [v]) Q E s₁) E s):wpAny M A (callWith pos (.builtin T) [] [(false,t)] []) Q E s :=
 Calls.callWith_builtin rfl (Calls.evalArgs_plain (Calls.spliced_cons (wpAny_mono h (fun _ _ h₁=>Calls.spliced_nil h₁) fun _ _ e=>e)))
theorem uC{f:B2}{Q:VK}(hc:X.calm=true)(hK:C.K=X.K)(hg2:Gl X f.gC)(hm2:X.mg f.gC=none)
  (ha:PA X (e::es) (tEs C ms)) (he:starEach (e::es) X.env=(false,eval e X.env)::starEach es X.env) (hpl:(backTo pos2 (starEach es X.env)).any (·.1)=false)
  (I:Inv X pins c0.σ c0.H s) (ok:Ok C c0) (h:W (ms >>= fun rs=>ay rs >>= fun _=>M.ofO (pd f rs)) c0.st (bT C c0 Q)) :
  wpAny (model X.prog X.w) X.A (eval (.Call (.Name f.gC p2) (e::es) [] pos2) X.env) (fun v s1=>wpAny (model X.prog X.w) X.A (call f.out [v]) (EP X pins c0.σ Q) X.xe s1) X.xe s:=by
 obtain⟨b1,b2,b3,b4,b5,b6⟩:=qC f;refine wpAny_Call_Name_kw (dg I hg2 hm2 b2 ?_ b4 b6);have fin:wpAny (model X.prog X.w) X.A (spliced (backTo pos2 (starEach (e::es) X.env))) (fun us s1=>wpAny (model X.prog X.w) X.A (call f.inn us) (fun v s1=>wpAny (model X.prog X.w) X.A (call f.out [v]) (EP X pins c0.σ Q) X.xe s1) X.xe s1) X.xe s :=
  thn (args ha I ok h pos2) fun us s1 hIx=>by
   obtain⟨rs,c,vs,t,I1,rv,w⟩:=hIx;obtain⟨r,e,q⟩:=cJ.mp w;have z:=zo hc hK t I1 rv e q;rw[t.hσ]at z;exact z
 obtain⟨T,hT⟩:=zp f;rw[hT]at fin ⊢;exact PyProof.Rows.callWith_type1 fin he hpl
theorem xj{f:B2}(hc:X.calm=true)(hK:C.K=X.K)(hg1:Gl X f.l9)(hm1:X.mg f.l9=none)(hg2:Gl X f.gC)(hm2:X.mg f.gC=none)
  (ha:PA X (e::es) (tEs C ms)) (he:starEach (e::es) X.env=(false,eval e X.env)::starEach es X.env) (hpl:(backTo pos2 (starEach es X.env)).any (·.1)=false) :
  PE X (.Call (.Name f.l9 p) [.Call (.Name f.gC p2) (e::es) [] pos2] [] pos) (tEv C (ms >>= fun rs=>ay rs >>= fun _=>M.ofO (pd f rs))):=by
 rintro pins s σ H Q I ⟨c0,rfl,rfl,ok,h⟩;obtain⟨b1,b2,b3,b4,b5,b6⟩:=qC f;refine wpAny_Call_Name_kw (dg I hg1 hm1 b1 ?_ b3 b5);have inner:=uC (p2:=p2) (pos2:=pos2) hc hK hg2 hm2 ha he hpl I ok h;have eb:backTo pos (starEach [.Call (.Name f.gC p2) (e::es) [] pos2] X.env)=[(false,eval (.Call (.Name f.gC p2) (e::es) [] pos2) X.env)]:=rfl;have ek:backToKw pos (keywordEach [] X.env)=[]:=rfl;rw[eb,ek];rcases zq f with⟨T,hT⟩|⟨T,hT⟩
 ·rw[hT]at inner ⊢;exact qD inner
 ·rw[hT]at inner ⊢;exact ph inner
end
end TM
namespace TM
open PySem L2 PyProof.Rows
section
variable{X:Cx}{C:Ct}{pins:List (Addr×Obj)}{s:Shared}{c0 c c1:Cf}
variable{a b d e o tg:Expr}{es:List Expr}{m ma mb md:M (Kd×U)}{ms:M (List (Kd×U))}{ta tb:M Bool}{pos p p2 apos cpos:Pos}
noncomputable def ie(rs:List (Kd×U))(c c':Cf):Prop:=∀j u,(Kd.bor j,u)∈rs->c'.σ[j]?=c.σ[j]?
noncomputable def Walk(C:Ct)(c:Cf)(rs:List (Kd×U))(xs:List (Kd×U))(J:It):Prop:=∀c',Ok C c'->Ns c c'->ie rs c c'->aZ rs c'.st ->
 (∀(i:Nat) r,xs[i]?=some r->(r.1=.loc\/r.1=.any)/\J.go i c'.H/\∀x H',J.yld i c'.H x H'->∃c'':Cf,c''.H=H'/\c''.σ=c'.σ/\c''.st=c'.st/\Ok C c''/\Nx c' c''/\aI C c' c'' r.1 r.2 x) /\
 ∀i:Nat,xs.length<=i->J.stop i c'.H
noncomputable def tIt(C:Ct)(ik:Ik)(ms:M (List (Kd×U))):TI:=fun σ H R=>∃c0:Cf,c0.σ=σ/\c0.H=H/\Ok C c0/\W (ms >>= fun rs=>ay rs >>= fun _=>M.ofO (itU ik rs) >>= fun xs=>pure (rs,xs)) c0.st fun q st' =>
 ∀c J,c.σ=σ->c.st=st'->Ok C c->Nx c0 c->aZ q.1 c.st->Walk C c q.1 q.2 J->R J c.H
theorem aI.walk{r:Kd×U}{v:V}{c':Cf}(ok:Ok C c)(n:Ns c c')(hf:ie [r] c c')(hs:aZ [r] c'.st)(h:aI C c0 c r.1 r.2 v):aI C c0 c' r.1 r.2 v :=
 (h.w.on' ok n fun j e=>hf j r.2 (by rw[<-e];simp)).t hs
theorem uD(k:Kd):kE k=.loc\/kE k=.any:=by cases k<;>simp[kE]
theorem r_{k:Kd}{us:List U}{a':Addr}(hK:C.K=X.K)(ok:Ok C c)(h:aI C c0 c k (.lst us) (.ref a')):Walk C c [(k,.lst us)] (us.map fun u=>(kE k,u)) (Itl X.K a'):=by
 intro c' ok' n hf hs;have h':=aI.walk (r:=(k,.lst us)) ok n hf hs h;obtain⟨a2,vs,e,h1,h2⟩:=h'.list ok';cases e;rw[hK]at h1;refine⟨fun i r hr=>?_,fun i hi=>⟨vs,h1,by rw[<-h2.len];simpa using hi⟩⟩;rw[List.getElem?_map,Option.map_eq_some_iff]at hr;obtain⟨u,hu,rfl⟩:=hr;obtain⟨v,hv,rep⟩:=h2.get hu;refine⟨uD k,⟨vs,v,h1,hv⟩,fun x H' hy=>?_⟩;obtain⟨e,hy⟩:=hy;subst e;have:=hy vs h1;rw[hv]at this;cases this;exact⟨c',rfl,rfl,rfl,ok',Nx.refl c',aI.item rep⟩
theorem pj{k:Kd}{us:List U}{a':Addr}(hK:C.K=X.K)(ok:Ok C c)(h:aI C c0 c k (.tup us) (.ref a')):Walk C c [(k,.tup us)] (us.map fun u=>(kE k,u)) (Itt X.K a'):=by
 intro c' ok' n hf hs;have h':=aI.walk (r:=(k,.tup us)) ok n hf hs h;obtain⟨a2,vs,e,h1,h2⟩:=h'.tuple ok';cases e;rw[hK]at h1;refine⟨fun i r hr=>?_,fun i hi=>⟨vs,h1,by rw[<-h2.len];simpa using hi⟩⟩;rw[List.getElem?_map,Option.map_eq_some_iff]at hr;obtain⟨u,hu,rfl⟩:=hr;obtain⟨v,hv,rep⟩:=h2.get hu;refine⟨uD k,⟨vs,v,h1,hv⟩,fun x H' hy=>?_⟩;obtain⟨e,hy⟩:=hy;subst e;have:=hy vs h1;rw[hv]at this;cases this;exact⟨c',rfl,rfl,rfl,ok',Nx.refl c',aI.item rep⟩
theorem pq{rs:List (Kd×U)}{lo:Int}{n:Nat}:Walk C c rs ((List.range n).map fun i:Nat=>(Kd.loc,U.int (lo+(i:Int)))) (Itr lo n):=by
 intro c' ok' nx hf hs;refine⟨fun i r hr=>?_,fun i hi=>by show n<=i;simpa using hi⟩;rw[List.getElem?_map,Option.map_eq_some_iff]at hr;obtain⟨j,hu,rfl⟩:=hr;have hi:i<n:=by simpa using(List.getElem?_eq_some_iff.mp hu).1
 rw[List.getElem?_range hi]at hu;cases hu;refine⟨.inl rfl,hi,fun y H' hy=>?_⟩;obtain⟨e,rfl⟩:=hy;subst e;exact⟨c',rfl,rfl,rfl,ok',Nx.refl c',rfl⟩
theorem zr(hK:C.K=X.K)(ha:PE X a (tEv C ma)):PI X tg a (tIt C .seq (ma >>= fun r=>pure [] >>= fun rs=>pure (r::rs))):=by
 rintro pins s σ H R I ⟨c0,rfl,rfl,ok,h⟩;rw[ah,ah]at h;obtain⟨r,st1,e1,h⟩:=h;rw[ah,ao,ao,ah,bV,ah]at h;obtain⟨hst,h⟩:=h;obtain⟨xs,e2,h⟩:=cJ.mp h;rw[ao]at h;obtain⟨k,u⟩:=r;cases u with
 |lst us =>
  cases e2;refine vX ha pins s c0.σ c0.H R I ⟨c0,rfl,rfl,ok,_,st1,e1,fun c v hσ hs okc n rep=>?_⟩;obtain⟨a',vs,rfl,h1,h2⟩:=rep.list okc;subst hs;exact⟨a',rfl,⟨vs,hK▸h1⟩,h c _ hσ rfl okc n hst (r_ hK okc rep)⟩
 |tup us =>
  cases e2;refine yy ha pins s c0.σ c0.H R I ⟨c0,rfl,rfl,ok,_,st1,e1,fun c v hσ hs okc n rep=>?_⟩;obtain⟨a',vs,rfl,h1,h2⟩:=rep.tuple okc;subst hs;have h1':=h1;rw[hK]at h1';exact⟨a',rfl,⟨vs,h1'⟩,h c _ hσ rfl okc n hst (pj hK okc rep)⟩
 |_=>cases e2
theorem pv{ms:M (List (Kd×U))}{β:Type}{k:List (Kd×U)->M β}{Post:β->aj->Prop}{Z:List V->Hp->Prop}(ok:Ok C c0)(h:W (ms >>= fun rs=>ay rs >>= fun _=>k rs) c0.st Post)
  (hz:∀rs c vs,Ats C c0 c rs vs->W (k rs) c.st Post->Z vs c.H):tEs C ms c0.σ c0.H Z:=by
 rw[ah]at h;refine⟨c0,rfl,rfl,ok,h.mono fun rs st1 h1 c1 vs e1 e2 ok1 n1 r1=>?_⟩;rw[ah,bV]at h1;subst e2;exact hz rs c1 vs ⟨e1,ok1,n1,r1,h1.1⟩ h1.2
theorem xk(hg:Gl X "range")(hm:X.mg "range"=none)(hs:starEach [a] X.env=[(false,eval a X.env)])(ha:PA X [a] (tEs C ms)):PI X tg (.Call (.Name "range" p) [a] [] pos) (tIt C .rng1 ms):=by
 rintro pins s σ H R I ⟨c0,rfl,rfl,ok,h⟩;refine rj hg hm ha hs pins s c0.σ c0.H R I (pv ok h fun rs c vs t w=>?_);rw[ah]at w;obtain⟨xs,e2,w⟩:=cJ.mp w;rw[ao]at w;obtain⟨x,rfl,hz⟩:=bu (f:=rY) e2;clear e2;have e2:=hz;clear hz;obtain⟨v,rfl,tx⟩:=t.one;unfold rY at e2;split at e2
 ·split at e2
  ·rename_i hh;cases e2;exact⟨_,by rw[tx.int t.ok],by omega,by omega,w c _ t.hσ rfl t.ok t.nx t.stb pq⟩
  ·cases e2
 ·cases e2
theorem nJ{k:Kd}{us:List U}{u0:U}{a':Addr}{Sq:Hp->List V->Prop}(hsq:∀c',Ok C c'->Ns c c'->ie [(k,u0)] c c'->aZ [(k,u0)] c'.st->∃vs,Sq c'.H vs/\ai C (SK C c' k) c'.H us vs):Walk C c [(k,u0)] (us.zipIdx.map fun p=>(kE k,.tup [.int p.2,p.1])) (Ite Sq):=by
 intro c' ok' n hf hs;obtain⟨vs,h1,h2⟩:=hsq c' ok' n hf hs;refine⟨fun i r hr=>?_,fun i hi=>⟨vs,h1,by rw[<-h2.len];simpa using hi⟩⟩;rw[List.getElem?_map,Option.map_eq_some_iff]at hr;obtain⟨p,hp,rfl⟩:=hr;rw[List.getElem?_zipIdx,Option.map_eq_some_iff]at hp;obtain⟨u,hu,rfl⟩:=hp;obtain⟨v,hv,rep⟩:=h2.get hu;refine⟨uD k,⟨vs,v,h1,hv⟩,fun x H' hy=>?_⟩;obtain⟨p,hpn,rfl,hy⟩:=hy;have hy':=hy vs v h1 hv;subst hy';obtain⟨ok2,n2⟩:=ok'.lay (o:=.tup [.int i,v]) hpn;refine⟨{c' with H:=upd c'.H p (.tup [.int i,v])},rfl,rfl,rfl,ok2,n2,aI.item ?_⟩;have r2:ai C (SK C c' k) c'.H [.int ((0+i:Nat):Int),u] [.int (i:Int),v]:=by
  rw[Nat.zero_add];exact⟨_,_,rfl,rfl,_,_,rfl,rep,rfl⟩
 cases k<;>exact⟨p,_,rfl,SqT.of aS,by first|exact r2.mv (ok'.mvP n2)|exact r2.mv (ok'.mv n2)⟩
theorem zt{es:List Expr}{kx:Nat}{ps:Pos}(hK:C.K=X.K)(hg:Gl X "enumerate")(hm:X.mg "enumerate"=none)(hs:starEach [a] X.env=[(false,eval a X.env)])(ha:PA X [a] (tEs C ms)):PI X (.Tuple es kx ps) (.Call (.Name "enumerate" p) [a] [] pos) (tIt C .enm ms):=by
 rintro pins s σ H R I ⟨c0,rfl,rfl,ok,h⟩;refine wB hg hm ha hs pins s c0.σ c0.H R I (pv ok h fun rs c vs t w=>?_);rw[ah]at w;obtain⟨xs,e2,w⟩:=cJ.mp w;rw[ao]at w;obtain⟨x,rfl,hz⟩:=bu (f:=y_) e2;clear e2;have e2:=hz;clear hz;obtain⟨v,rfl,tx⟩:=t.one;unfold y_ at e2;split at e2
 ·cases e2;obtain⟨a',ws,e1,h1,h2⟩:=tx.list t.ok;subst e1;refine⟨a',rfl,.inl ⟨⟨ws,hK▸h1⟩,w c _ t.hσ rfl t.ok t.nx t.stb ?_⟩⟩;refine nJ (a':=a') fun c' ok' n hf hs'=>?_;obtain⟨a2,vs,e,h1,h2⟩:=(aI.walk t.ok n hf hs' tx).list ok';cases e;exact⟨vs,hK▸h1,h2⟩
 ·cases e2;obtain⟨a',ws,e1,h1,h2⟩:=tx.tuple t.ok;subst e1;rw[hK]at h1;refine⟨a',rfl,.inr ⟨⟨ws,h1⟩,w c _ t.hσ rfl t.ok t.nx t.stb ?_⟩⟩;refine nJ (a':=a') fun c' ok' n hf hs'=>?_;obtain⟨a2,vs,e,h1,h2⟩:=(aI.walk t.ok n hf hs' tx).tuple ok';cases e;rw[hK]at h1;exact⟨vs,h1,h2⟩
 ·cases e2
theorem uE{k k':Kd}{us ws:List U}{a' b':Addr}(hsq:∀c',Ok C c'->Ns c c'->ie [(k,.lst us),(k',.tup ws)] c c'->aZ [(k,.lst us),(k',.tup ws)] c'.st->∃vs xs,SqL X.K c'.H a' vs/\SqT X.K c'.H b' xs/\ai C (SK C c' k) c'.H us vs/\ai C (SK C c' k') c'.H ws xs):
  Walk C c [(k,.lst us),(k',.tup ws)] ((us.zip ws).map fun p=>(kT k k',.tup [p.1,p.2])) (Itz (fun H xs=>SqL X.K H a' xs) fun H ys=>SqT X.K H b' ys):=by
 intro c' ok' n hf hs;obtain⟨vs,xs,s1,s2,r1,r2⟩:=hsq c' ok' n hf hs;refine⟨fun i r hr=>?_,fun i hi=>⟨vs,xs,s1,s2,?_⟩⟩
 ·rw[List.getElem?_map,Option.map_eq_some_iff]at hr;obtain⟨p,hp,rfl⟩:=hr;obtain⟨hu,hw⟩:=List.getElem?_zip_eq_some.mp hp;obtain⟨v,hv,rep1⟩:=r1.get hu;obtain⟨w,hw',rep2⟩:=r2.get hw;refine⟨by cases k<;>cases k'<;>simp[kT,isAny],⟨vs,xs,v,w,s1,s2,hv,hw'⟩,fun x H' hy=>?_⟩;obtain⟨q,hpn,rfl,hy⟩:=hy;have hy':=hy vs xs v w s1 s2 hv hw';subst hy';obtain⟨ok2,n2⟩:=ok'.lay (o:=.tup [v,w]) hpn;refine⟨{c' with H:=upd c'.H q (.tup [v,w])},rfl,rfl,rfl,ok2,n2,?_⟩;have a1:ai C (SK C c' k) c'.H [p.1] [v]:=⟨_,_,rfl,rep1,rfl⟩
  have a2:ai C (SK C c' k') c'.H [p.2] [w]:=⟨_,_,rfl,rep2,rfl⟩
  have m:ai C (SK C c' (kT k k')) c'.H [p.1,p.2] [v,w]:=(a1.mv (.up (uh k k'))).append (a2.mv (.up (qx k k')));have z:aI C c' {c' with H:=upd c'.H q (.tup [v,w])} (kE (kT k k')) (.tup [p.1,p.2]) (.ref q):=aI.item (by
   generalize kT k k'=k0 at m;cases k0<;>exact⟨q,_,rfl,SqT.of aS,by first|exact m.mv (ok'.mvP n2)|exact m.mv (ok'.mv n2)⟩)
  rw[xV]at z;exact z
 ·have e1:=r1.len;have e2:=r2.len;rw[List.length_map,List.length_zip]at hi;omega
theorem nK{x y:Kd×U}{st:aj}(h:aZ [x,y] st):aZ [x] st/\aZ [y] st:=by
 obtain⟨k,u⟩:=x;obtain⟨k',u'⟩:=y;cases k<;>cases k'<;>first|exact⟨h.1,h.2⟩|exact⟨⟨h.1,trivial⟩,h.2⟩|exact⟨trivial,h⟩|exact⟨⟨h.1,trivial⟩,trivial⟩
theorem zu{es:List Expr}{kx:Nat}{ps:Pos}(hK:C.K=X.K)(hg:Gl X "zip")(hm:X.mg "zip"=none)(he:starEach (a::[b]) X.env=(false,eval a X.env)::starEach [b] X.env)(hpl:(backTo pos (starEach [b] X.env)).any (·.1)=false)(ha:PA X [a,b] (tEs C ms)):PI X (.Tuple es kx ps) (.Call (.Name "zip" p) [a,b] [] pos) (tIt C .zip ms):=by
 rintro pins s σ H R I ⟨c0,rfl,rfl,ok,h⟩;refine yT hg hm ha he hpl pins s c0.σ c0.H R I (pv ok h fun rs c vs t w=>?_);rw[ah]at w;obtain⟨xs,e2,w⟩:=cJ.mp w;rw[ao]at w;have e2:za rs=some xs:=e2;unfold za at e2;split at e2
 ·cases e2;obtain⟨v,v',rfl,tx,ty⟩:=t.two;obtain⟨a',w1,e1,h1,h2⟩:=tx.list t.ok;obtain⟨b',w2,e3,h3,h4⟩:=ty.tuple t.ok;subst e1 e3;rw[hK]at h3;refine⟨a',b',rfl,⟨w1,hK▸h1⟩,⟨w2,h3⟩,w c _ t.hσ rfl t.ok t.nx t.stb ?_⟩;refine uE fun c' ok' n hf hs'=>?_;obtain⟨a2,vs,e,g1,g2⟩:=(aI.walk t.ok n (fun j u hj=>hf j u (by simp at hj ⊢;exact .inl hj)) (nK hs').1 tx).list ok';cases e;obtain⟨a3,vs',e,g3,g4⟩:=(aI.walk t.ok n (fun j u hj=>hf j u (by simp at hj ⊢;exact .inr hj)) (nK hs').2 ty).tuple ok';cases e;rw[hK]at g3;exact⟨vs,vs',hK▸g1,g3,g2,g4⟩
 ·cases e2
theorem Ok.put(ok:Ok C c)(n:Nx c0 c){k:Kd}{u:U}{v:V}{i:Nat}(hi:i<c.σ.length)(hk:k=.own\/k=.loc\/k=.any)(ok0:Ok C c0)(h:aI C c0 c k u v):
  Ok C {c with σ:=c.σ.set i (some v),st:=c.st.set i (some (k,u))}/\Nx c0 {c with σ:=c.σ.set i (some v),st:=c.st.set i (some (k,u))}:=by
 have hi':i<c.st.length:=by rw[ok.len];exact hi
 have oth:∀(j:Nat) k' u',(c.st.set i (some (k,u)))[j]?=some (some (k',u'))->j≠i->c.st[j]?=some (some (k',u')):=fun j k' u' e ne=>by rw[List.getElem?_set_ne (Ne.symm ne)]at e;exact e
 have othσ:∀(j:Nat) v',(c.σ.set i (some v))[j]?=some (some v')->j≠i->c.σ[j]?=some (some v'):=fun j v' e ne=>by rw[List.getElem?_set_ne (Ne.symm ne)]at e;exact e
 have sl:eJ C c.S c.H k u v:=by
  rcases hk with rfl|rfl|rfl
  ·obtain⟨r,e,h1,h2,h3,h4⟩:=h;obtain⟨z0,z1,z2,z3,z4⟩:=ok0.oZ h1;exact⟨r,e,h2,z2,z0,h4⟩
  ·exact h
  ·exact h
 have newR:∀(j:Nat) k' u' r,k'.root=true->(c.st.set i (some (k,u)))[j]?=some (some (k',u'))->(c.σ.set i (some v))[j]?=some (some (.ref r))->j=i/\k=.own/\v=.ref r\/j≠i/\c.st[j]?=some (some (k',u'))/\c.σ[j]?=some (some (.ref r)):=fun j k' u' r hr e1 e2=>by
  by_cases hj:j=i
  ·subst hj;rw[List.getElem?_set_self hi']at e1;rw[List.getElem?_set_self hi]at e2;cases e1;cases e2;rcases hk with rfl|rfl|rfl
   ·exact .inl ⟨rfl,rfl,rfl⟩
   ·cases hr
   ·cases hr
  ·exact .inr ⟨hj,oth j k' u' e1 hj,othσ j _ e2 hj⟩
 have dD:∀(j:Nat) (u':U),(c.st.set i (some (k,u)))[j]?=some (some (.ownD,u'))->c.st[j]?=some (some (.ownD,u'))/\(c.σ.set i (some v))[j]?=c.σ[j]?:=fun j u' e=>by
  by_cases hj:j=i
  ·subst hj;rw[List.getElem?_set_self hi']at e;cases e;rcases hk with hk|hk|hk<;>cases hk
  ·exact⟨oth j .ownD u' e hj,List.getElem?_set_ne (Ne.symm hj)⟩
 have b1:∀a,({c with σ:=c.σ.set i (some v),st:=c.st.set i (some (k,u))}:Cf).R1 a->c.R1 a\/k=.own/\v=.ref a:=fun a hIx=>by
  obtain⟨j,k',u',hr,e1,e2⟩:=hIx;rcases newR j k' u' a hr e1 e2 with⟨a1,a2,a3⟩|⟨a1,a2,a3⟩
  ·exact .inr ⟨a2,a3⟩
  ·exact .inl ⟨j,k',u',hr,a2,a3⟩
 have hdd:DOk C {c with σ:=c.σ.set i (some v),st:=c.st.set i (some (k,u))}:=ok.dd.of rfl dD (fun a z=>(b1 a z).imp id fun⟨q1,q2⟩ j z'=>by
  subst q1;obtain⟨r',e,_,_,h3,_⟩:=h;rw[q2]at e;cases e;exact h3 (.inr ⟨j,z'⟩)) (.up fun _ z=>z) fun j a z=>⟨(ok.root (.inr ⟨j,z⟩)).1,fun o q=>q⟩
 refine⟨⟨ok.same,ok.sfr,ok.par,ok.io,by simp[ok.len],fun j k' u' e=>?_,fun j1 j2 k1 k2 u1 u2 r hr1 hr2 e1 e2 e3 e4=>?_,hdd⟩,⟨⟨n.keep,n.there,fun a z=>?_,n.sub,n.new⟩,n.all⟩⟩
 ·by_cases hj:j=i
  ·subst hj;rw[List.getElem?_set_self hi']at e;cases e;exact⟨v,by rw[List.getElem?_set_self hi],sl⟩
  ·obtain⟨v',e1,e2⟩:=ok.sl j k' u' (oth j k' u' e hj);exact⟨v',by rw[List.getElem?_set_ne (Ne.symm hj)];exact e1,e2⟩
 ·have z1:=newR j1 k1 u1 r hr1 e1 e3;have z2:=newR j2 k2 u2 r hr2 e2 e4;rcases z1 with⟨a1,a2,a3⟩|⟨a1,a2,a3⟩
  ·rcases z2 with⟨b1,b2,b3⟩|⟨b1,b2,b3⟩
   ·exact a1.trans b1.symm
   ·subst a2;obtain⟨r',e,h1,h2,h3,h4⟩:=h;rw[a3]at e;cases e;exact(h3 (.inl ⟨j2,k2,u2,hr2,b2,b3⟩)).elim
  ·rcases z2 with⟨b1,b2,b3⟩|⟨b1,b2,b3⟩
   ·subst b2;obtain⟨r',e,h1,h2,h3,h4⟩:=h;rw[b3]at e;cases e;exact(h3 (.inl ⟨j1,k1,u1,hr1,a2,a3⟩)).elim
   ·exact ok.inj j1 j2 k1 k2 u1 u2 r hr1 hr2 a2 b2 a3 b3
 ·rcases z with z|⟨j,u',r',e1,e2,e3⟩
  ·rcases b1 a z with z|⟨a2,a3⟩
   ·exact n.roots a (.inl z)
   ·subst a2;obtain⟨r',e,h1,h2,h3,h4⟩:=h;rw[a3]at e;cases e;exact .inr h1
  ·obtain⟨q1,q2⟩:=dD j u' e1;exact n.roots a (.inr ⟨j,u',r',q1,q2▸e2,e3⟩)
theorem qE{r:Kd×U}{v:V}{i:Nat}{Post:Unit->aj->Prop}(ok0:Ok C c0)(ok:Ok C c)(n:Nx c0 c)(hi:i<c.σ.length)(hr:aI C c0 c r.1 r.2 v)(h:W (dz i r) c.st Post):
  ∃c',c'.σ=c.σ.set i (some v)/\c'.H=c.H/\Ok C c'/\Nx c0 c'/\Post () c'.st:=by
 obtain⟨k,u⟩:=r;cases k with
 |own =>
  obtain⟨x,st',e,hp⟩:=h;cases e;obtain⟨a1,a2⟩:=ok.put n hi (.inl rfl) ok0 hr;exact⟨{c with σ:=c.σ.set i (some v),st:=c.st.set i (some (.own,u))},rfl,rfl,a1,a2,hp⟩
 |loc =>
  obtain⟨x,st',e,hp⟩:=h;cases e;obtain⟨a1,a2⟩:=ok.put n hi (.inr (.inl rfl)) ok0 hr;exact⟨{c with σ:=c.σ.set i (some v),st:=c.st.set i (some (.loc,u))},rfl,rfl,a1,a2,hp⟩
 |any =>
  obtain⟨x,st',e,hp⟩:=h;cases e;obtain⟨a1,a2⟩:=ok.put n hi (.inr (.inr rfl)) ok0 hr;exact⟨{c with σ:=c.σ.set i (some v),st:=c.st.set i (some (.any,u))},rfl,rfl,a1,a2,hp⟩
 |io=>exact hr.elim
 |ownD=>exact hr.elim
 |bor j =>
  obtain⟨x,st',e,hp⟩:=h;rw[show dz i (.bor j,u) c.st=match c.st[j]? with|some (some (.own,u))=>some (Ex.ok (),(c.st.set j (some (.loc,u))).set i (some (.loc,u)))|_=>none from rfl]at e;split at e
  ·rename_i w hj;cases e;obtain⟨v',e1,r,er,_⟩:=ok.sl j _ _ hj;have hv:c.σ[j]?=some (some v):=hr.2;rw[hv]at e1;cases e1;subst er;obtain⟨ok',n',rep⟩:=ok.uu n hj hv;obtain⟨a1,a2⟩:=Ok.put (c:={c with S:=fun a=>c.S a\/a=r,st:=c.st.set j (some (.loc,w))}) ok' n' (k:=.loc) (u:=w) (v:=.ref r) hi (.inr (.inl rfl)) ok0 rep;exact⟨{S:=fun a=>c.S a\/a=r,H:=c.H,σ:=c.σ.set i (some (.ref r)),st:=(c.st.set j (some (.loc,w))).set i (some (.loc,w)),kid:=c.kid},rfl,rfl,a1,a2,hp⟩
  ·cases e
end
end TM
namespace TM
open PySem L2 PyProof.Rows
section
variable{X:Cx}{C:Ct}{pins:List (Addr×Obj)}{s:Shared}{c0 c c1:Cf}
variable{a b d e o tg:Expr}{es:List Expr}{m ma mb md:M (Kd×U)}{ms:M (List (Kd×U))}{ta tb:M Bool}{pos p p2 apos cpos:Pos}
noncomputable def tG(C:Ct)(t:Bool)(is:List Nat):TG:=fun v σ H Q=>∃c0 c r,c.σ=σ/\c.H=H/\Ok C c0/\Ok C c/\Nx c0 c/\aI C c0 c r.1 r.2 v/\W (cy t is r) c.st fun _ st' =>
 ∀c',c'.st=st'->Ok C c'->Nx c0 c'->(∀j,j∉is->c'.σ[j]?=c.σ[j]?)->c'.σ.length=c.σ.length->Q c'.σ c'.H
structure pz(X:Cx)(e:Expr)(i:Nat):Prop where
 is:∃x pos,e=.Name x pos/\X.N[i]?=some x/\Loc X.env.scope x/\(X.fn x=true\/X.env.scope.names.lookup x=some .local)
theorem zv{i:Nat}(hN:X.N.Nodup)(h:pz X e i):PG X e (tG C false [i]):=by
 obtain⟨x,pos,rfl,h1,h2,h3⟩:=h.is;rintro pins s σ H v u Q I rv ⟨c0,c,r,rfl,rfl,ok0,ok,n,rep,w⟩;have hi:i<c.σ.length:=by rw[I.len];exact(List.getElem?_eq_some_iff.mp h1).1
 obtain⟨c',e1,e2,ok',n',q⟩:=qE (r:=r) ok0 ok n hi rep w;refine p_ hN h1 h2 h3 pins s c.σ c.H v u Q I rv ?_;have z:=q c' rfl ok' n' (fun j hj=>by rw[e1,List.getElem?_set_ne (by intro z;exact hj (by simp[z]))]) (by rw[e1];simp);rw[e1,e2]at z;exact z
noncomputable def gNs:List Nat->TGs
 |[]=>Am
 |i::is=>xN (p9 i) (gNs is)
inductive dQ(X:Cx):List Expr->List Nat->Prop where
 |nil:dQ X [] []
 |cons {e:Expr} {es:List Expr} {i:Nat} {is:List Nat} (h:pz X e i) (t:dQ X es is):dQ X (e::es) (i::is)
theorem sd(hN:X.N.Nodup){is:List Nat}(h:dQ X es is):PGs X es (gNs is):=by
 induction h with
 |nil=>exact vW
 |cons h t ih =>
  obtain⟨x,pos,rfl,h1,h2,h3⟩:=h.is;exact sO (p_ hN h1 h2 h3) ih rfl
theorem pA{is:List Nat}(h:dQ X es is):(assignEach es X.env).length=is.length/\(assignEach es X.env).findIdx? (·.1)=none:=by
 induction h with
 |nil=>exact⟨rfl,rfl⟩
 |cons h t ih =>
  obtain⟨x,pos,rfl,h1,h2,h3⟩:=h.is;refine⟨?_,?_⟩
  ·show(_::_).length=_;simp[ih.1]
  ·show List.findIdx? _ (_::_)=none;rw[List.findIdx?_cons,if_neg (by simp),ih.2];rfl
theorem qF{k:Kd}(hk:kE k=k)(ok0:Ok C c0):∀{is:List Nat}{us:List U}{vs:List V}{c:Cf}{Post:Unit->aj->Prop}{Q:L2.St->Hp->Prop},Ok C c->Nx c0 c->(∀i∈is,i<c.σ.length)->ai C (SK C c k) c.H us vs->W (sets is (us.map fun u=>(k,u))) c.st Post ->
  (∀c',Post () c'.st->Ok C c'->Nx c0 c'->(∀j,j∉is->c'.σ[j]?=c.σ[j]?)->c'.σ.length=c.σ.length->Q c'.σ c'.H)->gNs is vs c.σ c.H Q
 |[],[],vs,c,Post,Q,ok,n,hi,rep,w,q=>by
  rw[show sets [] (List.map (fun u=>(k,u)) [])=pure () from rfl,ao]at w;exact⟨rep,q c w ok n (fun _ _=>rfl) rfl⟩
 |[],u::us,vs,c,Post,Q,ok,n,hi,rep,w,q=>(aw.mp w).elim
 |i::is,[],vs,c,Post,Q,ok,n,hi,rep,w,q=>(aw.mp w).elim
 |i::is,u::us,vs,c,Post,Q,ok,n,hi,rep,w,q=>by
  rw[show sets (i::is) (List.map (fun u=>(k,u)) (u::us))=dz i (k,u) >>= fun _=>sets is (us.map fun u=>(k,u)) from rfl,ah]at w;obtain⟨v,r,rfl,h1,h2⟩:=rep;have hk':k=.own\/k=.loc\/k=.any:=by cases k<;>simp[kE]at hk<;>simp
  have hni:k≠.own:=by cases k<;>simp[kE]at hk<;>simp
  have rt:aI C c0 c k u v:=by rw[<-hk];exact aI.item h1
  obtain⟨a1,a2⟩:=ok.put n (hi i (by simp)) hk' ok0 rt;have es:dz i (k,u)=fun st=>some (.ok (),st.set i (some (k,u))):=by cases k<;>simp[kE]at hk<;>rfl
  obtain⟨_,st',e,w'⟩:=w;rw[es]at e;cases e;refine⟨v,r,rfl,qF (c:={c with σ:=c.σ.set i (some v),st:=c.st.set i (some (k,u))}) hk ok0 a1 a2 (fun j hj=>by simpa using hi j (by simp[hj])) (by cases k<;>exact h2) w' fun c' p ok' n' hf hl=>?_⟩;refine q c' p ok' n' (fun j hj=>?_) (by rw[hl];simp);rw[hf j (fun z=>hj (by simp[z])),List.getElem?_set_ne (fun z=>hj (by simp[z]))]
theorem AN{is:List Nat}{kk:Nat}(hc:X.calm=true)(hK:C.K=X.K)(hN:X.N.Nodup)(h:dQ X es is)(hl:∀i∈is,i<X.N.length):PG X (.Tuple es kk pos) (tG C true is):=by
 rintro pins s σ H v u Q I rv ⟨c0,c,r,rfl,rfl,ok0,ok,n,rep,w⟩;obtain⟨e1,e2⟩:=pA h;refine yr hc (sd hN h) e1 e2 pins s c.σ c.H v u Q I rv ?_;obtain⟨k,ux⟩:=r;cases ux with
 |tup us =>
  rw[show cy true is (k,.tup us)=sets is (us.map fun u=>(kE k,u)) from by cases is<;>rfl]at w;obtain⟨a',vs,rfl,h1,h2⟩:=rep.tuple ok;rw[hK]at h1;have hlen:us.length=is.length:=by
   have aux:∀(is:List Nat) (l:List (Kd×U)) (st:aj) (P:Unit->aj->Prop),W (sets is l) st P->l.length=is.length:=by
    intro is;induction is with
    |nil=>intro l st P w;cases l with
     |nil=>rfl
     |cons _ _=>exact(aw.mp w).elim
    |cons i is ih=>intro l st P w;cases l with
     |nil=>exact(aw.mp w).elim
     |cons x l =>
      rw[show sets (i::is) (x::l)=dz i x >>= fun _=>sets is l from rfl,ah]at w;obtain⟨_,_,_,w⟩:=w;rw[List.length_cons,List.length_cons,ih l _ _ w]
   simpa using aux _ _ _ _ w
  refine⟨a',vs,rfl,h1,by rw[<-h2.len,hlen],?_⟩;refine qF (k:=kE k) (by cases k<;>rfl) ok0 ok n (fun i hi=>by rw[I.len];exact hl i hi) (by cases k<;>exact h2) w fun c' p ok' n' hf hl'=>p c' rfl ok' n' hf hl'
 |_=>cases is<;>exact(aw.mp w).elim
end
end TM
namespace TM
open PySem L2 PyProof.Rows
section
variable{X:Cx}{C:Ct}{pins:List (Addr×Obj)}{s:Shared}{c0 c c1:Cf}
variable{a b d e o tg iter elt:Expr}{es ifs:List Expr}{m ma mb md me:M (Kd×U)}{ms:M (List (Kd×U))}{ta tb tc:M Bool}{pos p p2 apos cpos:Pos}
theorem se{α:Type}{k:Nat}{m:M α}{st:aj}{Q:α->aj->Prop}:W (inScope k m) st Q↔W m (List.replicate k none++st) fun a st'=>Q a (st'.drop k):=by
 constructor
 ·rintro⟨a,st',e,h⟩;unfold inScope at e;cases q:m (List.replicate k none++st) with
  |none=>rw[q]at e;cases e
  |some r=>obtain⟨r1,r2⟩:=r;rw[q]at e;cases e;exact⟨a,r2,q,h⟩
 ·rintro⟨a,st',e,h⟩;exact⟨a,st'.drop k,by unfold inScope;rw[e],h⟩
noncomputable def Cf.ext(k:Nat)(c:Cf):Cf:={c with σ:=List.replicate k none++c.σ,st:=List.replicate k none++c.st,kid:=fun j=>c.kid (j - k)}
noncomputable def Cf.cut(k:Nat)(c:Cf):Cf:={c with σ:=c.σ.drop k,st:=c.st.drop k,kid:=fun j=>c.kid (k+j)}
theorem fk{α:Type}{k j:Nat}{l:List (Option α)}{x:α}(h:(List.replicate k none++l)[j]?=some (some x)):∃i,j=k+i/\l[i]?=some (some x):=by
 by_cases hj:j<k
 ·rw[List.getElem?_append_left (by simpa using hj)]at h;rw[List.getElem?_replicate]at h;rw[if_pos hj]at h;cases h
 ·refine⟨j - k,by omega,?_⟩;rw[List.getElem?_append_right (by simp;omega)]at h;simpa using h
theorem dR{α:Type}{k i:Nat}{l:List (Option α)}:(List.replicate k none++l)[k+i]?=l[i]?:=by
 rw[List.getElem?_append_right (by simp)];simp
theorem uF{k:Nat}{r:Addr}:(c.ext k).R1 r↔c.R1 r:=by
 constructor
 ·rintro⟨j,kd,u,h1,h2,h3⟩;obtain⟨i,rfl,e⟩:=fk h2;rw[Cf.ext,dR]at h3;exact⟨i,kd,u,h1,e,h3⟩
 ·rintro⟨i,kd,u,h1,h2,h3⟩;exact⟨k+i,kd,u,h1,by rw[Cf.ext,dR];exact h2,by rw[Cf.ext,dR];exact h3⟩
theorem l_{k j:Nat}{a:Addr}(h:(c.ext k).RD j a):∃i,j=k+i/\c.RD i a:=by
 obtain⟨u,r,e1,e2,e3⟩:=h;obtain⟨i,rfl,e⟩:=fk e1;rw[Cf.ext,dR]at e2;refine⟨i,rfl,u,r,e,e2,?_⟩;have:(c.ext k).kid (k+i)=c.kid i:=by show c.kid (k+i - k)=_;rw[Nat.add_sub_cancel_left]
 rw[this]at e3;exact e3
theorem AO{k:Nat}{r:Addr}(h:(c.ext k).R r):c.R r:=by
 rcases h with h|⟨j,h⟩
 ·exact .inl (uF.mp h)
 ·obtain⟨i,_,h⟩:=l_ h;exact .inr ⟨i,h⟩
theorem Ok.ext(k:Nat)(ok:Ok C c):Ok C (c.ext k)/\Nx c (c.ext k):=by
 refine⟨⟨ok.same,ok.sfr,ok.par,ok.io,by simp[Cf.ext,ok.len],fun j kd u e=>?_,fun i j k1 k2 u u' r h1 h2 e1 e2 e3 e4=>?_,⟨fun j u r e1 e2=>?_,fun i j a z1 z2=>?_,fun j a z1 z2=>?_⟩⟩,⟨⟨fun _ _ h _=>h,fun _ o h=>⟨o,h⟩,fun a h=>.inl (AO h),fun _ h=>h,fun _ h=>.inl h⟩,fun _ _ h=>h⟩⟩
 ·obtain⟨i,rfl,e'⟩:=fk e;obtain⟨v,e1,e2⟩:=ok.sl i kd u e';exact⟨v,by rw[Cf.ext,dR];exact e1,e2⟩
 ·obtain⟨i',rfl,e1'⟩:=fk e1;obtain⟨j',rfl,e2'⟩:=fk e2;rw[Cf.ext,dR]at e3 e4;rw[ok.inj i' j' k1 k2 u u' r h1 h2 e1' e2' e3 e4]
 ·obtain⟨i,rfl,e⟩:=fk e1;rw[Cf.ext,dR]at e2;have:(c.ext k).kid (k+i)=c.kid i:=by show c.kid (k+i - k)=_;rw[Nat.add_sub_cancel_left]
  rw[this];exact ok.dd.kd i u r e e2
 ·obtain⟨i',rfl,y1⟩:=l_ z1;obtain⟨j',rfl,y2⟩:=l_ z2;rw[ok.dd.dj i' j' a y1 y2]
 ·obtain⟨i,rfl,y1⟩:=l_ z1;exact ok.dd.d1 i a y1 (uF.mp z2)
theorem uG{k:Nat}{a:Addr}(h:(c.cut k).R1 a):c.R1 a:=by
 obtain⟨j,kd,u,h1,h2,h3⟩:=h;rw[Cf.cut,List.getElem?_drop]at h2 h3;exact⟨k+j,kd,u,h1,h2,h3⟩
theorem mf{k j:Nat}{a:Addr}(h:(c.cut k).RD j a):c.RD (k+j) a:=by
 obtain⟨u,r,h1,h2,h3⟩:=h;rw[Cf.cut,List.getElem?_drop]at h1 h2;exact⟨u,r,h1,h2,h3⟩
theorem Ok.cut(k:Nat)(ok:Ok C c):Ok C (c.cut k)/\Nx c (c.cut k):=by
 refine⟨⟨ok.same,ok.sfr,ok.par,ok.io,by simp[Cf.cut,ok.len],fun j kd u e=>?_,fun i j k1 k2 u u' r h1 h2 e1 e2 e3 e4=>?_,⟨fun j u r e1 e2=>?_,fun i j a z1 z2=>?_,fun j a z1 z2=>ok.dd.d1 _ a (mf z1) (uG z2)⟩⟩,⟨⟨fun _ _ h _=>h,fun _ o h=>⟨o,h⟩,fun a h=>.inl (h.elim (fun z=>.inl (uG z)) fun⟨j,z⟩=>.inr ⟨k+j,mf z⟩),fun _ h=>h,fun _ h=>.inl h⟩,fun _ _ h=>h⟩⟩
 ·rw[Cf.cut,List.getElem?_drop]at e;obtain⟨v,e1,e2⟩:=ok.sl _ kd u e;exact⟨v,by rw[Cf.cut,List.getElem?_drop];exact e1,e2⟩
 ·rw[Cf.cut,List.getElem?_drop]at e1 e2 e3 e4;have:=ok.inj _ _ k1 k2 u u' r h1 h2 e1 e2 e3 e4;omega
 ·rw[Cf.cut,List.getElem?_drop]at e1 e2;exact ok.dd.kd _ u r e1 e2
 ·have:=ok.dd.dj _ _ a (mf z1) (mf z2);omega
theorem xl{k:Nat}{σ σ':L2.St}(h:∀j,j∉List.range k->σ'[j]?=(List.replicate k none++σ)[j]?)(hl:σ'.length=(List.replicate k (none:Option V)++σ).length):∃own:L2.St,own.length=k/\σ'=own++σ:=by
 refine⟨σ'.take k,by rw[List.length_take,hl];simp,?_⟩;apply List.ext_getElem?;intro j;by_cases hj:j<k
 ·rw[List.getElem?_append_left (by rw[List.length_take,hl];simp;omega),List.getElem?_take,if_pos hj]
 ·rw[h j (by simpa using hj),List.getElem?_append_right (by simp;omega),List.getElem?_append_right (by rw[List.length_take,hl];simp;omega)];congr 1
  rw[List.length_take,hl];simp
theorem kQ{k:Nat}{t:Bool}{ik:Ik}{Q:VK}(ok:Ok C c0)
  (h:W (ms >>= fun rs=>ay rs >>= fun _=>M.ofO (itU ik rs) >>= fun xs=>bC k t tc me rs xs [] >>= fun us=>pure (Kd.own,U.lst us)) c0.st (bT C c0 Q)) :
  tF k (tIt C ik ms) (tG C t (List.range k)) (tTs C tc) (tEv C me) c0.σ c0.H Q:=by
 rw[ah]at h;refine⟨c0,rfl,rfl,ok,?_⟩;rw[ah];refine h.mono fun rs st1 h1=>?_;rw[ah,bV]at h1 ⊢;refine⟨h1.1,?_⟩;have h2:=h1.2;rw[ah]at h2 ⊢;refine h2.mono fun xs st2 h3=>?_;rw[ao];intro c1 J e1 e2 ok1 n1 hst hw;rw[ah]at h3;subst e2
 dsimp only at hst hw
 refine⟨fun i m ys H=>∃c acc,c.H=H/\c.σ=c0.σ/\Ok C c/\Nx c1 c/\m=xs.length - i/\i<=xs.length/\ai C c.S c.H acc ys/\acc.length<=sizeLine/\W (bC k t tc me rs (xs.drop i) acc) c.st fun us st'=>W (pure (Kd.own,U.lst us)) st' (bT C c0 Q),⟨xs.length,c1,[],rfl,e1,ok1,Nx.refl c1,by simp,Nat.zero_le _,rfl,Nat.zero_le _,by simpa using h3⟩,?_⟩;rintro i m ys H ⟨c,acc,rfl,e3,okc,nc,rfl,hi,rep,hlen,w⟩;refine⟨by rw[<-rep.len];exact hlen,?_⟩;have fixed:ie rs c1 c:=fun j u _=>by rw[e3,e1]
 by_cases hlt:i<xs.length
 ·right
  rw[List.drop_eq_getElem_cons hlt]at w;rw[show bC k t tc me rs (xs[i]::xs.drop (i+1)) acc=ay rs >>= fun _=>inScope k (cy t (List.range k) xs[i] >>= fun _=>tc >>= fun b=>if b=true then(me >>= fun r=>lift r >>= fun u=>pure (some u)) else pure none) >>= fun r=>match r with|some u=>if acc.length<sizeLine then bC k t tc me rs (xs.drop (i+1)) (acc++[u]) else M.fail|none=>bC k t tc me rs (xs.drop (i+1)) acc from rfl,ah,bV]at w;obtain⟨hstab,w⟩:=w;obtain⟨wk,_⟩:=hw c okc nc fixed hstab;obtain⟨hla,hgo,hyl⟩:=wk i xs[i] (by simp[hlt]);refine⟨hgo,fun ys' H'=>∃c acc,c.H=H'/\c.σ=c0.σ/\Ok C c/\Nx c1 c/\ai C c.S c.H acc ys'/\acc.length<=sizeLine/\W (bC k t tc me rs (xs.drop (i+1)) acc) c.st fun us st'=>W (pure (Kd.own,U.lst us)) st' (bT C c0 Q),fun ys' H' ⟨c',acc',z1,z2,z3,z4,z5,z6,z7⟩=>⟨xs.length - (i+1),by omega,c',acc',z1,z2,z3,z4,rfl,hlt,z5,z6,z7⟩,fun x H' hy=>?_⟩;obtain⟨c2,rfl,e4,e5,ok2,n2,rt⟩:=hyl x H' hy;rw[ah,se,ah]at w;obtain⟨okx,nx⟩:=ok2.ext k;have rtx:aI C (c2.ext k) (c2.ext k) xs[i].1 xs[i].2 x:=by
   rcases hla with z|z
   ·rw[z]at rt ⊢;exact rt
   ·rw[z]at rt ⊢;exact rt
  have eσ:(c2.ext k).σ=List.replicate k none++c0.σ:=by rw[Cf.ext];show List.replicate k none++c2.σ=_;rw[e4,e3]
  refine⟨c2.ext k,c2.ext k,xs[i],eσ,rfl,okx,okx,Nx.refl _,rtx,?_⟩;have est:(c2.ext k).st=List.replicate k none++c.st:=by rw[Cf.ext];show List.replicate k none++c2.st=_;rw[e5]
  rw[est];refine w.mono fun _ st3 w3 c3 e6 ok3 n3 hfix hl3=>?_;subst e6;rw[eσ]at hfix hl3;obtain⟨own,ho1,ho2⟩:=xl hfix hl3;refine⟨own,ho1,ho2,?_⟩;have nc3:Nx c c3:=(n2.trans nx).trans n3;rw[ah]at w3;refine⟨c3,rfl,rfl,ok3,w3.mono fun b st4 w4 c4 e7 e8 ok4 n4=>?_⟩;subst e8;cases b with
  |false =>
   rw[if_neg Bool.false_ne_true]at w4 ⊢;rw[ao]at w4;obtain⟨okk,nk⟩:=ok4.cut k;have nn:Nx c (c4.cut k):=(nc3.trans n4).trans nk;refine⟨c4.cut k,acc,rfl,?_,okk,nc.trans nn,rep.mv (okc.mv nn),hlen,w4⟩;show c4.σ.drop k=_;rw[e7,ho2,List.drop_left' ho1]
  |true =>
   rw[if_pos rfl]at w4 ⊢;rw[ah]at w4;refine⟨c4,e7,rfl,ok4,w4.mono fun r st5 w5 c5 v e9 e10 ok5 n5 rt5=>?_⟩;subst e10;rw[ah]at w5;obtain⟨S',st',u,sS,ok6,n6,rep6,w6,_,_⟩:=iJ ok4 ok5 n5 rt5.w w5;rw[ao]at w6
   dsimp only at w6
   split at w6
   ·rename_i hz;obtain⟨okk,nk⟩:=ok6.cut k;have nn:Nx c (Cf.cut k {c5 with S:=S',st:=st' }):=((nc3.trans n4).trans n6).trans nk;refine⟨Cf.cut k {c5 with S:=S',st:=st' },acc++[u],rfl,?_,okk,nc.trans nn,(rep.mv (okc.mv nn)).snoc rep6,by rw[List.length_append];exact hz,w6⟩;show c5.σ.drop k=_;rw[e9,ho2,List.drop_left' ho1]
   ·exact(aw.mp w6).elim
 ·left
  have hi':i=xs.length:=by omega
  subst hi';rw[List.drop_length,show bC k t tc me rs [] acc=ay rs >>= fun _=>pure acc from rfl,ah,bV,ao,ao]at w;obtain⟨_,wk⟩:=hw c okc nc fixed w.1;exact⟨wk _ (Nat.le_refl _),fun p hp=>bT.list w.2 e3 okc (n1.trans nc) rep p hp⟩
theorem uH{N own:List Str}{scope:Scope}{t:Bool}{ik:Ik}(S:di X N own scope)(hc:X.calm=true)(hi:PI X tg iter (tIt C ik ms))
  (hg:∀D s H ex,PG (cxC X N scope D s H ex) tg (tG C t (List.range own.length))) (hf:∀D s H ex,PIf (cxC X N scope D s H ex) ifs (tTs C tc)) (he:∀D s H ex,PE (cxC X N scope D s H ex) elt (tEv C me))
  (hs:∀x,foldedSetIterable iter X.env x=pure x) :
  PE X (.ListComp elt [⟨tg,iter,ifs,0⟩] scope pos) (tEv C (ms >>= fun rs=>ay rs >>= fun _=>M.ofO (itU ik rs) >>= fun xs=>bC own.length t tc me rs xs [] >>= fun us=>pure (.own,.lst us))):=by
 refine PE.weak (wj S hc hi hg hf he hs) ?_;rintro σ H Q ⟨c0,rfl,rfl,ok,h⟩;exact kQ ok h
end
end TM
namespace TM
open PySem L2 PyProof.Rows
section
variable{X:Cx}{C:Ct}{pins:List (Addr×Obj)}{s:Shared}{c0 c c1:Cf}
variable{a b d e o tg iter elt:Expr}{es ifs:List Expr}{m ma mb md me:M (Kd×U)}{ms:M (List (Kd×U))}{ta tb tc:M Bool}{pos p p2 apos cpos:Pos}{st:Stmt}{rest body:List Stmt}{f g mm:M Fl}{ns ns':Nat->Bool}
noncomputable def AQ(C:Ct)(c:Cf):Kd->U->V->Prop
 |.own,u,v=>∃r,v=.ref r/\C.H₀ r=none/\¬c.S r/\¬c.R r/\cX C c.S c.H r u
 |.loc,u,v=>Rep C c.S c.H u v
 |.any,u,v=>Rep C (PS C c.S) c.H u v
 |_,_,_=>False
noncomputable def Fin(C:Ct)(D:Ends)(f:Fl)(c:Cf):Prop:=match f with
 |.nx=>D.nx c.σ c.H
 |.bk=>D.bk c.σ c.H
 |.ct=>D.ct c.σ c.H
 |.rt k u=>∀v,AQ C c k u v->D.rt v c.H
noncomputable def Kept(ns:Nat->Bool)(c c':Cf):Prop:=(∀j,ns j=true->c'.σ[j]?=c.σ[j]?)/\c'.σ.length=c.σ.length
theorem Kept.refl:Kept ns c c:=⟨fun _ _=>rfl,rfl⟩
theorem Kept.trans{c' c'':Cf}(h:Kept ns c c')(h':Kept ns c' c''):Kept ns c c'':=⟨fun j z=>(h'.1 j z).trans (h.1 j z),h'.2.trans h.2⟩
theorem Kept.le{c':Cf}(i:∀j,ns' j=true->ns j=true)(h:Kept ns c c'):Kept ns' c c':=⟨fun j z=>h.1 j (i j z),h.2⟩
theorem Kept.of{c':Cf}(h:c'.σ=c.σ):Kept ns c c':=⟨fun j z=>by rw[h],by rw[h]⟩
noncomputable def jx(C:Ct)(c0:Cf)(ns:Nat->Bool)(D:Ends)(f:Fl)(st':aj):Prop:=∀c,c.st=st'->Ok C c->Ns c0 c->Kept ns c0 c->Fin C D f c
noncomputable def tEx(C:Ct)(ns:Nat->Bool)(m:M Fl):TS:=fun D σ H=>∃c0:Cf,c0.σ=σ/\c0.H=H/\Ok C c0/\W m c0.st (jx C c0 ns D)
theorem pB{D:Ends}(ok:Ok C c1)(n:Ns c0 c1)(k:Kept ns c0 c1)(h:W mm c1.st (jx C c0 ns D)):tEx C ns mm D c1.σ c1.H :=
 ⟨c1,rfl,rfl,ok,h.mono fun f st h2 c2 e ok2 n2 k2=>h2 c2 e ok2 (n.trans n2) (k.trans k2)⟩
theorem PS.weak{t t':TS}(h:L2.PS X st t)(i:∀D σ H,t' D σ H->t D σ H):L2.PS X st t':=fun pins s σ H D I q=>h pins s σ H D I (i D σ H q)
theorem PSs.weak{t t':TS}(h:PSs X rest t)(i:∀D σ H,t' D σ H->t D σ H):PSs X rest t':=fun pins s σ H D I q=>h pins s σ H D I (i D σ H q)
theorem mi{D:Ends}{σ:L2.St}{H:Hp}(i:∀j,ns' j=true->ns j=true)(h:tEx C ns' mm D σ H):tEx C ns mm D σ H :=
 let ⟨c0,e1,e2,ok,w⟩:=h;⟨c0,e1,e2,ok,w.mono fun f st h2 c2 e ok2 n2 k2=>h2 c2 e ok2 n2 (k2.le i)⟩
theorem AR:PSs X [] (tEx C ns (pure .nx)):=by
 refine PSs.weak vS ?_;rintro D σ H ⟨c0,rfl,rfl,ok,h⟩;rw[ao]at h;exact h c0 rfl ok (Ns.refl c0) Kept.refl
noncomputable def xm(m:M Fl)(f:Fl):M Fl:=match f with
 |.nx=>m
 |f=>pure f
theorem zw(h1:L2.PS X st (tEx C ns f))(h2:PSs X rest (tEx C ns g)):PSs X (st::rest) (tEx C ns (f >>= xm g)):=by
 refine PSs.weak (sM h1 h2) ?_;rintro D σ H ⟨c0,rfl,rfl,ok,h⟩;rw[ah]at h;refine⟨c0,rfl,rfl,ok,h.mono fun fl st1 w c1 e ok1 n1 k1=>?_⟩;subst e;cases fl with
 |nx=>exact pB ok1 n1 k1 w
 |bk=>rw[show xm g .bk=pure .bk from rfl,ao]at w;exact w c1 rfl ok1 n1 k1
 |ct=>rw[show xm g .ct=pure .ct from rfl,ao]at w;exact w c1 rfl ok1 n1 k1
 |rt k u=>rw[show xm g (.rt k u)=pure (.rt k u) from rfl,ao]at w;exact w c1 rfl ok1 n1 k1
theorem AS:L2.PS X (.Break pos) (tEx C ns (pure .bk)):=by
 refine PS.weak sN ?_;rintro D σ H ⟨c0,rfl,rfl,ok,h⟩;rw[ao]at h;exact h c0 rfl ok (Ns.refl c0) Kept.refl
theorem AU:L2.PS X (.Continue pos) (tEx C ns (pure .ct)):=by
 refine PS.weak mT ?_;rintro D σ H ⟨c0,rfl,rfl,ok,h⟩;rw[ao]at h;exact h c0 rfl ok (Ns.refl c0) Kept.refl
theorem AV:L2.PS X (.Pass pos) (tEx C ns (pure .nx)):=by
 refine PS.weak vT ?_;rintro D σ H ⟨c0,rfl,rfl,ok,h⟩;rw[ao]at h;exact h c0 rfl ok (Ns.refl c0) Kept.refl
theorem AW(ha:PE X a (tEv C ma))(hs:swapsWith a none pos.line X.env=pure false):L2.PS X (.Expr a pos) (tEx C ns (ma >>= fun _=>pure .nx)):=by
 refine PS.weak (lA ha hs) ?_;rintro D σ H ⟨c0,rfl,rfl,ok,h⟩;refine bh ok h fun x c v t w=>?_;rw[ao]at w;have:=w c rfl t.ok t.nx (Kept.of t.hσ);rw[<-t.hσ];exact this
theorem zx:L2.PS X (.Return none pos) (tEx C ns (pure (.rt .loc .non))):=by
 refine PS.weak vU ?_;rintro D σ H ⟨c0,rfl,rfl,ok,h⟩;rw[ao]at h;exact h c0 rfl ok (Ns.refl c0) Kept.refl .non rfl
theorem AX(ha:PE X a (tEv C ma)):L2.PS X (.Return (some a) pos) (tEx C ns (ma >>= retS)):=by
 refine PS.weak (yq ha) ?_;rintro D σ H ⟨c0,rfl,rfl,ok,h⟩;refine bh ok h fun x c v t w=>?_;obtain⟨k,u⟩:=x;obtain⟨hσ,okc,n,r⟩:=t;cases k with
 |own =>
  rw[show retS (.own,u)=pure (.rt .own u) from rfl,ao]at w;obtain⟨r0,e,h1,h2,h3,h4⟩:=r;exact w c rfl okc n (Kept.of hσ) v ⟨r0,e,(ok.oZ h1).1,h2,h3,h4⟩
 |loc =>
  rw[show retS (.loc,u)=pure (.rt .loc u) from rfl,ao]at w;exact w c rfl okc n (Kept.of hσ) v r
 |any =>
  rw[show retS (.any,u)=if imm u=true then pure (.rt .loc u) else pure (.rt .any u) from rfl]at w;split at w
  ·rw[ao]at w;exact w c rfl okc n (Kept.of hσ) v (Rep.imm (by assumption) r)
  ·rw[ao]at w;exact w c rfl okc n (Kept.of hσ) v r
 |io=>exact r.elim
 |ownD=>exact r.elim
 |bor j =>
  obtain⟨fl,st',e,w⟩:=w;rw[show retS (.bor j,u) c.st=match c.st[j]? with|some (some (.own,u))=>some (Ex.ok (Fl.rt .own u),c.st.set j none)|_=>none from rfl]at e;split at e
  ·rename_i u' hj;cases e;have hjl:j<c.st.length:=(List.getElem?_eq_some_iff.mp hj).1;have oth:∀(i:Nat) k u',(c.st.set j none)[i]?=some (some (k,u'))->i≠j/\c.st[i]?=some (some (k,u')):=fun i k u' e=>by
    by_cases hij:i=j
    ·subst hij;rw[List.getElem?_set_self hjl]at e;cases e
    ·rw[List.getElem?_set_ne (Ne.symm hij)]at e;exact⟨hij,e⟩
   obtain⟨v',e1,r0,er,q1,q2,q3,q4⟩:=okc.sl j _ _ hj;have hv:c.σ[j]?=some (some v):=r.2;rw[hv]at e1;cases e1;subst er;have hR1:∀a,({c with st:=c.st.set j none}:Cf).R1 a->c.R1 a:=fun a ⟨i,k,u2,hk,e1,e2⟩=>⟨i,k,u2,hk,(oth i k u2 e1).2,e2⟩
   have hR:∀a,({c with st:=c.st.set j none}:Cf).R a->c.R a:=fun a z=>z.elim (fun z=>.inl (hR1 a z)) fun⟨i,u2,r2,e1,e2,e3⟩=>.inr ⟨i,u2,r2,(oth i .ownD u2 e1).2,e2,e3⟩;have hdd:DOk C {c with st:=c.st.set j none}:=okc.dd.of rfl (fun i u2 e=>⟨(oth i .ownD u2 e).2,rfl⟩) (fun a z=>.inl (hR1 a z)) (.up fun _ z=>z) fun i a z=>⟨(okc.root (.inr ⟨i,z⟩)).1,fun o q=>q⟩
   have okn:Ok C {c with st:=c.st.set j none}:=⟨okc.same,okc.sfr,okc.par,okc.io,by simp[okc.len],fun i k u2 e=>okc.sl i k u2 (oth i k u2 e).2,fun i i' k k' u1 u2 r hk hk' e1 e2 e3 e4=>okc.inj i i' k k' u1 u2 r hk hk' (oth i k u1 e1).2 (oth i' k' u2 e2).2 e3 e4,hdd⟩
   have nn:Ns c0 {c with st:=c.st.set j none}:=⟨n.keep,n.there,fun a z=>n.roots a (hR a z),n.sub,n.new⟩
   refine w {c with st:=c.st.set j none} rfl okn nn (Kept.of hσ) (.ref r0) ⟨r0,rfl,q3,q1,fun z=>?_,q4⟩
   ·rcases z with⟨i,k,u2,hk,e1,e2⟩|⟨i,u2,r2,e1,e2,e3⟩
    ·obtain⟨ne,e1'⟩:=oth i k u2 e1;exact ne (okc.inj i j k .own u2 _ r0 hk rfl e1' hj e2 hv)
    ·exact okc.dd.d1 i r0 ⟨u2,r2,(oth i .ownD u2 e1).2,e2,e3⟩ ⟨j,.own,_,rfl,hj,hv⟩
  ·cases e
end
end TM
namespace TM
open PySem L2 PyProof.Rows
section
variable{X:Cx}{C:Ct}{pins:List (Addr×Obj)}{s:Shared}{c0 c c1:Cf}
variable{a b d e o tg iter elt:Expr}{es ifs:List Expr}{m ma mb md me:M (Kd×U)}{ms:M (List (Kd×U))}{ta tb tc:M Bool}{pos p p2 apos cpos:Pos}{st:Stmt}{rest body:List Stmt}{f g mm:M Fl}{ns ns':Nat->Bool}
theorem nL{i:Nat}{D:Ends}{r:Kd×U}{v:V}(hns:∀j,ns j=true->j≠i)(ok0:Ok C c0)(t:At1 C c0 c r v)(hi:i<c.σ.length)(w:W (dz i r >>= fun _=>(pure .nx:M Fl)) c.st (jx C c0 ns D)):D.nx (c0.σ.set i (some v)) c.H:=by
 rw[ah]at w;obtain⟨c',e1,e2,ok',n',q⟩:=qE (r:=r) ok0 t.ok t.nx hi t.rx w;rw[ao]at q;have z:=q c' rfl ok' n' ⟨fun j hj=>by rw[e1,t.hσ,List.getElem?_set_ne (Ne.symm (hns j hj))],by rw[e1,t.hσ];simp⟩;have z':D.nx c'.σ c'.H:=z;rw[e1,e2,t.hσ]at z';exact z'
theorem xX{i:Nat}{x:Str}{pos':Pos}(hns:∀j,ns j=true->j≠i)(hN:X.N.Nodup)(hi:X.N[i]?=some x)(hx:Loc X.env.scope x)(hf:X.fn x=true\/X.env.scope.names.lookup x=some .local)(ha:PE X a (tEv C ma))
  (hs:swapsWith a (some (.Name x pos')) pos.line X.env=pure false):L2.PS X (.Assign [.Name x pos'] a pos) (tEx C ns (ma >>= fun r=>dz i r >>= fun _=>pure .nx)):=by
 rintro pins s σ H D I ⟨c0,rfl,rfl,ok,h⟩;have hil:i<c0.σ.length:=by rw[I.len];exact(List.getElem?_eq_some_iff.mp hi).1
 exact yw hN hi hx ha hs hf pins s c0.σ c0.H D I (bh ok h fun r c v t w=>nL hns ok t (by rw[t.hσ];exact hil) w)
theorem zy{N own:List Str}{scope:Scope}{t:Bool}{ik:Ik}{i:Nat}{y:Str}{py spos:Pos}(hns:∀j,ns j=true->j≠i)(S:di X N own scope)(hc:X.calm=true)(hN:X.N.Nodup)(hiN:X.N[i]?=some y)(hy:X.env.scope.names.lookup y=some .local)
  (hi:PI X tg iter (tIt C ik ms)) (hg:∀D s H ex,PG (cxC X N scope D s H ex) tg (tG C t (List.range own.length))) (hf:∀D s H ex,PIf (cxC X N scope D s H ex) ifs (tTs C tc)) (he:∀D s H ex,PE (cxC X N scope D s H ex) elt (tEv C me))
  (hsw:swapsWith (.ListComp elt [⟨tg,iter,ifs,0⟩] scope pos) (some (.Name y py)) spos.line X.env=pure true) (hs:∀x,foldedSetIterable iter X.env x=pure x) :
  L2.PS X (.Assign [.Name y py] (.ListComp elt [⟨tg,iter,ifs,0⟩] scope pos) spos)
   (tEx C ns ((ms >>= fun rs=>ay rs >>= fun _=>M.ofO (itU ik rs) >>= fun xs=>bC own.length t tc me rs xs [] >>= fun us=>pure (.own,.lst us)) >>= fun r=>dz i r >>= fun _=>pure .nx)):=by
 rintro pins s σ H D I ⟨c0,rfl,rfl,ok,h⟩;have hil:i<c0.σ.length:=by rw[I.len];exact(List.getElem?_eq_some_iff.mp hiN).1
 refine wm S hc hN hiN hy hi hg hf he hsw hs pins s c0.σ c0.H D I ?_;rw[ah]at h;refine kQ ok (h.mono fun r st1 w c v e1 e2 okc n rt=>?_);subst e2;exact nL hns ok ⟨e1,okc,n,rt⟩ (by rw[e1];exact hil) w
theorem zA{is:List Nat}(hns:∀j,ns j=true->j∉is)(ha:PE X a (tEv C ma))(hg:PG X tg (tG C true is))(hs:swapsWithSole [tg] a pos.line X.env=pure false)(hw:swappedStores [tg] a X.env=pure none)(h1:(assignEach [tg] X.env).map (·.2)=[assign tg X.env]):
  L2.PS X (.Assign [tg] a pos) (tEx C ns (ma >>= fun r=>cy true is r >>= fun _=>pure .nx)):=by
 refine PS.weak (sP ha hg hs hw h1) ?_;rintro D σ H ⟨c0,rfl,rfl,ok,h⟩;refine bh ok h fun r c v t w=>?_;rw[ah]at w;refine⟨c0,c,r,t.hσ,rfl,ok,t.ok,t.nx,t.rx,w.mono fun _ st1 w1 c' e ok' n' hf hl=>?_⟩;subst e;rw[ao]at w1;exact w1 c' rfl ok' n' ⟨fun j hj=>by rw[hf j (hns j hj),t.hσ],by rw[hl,t.hσ]⟩
theorem AY{ca cb:List Stmt}(hc:PT X a (tTs C ta))(h1:PSs X ca (tEx C ns f))(h2:PSs X cb (tEx C ns g)):L2.PS X (.If a ca cb pos) (tEx C ns (ta >>= fun p=>if p=true then f else g)):=by
 refine PS.weak (Al hc h1 h2) ?_;rintro D σ H ⟨c0,rfl,rfl,ok,h⟩;refine eT ok h fun p c hσ okc n w=>?_;have e:c0.σ=c.σ:=hσ.symm;rw[e];cases p with
 |true=>rw[if_pos rfl]at w ⊢;exact pB okc n (Kept.of hσ) w
 |false=>rw[if_neg Bool.false_ne_true]at w ⊢;exact pB okc n (Kept.of hσ) w
theorem AZ(hp:PassesOwn (model X.prog X.w) X.A X.env X.xe)(hc:PT X a (tTs C ta))(hb:PSs X body (tEx C ns f)){n:Nat}:L2.PS X (.While a body [] pos) (tEx C ns (gy ta f n)):=by
 refine PS.weak (sQ hp hc hb) ?_;rintro D σ H ⟨c0,rfl,rfl,ok,h⟩;refine⟨fun m σ' H'=>∃c,c.H=H'/\c.σ=σ'/\Ok C c/\Ns c0 c/\Kept ns c0 c/\W (gy ta f m) c.st (jx C c0 ns D),⟨n,c0,rfl,rfl,ok,Ns.refl c0,Kept.refl,h⟩,?_⟩;rintro m σ' H' ⟨c,rfl,rfl,okc,nc,kc,w⟩;cases m with
 |zero=>exact(aw.mp w).elim
 |succ m =>
  rw[show gy ta f (m+1)=ta >>= fun b=>if b=true then(f >>= fun f'=>match f' with|.nx=>gy ta f m|.ct=>gy ta f m|.bk=>pure .nx|.rt k u=>pure (.rt k u)) else pure .nx from rfl]at w;refine eT okc w fun p c2 hσ ok2 n2 w2=>?_;have k2:Kept ns c c2:=Kept.of hσ;rw[<-hσ];cases p with
  |false =>
   rw[if_neg Bool.false_ne_true]at w2 ⊢;rw[ao]at w2;exact w2 c2 rfl ok2 (nc.trans n2) (kc.trans k2)
  |true =>
   rw[if_pos rfl]at w2 ⊢;refine⟨fun σ'' H''=>∃c,c.H=H''/\c.σ=σ''/\Ok C c/\Ns c0 c/\Kept ns c0 c/\W (gy ta f m) c.st (jx C c0 ns D),fun σ'' H'' z=>⟨m,Nat.lt_succ_self m,z⟩,?_⟩;rw[ah]at w2;refine⟨c2,rfl,rfl,ok2,w2.mono fun fl st3 w3 c3 e ok3 n3 k3=>?_⟩;subst e;have n03:=(nc.trans n2).trans n3;have k03:=(kc.trans k2).trans k3;cases fl with
   |nx=>exact⟨c3,rfl,rfl,ok3,n03,k03,w3⟩
   |ct=>exact⟨c3,rfl,rfl,ok3,n03,k03,w3⟩
   |bk=>rw[ao]at w3;exact w3 c3 rfl ok3 n03 k03
   |rt k u=>rw[ao]at w3;exact w3 c3 rfl ok3 n03 k03
theorem A0{t:Bool}{is:List Nat}{ik:Ik}{sb:List S}(hp:PassesOwn (model X.prog X.w) X.A X.env X.xe)(hc:X.calm=true)(hi:PI X tg iter (tIt C ik ms))(hg:PG X tg (tG C t is))(hb:PSs X body (tEx C (nsL sb) f))(hs:∀x,foldedSetIterable iter X.env x=pure x)
  (hns:∀j,ns j=true->j∉is/\nsL sb j=true) :
  L2.PS X (.For tg iter body [] pos) (tEx C ns (ms >>= fun rs=>ay rs >>= fun _=>M.ofO (itU ik rs) >>= fun xs=>if nI rs is sb=true then forM t is f rs xs else M.fail)):=by
 refine PS.weak (yz hp hc hi hg hb hs) ?_;rintro D σ H ⟨c0,rfl,rfl,ok,h⟩;rw[ah]at h;refine⟨c0,rfl,rfl,ok,?_⟩;rw[ah];refine h.mono fun rs st1 h1=>?_;rw[ah,bV]at h1 ⊢;refine⟨h1.1,?_⟩;have h2:=h1.2;rw[ah]at h2 ⊢;refine h2.mono fun xs st2 h3=>?_;rw[ao];intro c1 J e1 e2 ok1 n1 hst hw;subst e2
 dsimp only at hst hw
 split at h3
 ·rename_i hsrc;have srcK:∀j u,(Kd.bor j,u)∈rs->j∉is/\nsL sb j=true:=fun j u hm=>by
   have:=List.all_eq_true.mp hsrc _ hm;simpa using this
  refine⟨fun i m σ' H'=>∃c,c.H=H'/\c.σ=σ'/\Ok C c/\Ns c1 c/\Kept ns c0 c/\ie rs c1 c/\m=xs.length - i/\i<=xs.length/\W (forM t is f rs (xs.drop i)) c.st (jx C c0 ns D),
   ⟨xs.length,c1,rfl,e1,ok1,Ns.refl c1,Kept.of e1,fun _ _ _=>rfl,by simp,Nat.zero_le _,by simpa using h3⟩,?_⟩
  rintro i m σ' H' ⟨c,rfl,rfl,okc,nc,kc,fx,rfl,hi',w⟩;by_cases hlt:i<xs.length
  ·right
   rw[List.drop_eq_getElem_cons hlt,show forM t is f rs (xs[i]::xs.drop (i+1))=ay rs >>= fun _=>cy t is xs[i] >>= fun _=>f >>= fun f'=>match f' with|.nx=>forM t is f rs (xs.drop (i+1))|.ct=>forM t is f rs (xs.drop (i+1))|.bk=>pure .nx|.rt k u=>pure (.rt k u) from rfl,ah,bV]at w;obtain⟨hstab,w⟩:=w;obtain⟨wk,_⟩:=hw c okc nc fx hstab;obtain⟨hla,hgo,hyl⟩:=wk i xs[i] (by simp[hlt]);refine⟨hgo,fun σ' H'=>∃c,c.H=H'/\c.σ=σ'/\Ok C c/\Ns c1 c/\Kept ns c0 c/\ie rs c1 c/\W (forM t is f rs (xs.drop (i+1))) c.st (jx C c0 ns D),fun σ' H' ⟨c',z1,z2,z3,z4,z5,z6,z7⟩=>⟨xs.length - (i+1),by omega,c',z1,z2,z3,z4,z5,z6,rfl,hlt,z7⟩,fun x H' hy=>?_⟩;obtain⟨c2,rfl,e4,e5,ok2,n2,rt⟩:=hyl x H' hy;rw[ah]at w;have rt':aI C c2 c2 xs[i].1 xs[i].2 x:=by
    rcases hla with z|z
    ·rw[z]at rt ⊢;exact rt
    ·rw[z]at rt ⊢;exact rt
   refine⟨c2,c2,xs[i],e4,rfl,ok2,ok2,Nx.refl c2,rt',?_⟩;rw[e5];refine w.mono fun _ st3 w3 c3 e6 ok3 n3 hf3 hl3=>?_;subst e6;rw[ah]at w3;refine⟨c3,rfl,rfl,ok3,w3.mono fun fl st4 w4 c4 e ok4 n4 k4=>?_⟩;subst e;have n14:Ns c1 c4:=((nc.trans n2.toNs).trans n3.toNs).trans n4;have k04:Kept ns c0 c4:=by
    refine kc.trans ⟨fun j hj=>?_,by rw[k4.2,hl3,e4]⟩;obtain⟨j1,j2⟩:=hns j hj;rw[k4.1 j j2,hf3 j j1,e4]
   have f14:ie rs c1 c4:=fun j u hm=>by
    obtain⟨j1,j2⟩:=srcK j u hm;rw[k4.1 j j2,hf3 j j1,e4];exact fx j u hm
   cases fl with
   |nx=>exact⟨c4,rfl,rfl,ok4,n14,k04,f14,w4⟩
   |ct=>exact⟨c4,rfl,rfl,ok4,n14,k04,f14,w4⟩
   |bk=>rw[ao]at w4;exact w4 c4 rfl ok4 (n1.toNs.trans n14) k04
   |rt k u=>rw[ao]at w4;exact w4 c4 rfl ok4 (n1.toNs.trans n14) k04
  ·left
   have hi2:i=xs.length:=by omega
   subst hi2;rw[List.drop_length,show forM t is f rs []=ay rs >>= fun _=>pure .nx from rfl,ah,bV,ao]at w;obtain⟨_,wk⟩:=hw c okc nc fx w.1;exact⟨wk _ (Nat.le_refl _),w.2 c rfl okc (n1.toNs.trans nc) kc⟩
 ·exact(aw.mp h3).elim
end
end TM
namespace TM
open PySem L2 PyProof.Rows
section
variable{X:Cx}{C:Ct}{pins:List (Addr×Obj)}{s:Shared}{c0 c c1:Cf}
variable{a b d e o tg iter elt:Expr}{es ifs:List Expr}{m ma mb md me:M (Kd×U)}{ms:M (List (Kd×U))}{ta tb tc:M Bool}{pos p p2 apos cpos:Pos}{st:Stmt}{rest body:List Stmt}{f g mm:M Fl}{ns ns':Nat->Bool}
theorem Ok.mod(ok:Ok C c)(n:Ns c0 c){i:Nat}{k:Kd}{u u':U}{r:Addr}{H':Hp}(hk:k.root=true)(hi:c.st[i]?=some (some (k,u)))(hv:c.σ[i]?=some (some (.ref r)))(hne:∀a,a≠r->H' a=c.H a)(hr:∃o,H' r=some o)
  (new:Mv c.S c.H c.S H'->cX C c.S H' r u'):Ok C {c with H:=H',st:=c.st.set i (some (k,u'))}/\Ns c0 {c with H:=H',st:=c.st.set i (some (k,u'))}:=by
 have hR1:c.R1 r:=⟨i,k,u,hk,hi,hv⟩
 have hR:c.R r:=.inl hR1;obtain⟨q1,q2,q3,o,ho,hnt⟩:=ok.root hR;have hil:i<c.st.length:=(List.getElem?_eq_some_iff.mp hi).1;have kp:∀{a:Addr} {o':HO},a≠r->c.H a=some o'->H' a=some o':=fun ne e=>by rw[hne _ ne];exact e
 have mv:Mv c.S c.H c.S H':=⟨fun _ z=>z,fun a o' e t=>kp (fun z=>by subst z;rw[ho]at e;cases e;exact hnt t) e,fun a o' z e=>kp (fun z'=>q1 (z'▸z)) e⟩
 have mvP:Mv (PS C c.S) c.H (PS C c.S) H':=⟨fun _ z=>z,mv.tps,fun a o' z e=>kp (fun z'=>by subst z';exact z.elim q2 q1) e⟩
 have oth:∀(j:Nat) k' w,(c.st.set i (some (k,u')))[j]?=some (some (k',w))->j≠i->c.st[j]?=some (some (k',w)):=fun j k' w e ne=>by rw[List.getElem?_set_ne (Ne.symm ne)]at e;exact e
 have back:∀(j:Nat) k' w,k'.root=true->(c.st.set i (some (k,u')))[j]?=some (some (k',w))->∃w',c.st[j]?=some (some (k',w')):=fun j k' w _ e=>by
  by_cases hj:j=i
  ·subst hj;rw[List.getElem?_set_self hil]at e;cases e;exact⟨u,hi⟩
  ·exact⟨w,oth j k' w e hj⟩
 have b1:∀a,({c with H:=H',st:=c.st.set i (some (k,u'))}:Cf).R1 a->c.R1 a:=fun a hIx=>by
  obtain⟨j,k',w,h1,e1,e2⟩:=hIx;obtain⟨w',a1⟩:=back j k' w h1 e1;exact⟨j,k',w',h1,a1,e2⟩
 have dD:∀(j:Nat) (w:U),(c.st.set i (some (k,u')))[j]?=some (some (.ownD,w))->c.st[j]?=some (some (.ownD,w)):=fun j w e=>by
  by_cases hj:j=i
  ·subst hj;rw[List.getElem?_set_self hil]at e;cases e;cases hk
  ·exact oth j .ownD w e hj
 have hdd:DOk C {c with H:=H',st:=c.st.set i (some (k,u'))}:=ok.dd.of rfl (fun j w e=>⟨dD j w e,rfl⟩) (fun a z=>.inl (b1 a z)) mv fun j a z=>⟨(ok.root (.inr ⟨j,z⟩)).1,fun o' e=>kp (fun z'=>ok.dd.d1 j a z (z'▸hR1)) e⟩
 refine⟨⟨fun a o' e z=>?_,fun a z=>?_,ok.par,fun a z=>?_,by simp[ok.len],fun j k' w e=>?_,fun j1 j2 k1 k2 w1 w2 r' h1 h2 e1 e2 e3 e4=>?_,hdd⟩,n.trans ⟨fun a o' e z=>kp (fun z'=>z (z'▸hR)) e,fun a o' e=>?_,fun a z=>?_,fun _ z=>z,fun _ z=>.inl z⟩⟩
 ·have h1:=ok.same a o' e z;refine kp (fun z'=>?_) h1;subst z';rcases q3 with q3|q3
  ·rw[e]at q3;cases q3
  ·exact z q3
 ·obtain⟨h1,o',h2⟩:=ok.sfr a z;exact⟨h1,o',kp (fun z'=>q1 (z'▸z)) h2⟩
 ·obtain⟨h1,o',h2⟩:=ok.io a z;refine⟨h1,?_⟩;by_cases ha:a=r
  ·subst ha;exact hr
  ·exact⟨o',kp ha h2⟩
 ·by_cases hj:j=i
  ·subst hj;rw[List.getElem?_set_self hil]at e;cases e;obtain⟨v,e1,e2⟩:=ok.sl j _ _ hi;rw[hv]at e1;cases e1;refine⟨.ref r,hv,?_⟩;have nr:=new mv;cases k with
   |own=>obtain⟨r',er,z1,z2,z3,_⟩:=e2;cases er;exact⟨r,rfl,z1,z2,z3,nr⟩
   |io=>obtain⟨r',er,z1,z2,z3,_⟩:=e2;cases er;exact⟨r,rfl,z1,z2,z3,nr⟩
   |_=>cases hk
  ·have e0:=oth j k' w e hj;obtain⟨v,e1,e2⟩:=ok.sl j k' w e0;refine⟨v,e1,e2.mv mv mvP fun hk' r' er=>?_⟩;obtain⟨r'',er',z1,_⟩:=e2.rt hk';rw[er]at er';cases er';refine⟨z1,fun o' e=>kp (fun z=>?_) e⟩;subst z;exact hj (ok.inj j i k' k w u r' hk' hk e0 hi (by rw[e1,er]) hv)
 ·obtain⟨w1',a1⟩:=back j1 k1 w1 h1 e1;obtain⟨w2',a2⟩:=back j2 k2 w2 h2 e2;exact ok.inj j1 j2 k1 k2 w1' w2' r' h1 h2 a1 a2 e3 e4
 ·by_cases ha:a=r
  ·subst ha;exact hr
  ·exact⟨o',kp ha e⟩
 ·rcases z with z|⟨j,w,r',e1,e2,e3⟩
  ·exact .inl (.inl (b1 a z))
  ·exact .inl (.inr ⟨j,w,r',dD j w e1,e2,e3⟩)
theorem gY{i:Nat}{f:U->Option U}{st:aj}{Q:Unit->aj->Prop}(h:W (modS i f) st Q):∃k u u',k.root=true/\st[i]?=some (some (k,u))/\f u=some u'/\Q () (st.set i (some (k,u'))):=by
 obtain⟨_,st',e,q⟩:=h;unfold modS at e;split at e
 ·rename_i k u hs;split at e
  ·rename_i hk;cases e2:f u with
   |none=>rw[e2]at e;cases e
   |some u'=>rw[e2]at e;cases e;exact⟨k,u,u',hk,hs,e2,q⟩
  ·cases e
 ·cases e
theorem gZ{i:Nat}{st:aj}{Q:Kd×U->aj->Prop}(h:W (fR i) st Q):∃k u,k≠.ownD/\st[i]?=some (some (k,u))/\Q (if k.root=true then .bor i else k,u) st:=by
 obtain⟨r,st',e,q⟩:=h;unfold fR at e;split at e
 ·cases e
 ·rename_i k u hnD hs;cases e;exact⟨k,u,fun z=>hnD z,hs,q⟩
 ·cases e
theorem A1(hK:C.K=X.K){i:Nat}{x:Str}{px:Pos}(hN:X.N[i]?=some x)(hv:Vis X.env.scope x)(hd:(x==("__debug__":Str))=false)(hcd:(x==("__classdict__":Str))=false)(ha:PE X a (tEv C ma))
  (hfew:((backTo cpos (starEach [a] X.env)).all (fun x=>!x.1)&&(backToKw cpos (keywordEach [] X.env)).all (fun x=>x.1.isSome)
   && decide ([a].length+([]:List Keyword).length+(if ([]:List Keyword).isEmpty then 0 else 1)<30))=true)
  (hline:(apos.endLine==cpos.line)=true) (hst:starEach [a] X.env=[(false,eval a X.env)]) :
  L2.PS X (.Expr (.Call (.Attribute (.Name x px) "append" apos) [a] [] cpos) pos) (tEx C ns (fR i >>= fun x=>isL x.2 >>= fun _=>ma >>= fun r=>lift r >>= fun u=>modS i (uf u) >>= fun _=>pure .nx)):=by
 refine PS.weak (lA (xO PySem.F.plainAttrs_list PySem.F.slot_list_append PySem.F.type_list_append rz (lz hN hv hd hcd) (lF ha oG hst) rfl hfew hline hst rfl)) ?_;rintro D σ H ⟨c0,rfl,rfl,ok,h⟩;rw[ah]at h;obtain⟨k0,u0,hnD0,hs0,h⟩:=gZ h;obtain⟨v0,e0,sl0⟩:=ok.sl i k0 u0 hs0;refine⟨v0,e0,?_⟩;cases u0 with
 |lst xs0 =>
  rw[ah,show isL (U.lst xs0)=pure () from rfl,ao]at h;have rt0:aI C c0 c0 (if k0.root=true then .bor i else k0) (.lst xs0) v0:=by
   by_cases hk:k0.root=true
   ·rw[if_pos hk];exact⟨⟨k0,hk,hs0⟩,e0⟩
   ·rw[if_neg hk];cases k0 with
    |own=>exact absurd rfl hk
    |io=>exact absurd rfl hk
    |loc=>exact sl0
    |any=>exact sl0
    |bor j=>exact sl0.elim
    |ownD=>exact(hnD0 rfl).elim
  obtain⟨a0,vs0,ea,hrd,_⟩:=rt0.list ok;refine⟨by rw[ea];exact .inl ⟨rfl,vs0,hK▸hrd⟩,?_⟩;refine bh ok h fun r c v t w=>?_;rw[ah]at w;obtain⟨S',st',u,sS,ok1,n1,rep1,w1,_,_⟩:=iJ ok t.ok t.nx t.rx.w w;rw[ah]at w1;obtain⟨k,u1,u2,hk,hs,hf,q⟩:=gY w1;have hσ:c.σ[i]?=some (some (.ref a0)):=by rw[t.hσ,e0,ea]
  cases u1 with
  |lst ys =>
   simp only[uf]at hf;split at hf
   ·rename_i hz;cases hf;obtain⟨v',e1,e2⟩:=ok1.sl i k (.lst ys) hs;have e1':c.σ[i]?=some (some v'):=e1;rw[hσ]at e1';cases e1';obtain⟨r',er,_,_,_,ws,hw,hrep⟩:=e2.rt hk;cases er;have hw':c.H a0=some (.lst ws):=hw;refine⟨a0,ws,v,ea,rfl,hw',by rw[<-hrep.len];exact hz,?_⟩;rw[ao]at q;obtain⟨ok2,n2⟩:=Ok.mod (c:={c with S:=S',st:=st' }) (H':=upd c.H a0 (.lst (ws++[v]))) (u':=.lst (ys++[u])) ok1 n1.toNs hk hs hσ (fun a ne=>aG ne) ⟨_,aS⟩ fun mv=>⟨ws++[v],aS,(hrep.mv mv).snoc (rep1.mv mv)⟩
    have z:=q _ rfl ok2 n2 (Kept.of t.hσ);rw[<-t.hσ];exact z
   ·cases hf
  |_=>cases hf
 |_=>rw[ah]at h;exact(aw.mp h).elim
theorem A2(hK:C.K=X.K){i:Nat}{x:Str}{px:Pos}(hN:X.N[i]?=some x)(hv:Vis X.env.scope x)(hd:(x==("__debug__":Str))=false)(hcd:(x==("__classdict__":Str))=false)(ha:PE X a (tEv C ma))
  (hfew:((backTo cpos (starEach [a] X.env)).all (fun x=>!x.1)&&(backToKw cpos (keywordEach [] X.env)).all (fun x=>x.1.isSome)
   && decide ([a].length+([]:List Keyword).length+(if ([]:List Keyword).isEmpty then 0 else 1)<30))=true)
  (hline:(apos.endLine==cpos.line)=true) (hst:starEach [a] X.env=[(false,eval a X.env)]) :
  L2.PS X (.Expr (.Call (.Attribute (.Name x px) "extend" apos) [a] [] cpos) pos) (tEx C ns (fR i >>= fun x=>isL x.2 >>= fun _=>ma >>= fun r=>modS i (km r) >>= fun _=>pure .nx)):=by
 refine PS.weak (lA (xO PySem.F.plainAttrs_list PySem.F.slot_list_extend PySem.F.type_list_extend oW (lz hN hv hd hcd) (lF ha oG hst) rfl hfew hline hst rfl)) ?_;rintro D σ H ⟨c0,rfl,rfl,ok,h⟩;rw[ah]at h;obtain⟨k0,u0,hnD0,hs0,h⟩:=gZ h;obtain⟨v0,e0,sl0⟩:=ok.sl i k0 u0 hs0;refine⟨v0,e0,?_⟩;cases u0 with
 |lst xs0 =>
  rw[ah,show isL (U.lst xs0)=pure () from rfl,ao]at h;have rt0:aI C c0 c0 (if k0.root=true then .bor i else k0) (.lst xs0) v0:=by
   by_cases hk:k0.root=true
   ·rw[if_pos hk];exact⟨⟨k0,hk,hs0⟩,e0⟩
   ·rw[if_neg hk];cases k0 with
    |own=>exact absurd rfl hk
    |io=>exact absurd rfl hk
    |loc=>exact sl0
    |any=>exact sl0
    |bor j=>exact sl0.elim
    |ownD=>exact(hnD0 rfl).elim
  obtain⟨a0,vs0,ea,hrd,_⟩:=rt0.list ok;refine⟨by rw[ea];exact .inl ⟨rfl,vs0,hK▸hrd⟩,?_⟩;refine bh ok h fun r c v t w=>?_;rw[ah]at w;obtain⟨k,u1,u2,hk,hs,hf,q⟩:=gY w;have hσ:c.σ[i]?=some (some (.ref a0)):=by rw[t.hσ,e0,ea]
  obtain⟨rk,ru⟩:=r;have key:∃ys zs b vs,u1=.lst ys/\v=.ref b/\(SqL C.K c.H b vs\/SqT C.K c.H b vs)/\ai C c.S c.H zs vs/\ys.length+zs.length<=sizeLine/\u2=.lst (ys++zs):=by
   cases ru with
   |lst zs =>
    cases u1 with
    |lst ys =>
     simp only[km]at hf;split at hf
     ·rename_i hz;cases hf;obtain⟨b,vs,ev,h1,h2⟩:=t.rx.list t.ok;exact⟨_,_,b,vs,rfl,ev,.inl h1,cL hz.2 h2,hz.1,rfl⟩
     ·cases hf
    |_=>simp[km]at hf
   |tup zs =>
    cases u1 with
    |lst ys =>
     simp only[km]at hf;split at hf
     ·rename_i hz;cases hf;obtain⟨b,vs,ev,h1,h2⟩:=t.rx.tuple t.ok;exact⟨_,_,b,vs,rfl,ev,.inr h1,cL hz.2 h2,hz.1,rfl⟩
     ·cases hf
    |_=>simp[km]at hf
   |_=>simp[km]at hf
  obtain⟨ys,zs,b,vs,rfl,rfl,hB,hz,hl,rfl⟩:=key;obtain⟨v',e1,e2⟩:=t.ok.sl i k (.lst ys) hs;rw[hσ]at e1;cases e1;obtain⟨r',er,_,_,_,ws,hw,hrep⟩:=e2.rt hk;cases er;refine⟨a0,b,ws,vs,ea,rfl,hw,hK▸hB,by rw[<-hrep.len,<-hz.len];exact hl,?_⟩;rw[ao]at q;obtain⟨ok2,n2⟩:=Ok.mod (c:=c) (H':=upd c.H a0 (.lst (ws++vs))) (u':=.lst (ys++zs)) t.ok t.nx.toNs hk hs hσ (fun a ne=>aG ne) ⟨_,aS⟩ fun mv=>⟨ws++vs,aS,(hrep.mv mv).append (hz.mv mv)⟩
  have z:=q _ rfl ok2 n2 (Kept.of t.hσ);rw[<-t.hσ];exact z
 |_=>rw[ah]at h;exact(aw.mp h).elim
theorem j9.or{t t':vV}(h:j9 X t)(h':j9 X t'):j9 X (fun o i v H Q=>t o i v H Q\/t' o i v H Q):=fun pins s σ H o i v ov iv u Q I r1 r2 r3 q =>
 q.elim (h pins s σ H o i v ov iv u Q I r1 r2 r3) (h' pins s σ H o i v ov iv u Q I r1 r2 r3)
theorem set_dict(hu:X.A.units+1<cLine):j9 X (fun o i v H Q=>∃a H',o=.ref a/\tp H a i v H'/\Q H'):=by
 rintro pins s σ H o i v ov iv u Q I ro ri rv ⟨a,H',rfl,g,q⟩;cases ro;exact rE hu I g ri rv fun s' I'=>⟨H',I',q⟩
theorem uI{S:Addr->Prop}{H:Hp}{y:Str}{u:U}{v:V}{ks:List Str}{us:List U}{kvs:List (Key×V)}(h1:kvs.map (·.1)=ks.map Sum.inr)(h2:ai C S H us (kvs.map (·.2)))(hv:Rep C S H u v):
  (putK kvs (Sum.inr y) v).map (·.1)=(dput ks us y u).1.map Sum.inr/\ai C S H (dput ks us y u).2 ((putK kvs (Sum.inr y) v).map (·.2)):=by
 have hany:(kvs.any fun kv=>decide (kv.1=(Sum.inr y:Key)))=decide (y∈ks):=by
  rw[jb];exact(gW (x:=y) h1 h2).2
 unfold putK dput;rw[hany];by_cases hm:y∈ks
 ·rw[if_pos (by simpa using hm),if_pos hm];constructor
  ·rw[List.map_map];rw[<-h1];apply List.map_congr_left;intro p _;show(if p.1=Sum.inr y then(p.1,v) else p).1=p.1;split<;>rfl
  ·clear hany hm;induction kvs generalizing ks us with
   |nil =>
    have:ks=[]:=by simpa using h1.symm
    subst this;simp[ai]
   |cons p kvs ih =>
    cases ks with
    |nil=>simp at h1
    |cons k ks =>
     cases us with
     |nil=>simp[ai]at h2
     |cons u0 us =>
      rw[List.map_cons,List.map_cons,List.cons.injEq]at h1;obtain⟨v0,r0,e0,q1,q2⟩:=h2;rw[List.map_cons]at e0;cases e0;rw[List.map_cons,List.zip_cons_cons,List.map_cons,List.map_cons];refine⟨_,_,rfl,?_,ih h1.2 q2⟩;by_cases hk:k=y
      ·rw[if_pos (by exact hk),if_pos (by rw[h1.1,hk])];exact hv
      ·rw[if_neg (by exact hk),if_neg (by rw[h1.1];intro z;exact hk (Sum.inr.inj z))];exact q1
 ·rw[if_neg (by simpa using hm),if_neg hm];exact⟨by rw[List.map_append,h1,List.map_append];rfl,by rw[List.map_append];exact h2.snoc hv⟩
theorem A3{i:Nat}{x:Str}{px:Pos}(hP:C.P=X.prog)(hw:C.w=X.w)(hK:C.K=X.K)(hu:X.A.units+60<cLine)(hN:X.N[i]?=some x)(hv:Vis X.env.scope x)(hd:(x==("__debug__":Str))=false)(hcd:(x==("__classdict__":Str))=false)
  (ha:PE X a (tEv C ma)) (hb:PE X b (tEv C mb)) (hs:swapsWithSole [.Subscript (.Name x px) b p] a pos.line X.env=pure false) (hw2:swappedStores [.Subscript (.Name x px) b p] a X.env=pure none)
  (has:∀v,assign (.Subscript (.Name x px) b p) X.env v=(do
   let ov <-holding [v] (eval (.Name x px) X.env)
   let iv <-holding [v,ov] (eval b X.env)
   standAt p
   holding [v,ov,iv] (setItem ov iv v)
   release [v,ov,iv] [])) :
  L2.PS X (.Assign [.Subscript (.Name x px) b p] a pos) (tEx C ns (ma >>= fun r=>fR i >>= fun _=>mb >>= fun x=>cK [r,x] >>= fun us=>modS i (qt us) >>= fun _=>pure .nx)):=by
 refine PS.weak (sP ha (yt (lz hN hv hd hcd) hb (j9.or (j9.or set_list (set_dict (X:=X) (by omega))) (wu (X:=X) (by omega))) has) hs hw2 rfl) ?_;rintro D σ H ⟨c0,rfl,rfl,ok,h⟩;refine bh ok h fun r c v t w=>?_;rw[ah]at w;obtain⟨k0,u0,hnD0,hs0,w⟩:=gZ w;obtain⟨v0,e0,sl0⟩:=t.ok.sl i k0 u0 hs0;refine⟨v0,by rw[<-t.hσ];exact e0,?_⟩;rw[ah]at w;refine⟨c,t.hσ,rfl,t.ok,w.mono fun y st2 w2 c2 vy e3 e4 ok2 n2 r2=>?_⟩;subst e4;rw[ah]at w2;have n02:=t.nx.trans n2;have rws:b_ C c0 c2 [r,y] [v,vy]:=⟨v,[vy],rfl,t.rx.w.on t.ok n2 (e3.trans t.hσ.symm),⟨vy,[],rfl,(r2.w).from t.nx,rfl,fun _ i r' v' e _=>by simp at e⟩,fun hk i r' v' e5 e6 hk'=>by
  cases i with
  |zero=>simp at e5 e6;subst e5 e6;exact l8 t.rx.w r2.w hk hk'
  |succ i=>simp at e5⟩
 obtain⟨S',st',us,sS,ok1,n1,rep1,w1⟩:=gA ok ok2 n02 rws w2;rw[ah]at w1;obtain⟨k,u1,u2,hk,hs1,hf,q⟩:=gY w1;rw[ao]at q;have hσ:c2.σ[i]?=some (some v0):=by rw[e3,<-t.hσ];exact e0
 obtain⟨v',e1,e2⟩:=ok1.sl i k u1 hs1;have e1':c2.σ[i]?=some (some v'):=e1;rw[hσ]at e1';cases e1';obtain⟨a0,er,z1,z2,z3,root⟩:=e2.rt hk;subst er;have hσ':({c2 with S:=S',st:=st' }:Cf).σ[i]?=some (some (.ref a0)):=hσ;obtain⟨w1',ws,ew,rp1,w2',ws2,ew2,rp2,hnil⟩:∃u ws,us=[u,ws]/\Rep C S' c2.H u v/\∃(_:Unit) (_:Unit),True/\Rep C S' c2.H ws vy/\True:=by
  cases us with
  |nil=>simp[ai]at rep1
  |cons u us =>
   obtain⟨_,_,e,q1,q2⟩:=rep1;cases e;cases us with
   |nil=>simp[ai]at q2
   |cons u' us =>
    obtain⟨_,_,e,q3,q4⟩:=q2;cases e;cases us with
    |nil=>exact⟨u,u',rfl,q1,(),(),trivial,q3,trivial⟩
    |cons _ _=>obtain⟨_,_,e,_⟩:=q4;cases e
 subst ew;rw[show qt [w1',ws] u1=jt ws w1' u1 from rfl]at hf;have fin:∀{H':Hp} ,(∀a,a≠a0->H' a=c2.H a)->(∃o,H' a0=some o)->(Mv S' c2.H S' H'->cX C S' H' a0 u2)->D.nx c0.σ H':=fun {H'} hne hr new=>by
  obtain⟨ok3,n3⟩:=Ok.mod (c:={c2 with S:=S',st:=st' }) (H':=H') (u':=u2) ok1 n1.toNs hk hs1 hσ' hne hr new;have z:=q _ rfl ok3 n3 (Kept.of e3);rw[<-e3];exact z
 cases u1 with
 |lst xs =>
  cases ws with
  |int j =>
   simp only[jt,Option.map_eq_some_iff]at hf;obtain⟨j',hj,rfl⟩:=hf;obtain⟨vs,h1,h2⟩:=root;have ey:vy=.int j:=rp2;refine .inl (.inl ⟨a0,vs,j,j',rfl,ey,h1,by rw[<-h2.len];exact hj,?_⟩);exact fin (fun a ne=>aG ne) ⟨_,aS⟩ fun mv=>⟨vs.set j' v,aS,(h2.mv mv).set j' (rp1.mv mv)⟩
  |_=>simp[jt]at hf
 |dic ks vs =>
  cases ws with
  |str y' =>
   simp only[jt]at hf;split at hf
   ·rename_i hz;cases hf;obtain⟨kvs,h1,h2,h3⟩:=root;have ey:vy=.str y':=rp2;subst ey;have hl:kvs.length=ks.length:=by have:=congrArg List.length h2;simpa using this
    refine .inl (.inr ⟨a0,_,rfl,tp.k (k:=Sum.inr y') h1 (by rw[hl];exact hz),?_⟩);refine fin (fun a ne=>aG ne) ⟨_,aS⟩ fun mv=>?_;obtain⟨g1,g2⟩:=uI (y:=y') h2 h3 rp1;exact⟨_,aS,g1,g2.mv mv⟩
   ·cases hf
  |_=>simp[jt]at hf
 |rdc ks =>
  simp only[jt]at hf;split at hf
  ·rename_i r0 hr0;split at hf
   ·rename_i hh;cases hf;have er:=jw hr0;subst er;have hrow:=rp2.row;have hroot:d7 C.P C.w C.K c2.H a0 ks:=root;rw[hK]at hrow;rw[hP,hw,hK]at hroot;refine .inr ⟨a0,r0,ks,rfl,hrow,hroot,hh.1,hh.2,fun H' hR hne=>?_⟩;obtain⟨xs,hx,_⟩:=id hR;refine fin hne ⟨_,hx⟩ fun mv=>?_;show d7 C.P C.w C.K H' a0 _;rw[hP,hw,hK];exact hR
   ·cases hf
  ·cases hf
 |_=>simp[jt]at hf
end
end TM
namespace TM
open PySem L2 PyProof.Rows
section
variable{X:Cx}{C:Ct}{pins:List (Addr×Obj)}{s:Shared}{c0 c c1:Cf}
variable{a b:Expr}{ma mb:M (Kd×U)}{pos p p1 p2 pos1 pos2 posB:Pos}
theorem qG{β:Type}{k:List Str->M β}{Post:β->aj->Prop}{Q:Value->Shared->Prop}(hc:X.calm=true)(hK:C.K=X.K)(hg:Gl X "set")(hm:X.mg "set"=none)(ha:PE X a (tEv C ma))(hs:starEach [a] X.env=[(false,eval a X.env)])(I:Inv X pins c0.σ c0.H s)(ok:Ok C c0)
  (h:W (ma >>= fun x=>M.ofO (fw x.2) >>= k) c0.st Post)
  (hf:∀(S:Addr) (o:Obj) (s1:Shared) (D:List Str) (c:Cf),c.σ=c0.σ->Ok C c->Nx c0 c->s1.heap.get? S=some o->aK X.prog X.w s1.heap S (aD X.w) D->Inv X ((S,o)::pins) c.σ c.H s1->W (k D) c.st Post->(∀q∈pins,q.1≠S)->Q (.ref S) s1) :
  wpAny (model X.prog X.w) X.A (eval (.Call (.Name "set" p) [a] [] pos) X.env) Q X.xe s:=by
 refine wpAny_Call_Name_kw (dg I hg hm (show bootBuiltins "set"=some (.type "set") by decide +kernel) ?_ (by decide +kernel) (by decide +kernel));have eb:backTo pos (starEach [a] X.env)=[(false,eval a X.env)]:=by rw[hs];rfl
 have ek:backToKw pos (keywordEach [] X.env)=[]:=rfl;rw[eb,ek];refine qD (one ha I ok h fun x c vx v s2 t I2 rv w=>?_);rw[ah]at w;obtain⟨D,e,w⟩:=cJ.mp w;obtain⟨l,ys,rfl,h1,h2,rfl⟩:=gX hK t.ok t.rx e;cases rv;exact oV hc I2 h1 h2 fun S o s1 hsz hg' hS I3=>hf S o s1 _ c t.hσ t.ok t.nx hg' hS I3 w fun q hq z=>by
  have:=Heap.lt_size (I2.pin q (List.mem_append_right _ hq)).1;rw[z]at this;exact absurd (Nat.lt_of_lt_of_le this hsz) (Nat.lt_irrefl _)
theorem xn{ln:Bool}(hc:X.calm=true)(hK:C.K=X.K)(hgo:Gl X (if ln=true then "len" else "sorted"))(hmo:X.mg (if ln=true then "len" else "sorted")=none)(hg:Gl X "set")(hm:X.mg "set"=none)(ha:PE X a (tEv C ma))(hb:PE X b (tEv C mb))(hsa:starEach [a] X.env=[(false,eval a X.env)])(hsb:starEach [b] X.env=[(false,eval b X.env)]):
  PE X (.Call (.Name (if ln=true then "len" else "sorted") p) [.BinOp (.Call (.Name "set" p1) [a] [] pos1) .Sub (.Call (.Name "set" p2) [b] [] pos2) posB] [] pos)
   (tEv C (ma >>= fun x=>M.ofO (fw x.2) >>= fun d1=>mb >>= fun y=>M.ofO (fw y.2) >>= fun d2=>M.ofO (wQ ln d1 d2))):=by
 rintro pins s σ H Q I ⟨c0,rfl,rfl,ok,h⟩;have inner:wpAny (model X.prog X.w) X.A (eval (.BinOp (.Call (.Name "set" p1) [a] [] pos1) .Sub (.Call (.Name "set" p2) [b] [] pos2) posB) X.env) (fun v s1=>wpAny (model X.prog X.w) X.A (call (.builtin (if ln=true then "len" else "sorted")) [v]) (EP X pins c0.σ Q) X.xe s1) X.xe s:=by
  refine wpAny_BinOp (qG hc hK hg hm ha hsa I ok h fun S1 o1 s1 D1 c1 hσ1 ok1 nx1 hg1 hS1 I1 w1 hp1=>?_);refine qG hc hK hg hm hb hsb I1 ok1 w1 fun S2 o2 s2 D2 c2 hσ2 ok2 nx2 hg2 hS2 I2 w2 hp2=>?_;obtain⟨r,er,want⟩:=cJ.mp w2;have hpin:=(I2.pin (S1,o1) (List.mem_append_right _ (by simp))).1;have hS1':aK X.prog X.w s2.heap S1 (aD X.w) D1:=hS1.at fun o e=>by rw[hg1]at e;cases e;exact hpin
  have hne:S1≠S2:=hp2 (S1,o1) (by simp);have nx:Nx c0 c2:=nx1.trans nx2;have hσ:c2.σ=c0.σ:=hσ2.trans hσ1;have I3:Inv X pins c2.σ c2.H s2:=I2.cY fun q hq=>I2.pin q (List.mem_append_right _ (by simp[hq]));unfold wQ at er;split at er
  rotate_left
  ·cases er
  rename_i hlen;refine L2.wA hne hS1' hS2 hlen.1 hlen.2 fun h' hk hR=>?_;have I4:Inv X pins c2.σ c2.H {s2 with heap:=h' }:=I3.kept (t':=s2.toks) hk;rw[<-hσ];cases ln with
  |true =>
   cases er;exact jl I4 hR (bT.flat (c:=c2) want hσ ok2 nx rfl)
  |false =>
   cases er;exact fF hc I4 hR (Nat.lt_of_le_of_lt (List.length_filter_le _ _) hlen.1) fun l hl=>bT.list (c:=c2) want hσ ok2 nx (ai.strs.mpr rfl) l hl
 have eb:backTo pos (starEach [.BinOp (.Call (.Name "set" p1) [a] [] pos1) .Sub (.Call (.Name "set" p2) [b] [] pos2) posB] X.env)=[(false,eval (.BinOp (.Call (.Name "set" p1) [a] [] pos1) .Sub (.Call (.Name "set" p2) [b] [] pos2) posB) X.env)]:=rfl;have ek:backToKw pos (keywordEach [] X.env)=[]:=rfl;cases ln with
 |true =>
  refine wpAny_Call_Name_kw (dg I hgo hmo (show bootBuiltins "len"=some (.builtin "len") by decide +kernel) ?_ (by decide +kernel) (by decide +kernel));rw[eb,ek];exact ph inner
 |false =>
  refine wpAny_Call_Name_kw (dg I hgo hmo (show bootBuiltins "sorted"=some (.builtin "sorted") by decide +kernel) ?_ (by decide +kernel) (by decide +kernel));rw[eb,ek];exact ph inner
end
end TM
namespace TM
open PySem L2 PyProof.Rows
structure Ck where
 fns:List Str
 gl:List (Str×U)
noncomputable def g0:U->U->Bool
 |.int i,.int j=>decide (i=j)
 |.str x,.str y=>decide (x=y)
 |.bl a,.bl b=>a==b
 |.non,.non=>true
 |_,_=>false
theorem b7{u v:U}(h:g0 u v=true):u=v:=by
 cases u<;>cases v<;>simp[g0]at h<;>subst_vars<;>rfl
noncomputable def noStar:Expr->Bool
 |.Starred _ _=>false
 |_=>true
noncomputable def iK:Expr->Bool
 |.Slice _ _ _ _=>false
 |_=>true
noncomputable def pC:Expr->Bool
 |.Set _ _ _=>false
 |_=>true
noncomputable def mj:Expr->Bool
 |.Call (.Name _ _) [] [] _=>false
 |_=>true
noncomputable def cZ:Expr->Bool
 |.ListComp _ _ _ _=>false
 |.SetComp _ _ _ _=>false
 |.DictComp _ _ _ _ _=>false
 |_=>true
noncomputable def zB:Expr->Bool
 |.Tuple _ _ _=>false
 |_=>true
noncomputable def glB(sc:Scope)(x:Str):Bool:=decide (sc.names.lookup x=some .globalImplicit)
noncomputable def sf(sc:Scope)(x:Str):Bool:=decide (sc.names.lookup x=some .local)||decide (sc.names.lookup x=some .cell)||decide (sc.names.lookup x=some .free)
noncomputable def nM(sc:Scope)(x:Str):Bool:=decide (sc.names.lookup x=some .local)||decide (sc.names.lookup x=some .cell)
noncomputable def A4(sc:Scope)(x:Str):Bool:=decide (sc.names.lookup x=some .local)
noncomputable def dk(x:Str):Bool:=!(x==("__debug__":Str))&&!(x==("__classdict__":Str))
noncomputable def qH(N:List Str)(sc:Scope)(fa:Bool)(i:Nat):Expr->Bool
 |.Name x _=>decide (N[i]?=some x)&&nM sc x&&(fa||A4 sc x)
 |_=>false
noncomputable def mq(N:List Str)(sc:Scope)(fa:Bool):List Nat->List Expr->Bool
 |[],[]=>true
 |i::is,e::es=>qH N sc fa i e&&mq N sc fa is es
 |_,_=>false
noncomputable def fG:Expr->List Str
 |.Name x _=>[x]
 |.Tuple es _ _=>es.filterMap fun|.Name x _=>some x|_=>none
 |_=>[]
noncomputable def hide(own N:List Str):List Str:=match own.filter fun x=>decide (x∈N) with
 |[]=>N
 |[x]=>N.set (N.idxOf x) "."
 |x::y::_=>(N.set (N.idxOf x) ".").set (N.idxOf y) ".."
noncomputable def tgB(t:Bool)(N:List Str)(sc:Scope)(fa:Bool)(is:List Nat):Expr->Bool
 |.Name x p=>!t&&(match is with|[i]=>qH N sc fa i (.Name x p)|_=>false)
 |.Tuple es _ _=>t&&mq N sc fa is es&&is.all fun i=>decide (i<N.length)
 |_=>false
noncomputable def isTup:Expr->Bool
 |.Tuple _ _ _=>true
 |_=>false
noncomputable def jy(e:Expr):Option (Str×List Expr):=match e with
 |.Call f as kw _=>match f with
  |.Name x _=>if kw.isEmpty=true then some (x,as) else none
  |_=>none
 |_=>none
theorem eU{e:Expr}{x:Str}{as:List Expr}(h:jy e=some (x,as)):∃p q,e=.Call (.Name x p) as [] q:=by
 unfold jy at h;split at h
 ·split at h
  ·split at h
   ·rename_i hk;rw[List.isEmpty_iff]at hk;cases h;subst hk;exact⟨_,_,rfl⟩
   ·cases h
  ·cases h
 ·cases h
noncomputable def eV(sc:Scope)(tg:Expr)(ik:Ik)(e:Expr):Option (List Expr):=match ik with
 |.seq=>some [e]
 |.rng1=>(jy e).bind fun p=>if p.1="range"/\glB sc p.1=true/\p.2.length=1 then some p.2 else none
 |.enm=>(jy e).bind fun p=>if p.1="enumerate"/\glB sc p.1=true/\p.2.length=1/\isTup tg=true then some p.2 else none
 |.zip=>(jy e).bind fun p=>if p.1="zip"/\glB sc p.1=true/\p.2.length=2/\isTup tg=true then some p.2 else none
 |_=>none
noncomputable def simple:Bf->Bool:=fun _=>true
noncomputable def zC(scope sc:Scope):Scope:={scope with names:=scope.names.map fun(n,k)=>if (k==NameKind.free&&sc.kind==.function&&sc.names.lookup n==some .cell)=true then(n,.cell) else(n,k)}
noncomputable def cD(e:Expr)(k:Str->Bool):Bool:=match e with|.Name x _=>k x|_=>false
theorem aN{e:Expr}{k:Str->Bool}(h:cD e k=true):∃x p,e=.Name x p/\k x=true:=by
 unfold cD at h;split at h
 ·exact⟨_,_,rfl,h⟩
 ·cases h
noncomputable def eX{α:Type}(l:List α)(k:α->Bool):Bool:=match l with|[a]=>k a|_=>false
theorem bA{α:Type}{l:List α}{k:α->Bool}(h:eX l k=true):∃a,l=[a]/\k a=true:=by
 unfold eX at h;split at h
 ·exact⟨_,rfl,h⟩
 ·cases h
noncomputable def cT(e:Expr)(k:Expr->List Expr->Pos->Bool):Bool:=match e with|.Call f as kw p=>kw.isEmpty&&k f as p|_=>false
theorem aT{e:Expr}{k:Expr->List Expr->Pos->Bool}(h:cT e k=true):∃f as p,e=.Call f as [] p/\k f as p=true:=by
 unfold cT at h;split at h
 ·rename_i f as kw p;rw[Bool.and_eq_true,List.isEmpty_iff]at h;obtain⟨rfl,h⟩:=h;exact⟨_,_,_,rfl,h⟩
 ·cases h
noncomputable def pD(e:Expr)(k:Expr->Str->Pos->Bool):Bool:=match e with|.Attribute o m p=>k o m p|_=>false
theorem nN{e:Expr}{k:Expr->Str->Pos->Bool}(h:pD e k=true):∃o m p,e=.Attribute o m p/\k o m p=true:=by
 unfold pD at h;split at h
 ·exact⟨_,_,_,rfl,h⟩
 ·cases h
noncomputable def uJ(e:Expr)(k:Expr->Operator->Expr->Bool):Bool:=match e with|.BinOp a op b _=>k a op b|_=>false
theorem pE{e:Expr}{k:Expr->Operator->Expr->Bool}(h:uJ e k=true):∃a op b p,e=.BinOp a op b p/\k a op b=true:=by
 unfold uJ at h;split at h
 ·exact⟨_,_,_,_,rfl,h⟩
 ·cases h
noncomputable def uK(e:Expr)(k:Expr->CmpOp->Expr->Bool):Bool:=match e with|.Compare a ops bs _=>eX ops fun op=>eX bs fun b=>k a op b|_=>false
theorem jz{e:Expr}{k:Expr->CmpOp->Expr->Bool}(h:uK e k=true):∃a op b p,e=.Compare a [op] [b] p/\k a op b=true:=by
 unfold uK at h;split at h
 ·obtain⟨op,rfl,z1⟩:=bA h;obtain⟨b,rfl,z2⟩:=bA z1;exact⟨_,_,_,_,rfl,z2⟩
 ·cases h
noncomputable def mr(e:Expr)(k:Expr->Str->Pos->List Expr->Pos->Bool):Bool:=cT e fun f as cpos=>pD f fun o m apos=>k o m apos as cpos
theorem c6{e:Expr}{k:Expr->Str->Pos->List Expr->Pos->Bool}(h:mr e k=true):∃o m apos as cpos,e=.Call (.Attribute o m apos) as [] cpos/\k o m apos as cpos=true:=by
 obtain⟨f,as,p,rfl,h⟩:=aT h;obtain⟨o,m,q,rfl,h⟩:=nN h;exact⟨_,_,_,_,_,rfl,h⟩
noncomputable def uL(e:Expr)(k:Expr->Expr->Bool):Bool:=match e with|.Subscript a b _=>k a b|_=>false
theorem pF{e:Expr}{k:Expr->Expr->Bool}(h:uL e k=true):∃a b p,e=.Subscript a b p/\k a b=true:=by
 unfold uL at h;split at h
 ·exact⟨_,_,_,rfl,h⟩
 ·cases h
mutual
noncomputable def aL(k:Ck):E->List Str->Scope->Expr->Bool
 |.var i,N,sc,e'=>match e' with
  |.Name x _=>decide (N[i]?=some x)&&sf sc x&&dk x
  |_=>false
 |.cst u,N,sc,e'=>match e' with
  |.Constant (.int j) _ _=>g0 u (.int j)
  |.Constant (.str y) _ _=>g0 u (.str y)
  |.Constant (.bool y) _ _=>g0 u (.bl y)
  |.Constant .none _ _=>g0 u .non
  |_=>false
 |.glb _ _,_,_,_=>false
 |.bin op a b,N,sc,e'=>match e' with
  |.BinOp a' op' b' _=>decide (op.op=op')&&aL k a N sc a'&&aL k b N sc b'
  |_=>false
 |.cmp op a b,N,sc,e'=>uK e' fun a' op' b'=>decide (op.op=op')&&!behindInMarks op' b'&&aL k a N sc a'&&aL k b N sc b'
 |.cmp2 _ _ _ _ _,_,_,_=>false
 |.and es,N,sc,e'=>match e' with
  |.BoolOp .And es' _=>aJ k es N sc es'
  |_=>false
 |.or es,N,sc,e'=>match e' with
  |.BoolOp .Or es' _=>aJ k es N sc es'
  |_=>false
 |.not a,N,sc,e'=>match e' with
  |.UnaryOp .Not a' _=>aL k a N sc a'
  |_=>false
 |.ite _ _ _,_,_,_=>false
 |.neg _,_,_,_=>false
 |.bad,_,_,_=>true
 |.sit _,_,_,_=>false
 |.inD _ _ _,_,_,_=>false
 |.get2 _ _ _,_,_,_=>false
 |.pub _,_,_,_=>false
 |.sdf ln a b,N,sc,e'=>cT e' fun f' as _=>cD f' fun f=>eX as fun d=>uJ d fun l op r=>cT l fun l' al _=>cD l' fun g1=>eX al fun a'=>cT r fun r' ar _=>cD r' fun g2=>eX ar fun b' =>
  decide (f=(if ln=true then("len":Str) else "sorted"))&&decide (g1="set")&&decide (g2="set")&&decide (op=.Sub)&&glB sc f&&glB sc "set"&&noStar a'&&noStar b'&&aL k a N sc a'&&aL k b N sc b'
 |.fst es,N,sc,e'=>false
 |.isi a T,N,sc,e'=>false
 |.tup es,N,sc,e'=>match e' with
  |.Tuple es' _ _=>aJ k es N sc es'
  |_=>false
 |.lst es,N,sc,e'=>match e' with
  |.List es' _=>aJ k es N sc es'
  |_=>false
 |.dnew _,N,sc,e'=>match e' with
  |.Dict [] [] _=>true
  |_=>false
 |.idx a b,N,sc,e'=>match e' with
  |.Subscript a' b' _=>iK b'&&aL k a N sc a'&&aL k b N sc b'
  |_=>false
 |.slc a lo hi,N,sc,e'=>match e' with
  |.Subscript a' (.Slice lo' hi' none _) _=>aL k a N sc a'&&pG k lo N sc lo'&&pG k hi N sc hi'
  |_=>false
 |.bi f es,N,sc,e'=>cT e' fun f' es' _=>cD f' fun x=>decide (x=f.name)&&simple f&&glB sc x&&!es'.isEmpty&&aJ k es N sc es'
 |.bi2 f es,N,sc,e'=>cT e' fun f' as _=>cD f' fun x=>eX as fun c=>cT c fun g' es' _=>cD g' fun y=>decide (x=f.l9)&&decide (y=f.gC)&&glB sc x&&glB sc y&&!es'.isEmpty&&aJ k es N sc es'
 |.mth m a es,N,sc,e'=>mr e' fun o name apos es' cpos=>decide (name=m.name)&&mj o&&(apos.endLine==cpos.line)&&!es'.isEmpty&&decide (es'.length<20)&&aL k a N sc o&&aJ k es N sc es'
 |.call f es,N,sc,e'=>cT e' fun f' es' _=>cD f' fun x=>decide (x=f)&&decide (f∈k.fns)&&glB sc x&&dk x&&!es'.isEmpty&&aJ k es N sc es'
 |.frz a,N,sc,e'=>aL k a N sc e'
 |.calA f es,N,sc,e'=>cT e' fun f' es' _=>cD f' fun x=>decide (x=f)&&decide (f∈k.fns)&&glB sc x&&dk x&&!es'.isEmpty&&aJ k es N sc es'
 |.comp n t ik src cond e,N,sc,e'=>match e' with
  |.ListComp elt [⟨tg,iter,ifs,0⟩] scope _ =>
   decide ((fG tg).length=n)&&yO (fG tg++hide (fG tg) N) (fG tg) scope sc.names&&tgB t (fG tg++hide (fG tg) N) (zC scope sc) false (List.range n) tg&&pC iter &&
   (match eV sc tg ik iter with
    |some as=>aJ k src N sc as
    |none=>false) &&
   decide (ifs.length<=1)&&aJ k cond (fG tg++hide (fG tg) N) (zC scope sc) ifs&&aL k e (fG tg++hide (fG tg) N) (zC scope sc) elt
  |_=>false
noncomputable def aJ(k:Ck):List E->List Str->Scope->List Expr->Bool
 |[],_,_,es'=>es'.isEmpty
 |e::es,N,sc,es'=>match es' with
  |e'::es'=>noStar e'&&aL k e N sc e'&&aJ k es N sc es'
  |[]=>false
noncomputable def pG(k:Ck):List E->List Str->Scope->Option Expr->Bool
 |[],_,_,o=>o.isNone
 |[e],N,sc,o=>match o with
  |some e'=>aL k e N sc e'
  |none=>false
 |_::_::_,_,_,_=>false
end
noncomputable def bU:List Str:=["len","sorted","repr","max","min","all","any","list","tuple","str","int","range","enumerate","zip","reversed","set","dict","sum","isinstance","bool"]
structure zD(P:Program)(w:World)(K:PySem.W.Frag)(mg:Str->Option Value)(base:Heap)(d:Nat)(F:List U->Option (Ex (Kd×U)))(f:Str):Prop where
 ex:∃(np:Nat) (fa:Addr) (fd:FuncData) (ps:List Str),lG P w K mg base CX0 d fa fd ps (spT P w K F np)/\mg f=some (.ref fa)/\PySem.W.keepIn K (.ref fa)=true/\Binds K fd ps []/\∀us k u,F us=some (.ok (k,u))->(k=.own\/k=.loc\/k=.any)/\us.length=np
structure Gd(ck:Ck)(Γ:Tab)(C:Ct)(d:Nat)(X:Cx):Prop where
 P:C.P=X.prog
 w:C.w=X.w
 K:C.K=X.K
 u:X.A.units+60<cLine
 calm:X.calm=true
 room:ft d X.A
 blt:∀x∈bU,X.mg x=none
 fns:∀f∈ck.fns,zD X.prog X.w X.K X.mg X.base d (Γ f) f
 gls:∀p∈ck.gl,∃val v,X.mg p.1=some val/\RelV v val/\∀S H,Rep C S H p.2 v
theorem Gd.cx{ck:Ck}{Γ:Tab}{C:Ct}{d:Nat}{X:Cx}(g:Gd ck Γ C d X)(N:List Str)(sc:Scope)(D:Addr)(s:Shared)(H:Hp)(ex:List Addr):Gd ck Γ C d (cxC X N sc D s H ex) :=
 ⟨g.P,g.w,g.K,g.u,g.calm,g.room,g.blt,g.fns,g.gls⟩
theorem jA{sc:Scope}{x:Str}(h:sf sc x=true):Vis sc x:=by
 unfold sf at h;simp only[Bool.or_eq_true,decide_eq_true_eq]at h;rcases h with(h|h)|h
 ·exact .inl h
 ·exact .inr (.inl h)
 ·exact .inr (.inr h)
theorem cE{x:Str}(h:dk x=true):(x==("__debug__":Str))=false/\(x==("__classdict__":Str))=false:=by
 unfold dk at h;simpa using h
theorem bE{e:Expr}{es:List Expr}{env:Env}(h:noStar e=true):starEach (e::es) env=(false,eval e env)::starEach es env:=by
 cases e<;>first|rfl|cases h
theorem nO{e:Expr}(h:iK e=true):lJ e:=by
 intro o i;cases e<;>first|rfl|cases h
theorem pH{e:Expr}{env:Env}(h:pC e=true):∀x,foldedSetIterable e env x=pure x:=by
 intro x;cases e<;>first|rfl|cases h
theorem iL{o:Expr}{name:Str}{env:Env}{wh:Sem Value}(h:mj o=true):attributeBase o name env wh=wh:=by
 cases o with
 |Call f as ks p =>
  cases f with
  |Name x q=>cases as with
   |nil=>cases ks with
    |nil=>cases h
    |cons _ _=>rfl
   |cons _ _=>rfl
  |_=>rfl
 |_=>rfl
theorem bR{es:List Expr}{env:Env}{pos:Pos}(h:∀e∈es,noStar e=true):(backTo pos (starEach es env)).any (·.1)=false/\(backTo pos (starEach es env)).all (fun x=>!x.1)=true:=by
 induction es with
 |nil=>exact⟨rfl,rfl⟩
 |cons e es ih =>
  rw[bE (h e (by simp))];have:=ih fun e' he=>h e' (by simp[he]);constructor
  ·show(false||(backTo pos (starEach es env)).any (·.1))=false;rw[this.1];rfl
  ·show(!false&&(backTo pos (starEach es env)).all (fun x=>!x.1))=true;rw[this.2];rfl
theorem cF{k:Ck}{es:List E}{N:List Str}{sc:Scope}{es':List Expr}(h:aJ k es N sc es'=true):∀e∈es',noStar e=true:=by
 induction es generalizing es' with
 |nil =>
  cases es' with
  |nil=>intro e he;cases he
  |cons _ _=>simp[aJ]at h
 |cons x es ih =>
  cases es' with
  |nil=>intro e he;cases he
  |cons e' es' =>
   simp only[aJ,Bool.and_eq_true]at h;intro e he;rcases List.mem_cons.mp he with rfl|he
   ·exact h.1.1
   ·exact ih h.2 e he
theorem kR{X:Cx}{i:Nat}{e:Expr}{fa:Bool}(hfa:fa=true->∀x,X.fn x=true)(h:qH X.N X.env.scope fa i e=true):pz X e i:=by
 cases e with
 |Name x p =>
  simp only[qH,Bool.and_eq_true,decide_eq_true_eq,nM,Bool.or_eq_true,A4]at h;refine⟨x,p,rfl,h.1.1,?_,?_⟩
  ·rcases h.1.2 with z|z
   ·exact .inl z
   ·exact .inr z
  ·rcases h.2 with z|z
   ·exact .inl (hfa z x)
   ·exact .inr z
 |_=>cases h
theorem jB{X:Cx}{fa:Bool}(hfa:fa=true->∀x,X.fn x=true):∀{is:List Nat}{es:List Expr},mq X.N X.env.scope fa is es=true->dQ X es is
 |[],[],_=>.nil
 |[],_::_,h=>by cases h
 |_::_,[],h=>by cases h
 |i::is,e::es,h=>by
  simp only[mq,Bool.and_eq_true]at h;exact .cons (kR hfa h.1) (jB hfa h.2)
theorem qI{X:Cx}{C:Ct}{t fa:Bool}{is:List Nat}{tg:Expr}(hc:X.calm=true)(hK:C.K=X.K)(hN:X.N.Nodup)(hfa:fa=true->∀x,X.fn x=true)(h:tgB t X.N X.env.scope fa is tg=true):PG X tg (tG C t is):=by
 cases tg with
 |Name x p =>
  simp only[tgB,Bool.and_eq_true,Bool.not_eq_true']at h;obtain⟨rfl,h⟩:=h;cases is with
  |nil=>cases h
  |cons i is=>cases is with
   |nil=>exact zv hN (kR hfa h)
   |cons _ _=>cases h
 |Tuple es k p =>
  simp only[tgB,Bool.and_eq_true,List.all_eq_true,decide_eq_true_eq]at h;obtain⟨⟨rfl,h1⟩,h2⟩:=h;exact AN hc hK hN (jB hfa h1) h2
 |_=>cases h
theorem kS(own N:List Str):dh ((own++hide own N).drop own.length) N:=by
 rw[List.drop_left' rfl];unfold hide;split
 ·exact .refl N
 ·exact(dh.refl N).set _ (.inl rfl)
 ·exact((dh.refl N).set _ (.inl rfl)).set _ (.inr rfl)
noncomputable def Bf.isB:Bf->Bool
 |.len=>true|.sorted=>true|.repr=>true|.max=>true|.min=>true|.all=>true|.any=>true|_=>false
noncomputable def Bf.id:Bf->String
 |.len=>"len"|.sorted=>"sorted"|.repr=>"repr"|.max=>"max"|.min=>"min"|.all=>"all"|.any=>"any"
 |.list=>"list"|.tuple=>"tuple"|.str=>"str"|.int=>"int"
theorem xo:∀f:Bf,simple f=true->bootBuiltins f.name=some f.val/\f.name∈bU/\f.name≠"__name__"/\(f.name==("__debug__":Str))=false:=by
 intro f h;cases f<;>first|exact⟨by decide +kernel,by decide +kernel,by decide +kernel,by decide +kernel⟩|(cases h;done)
theorem zE:∀f:Bf,simple f=true->(f.val=.builtin f.id\/f.val=.type f.id):=by
 intro f h;cases f<;>first|exact .inl rfl|exact .inr rfl|(cases h;done)
theorem zF:∀f:B2,f.l9∈bU/\f.gC∈bU:=by
 intro f;cases f<;>exact⟨by decide +kernel,by decide +kernel⟩
theorem xp:∀f:Mf,Slot "str" f.name f.id/\typeOf (.builtin f.id)=pure (.type "method_descriptor"):=by
 intro f;cases f with
 |split=>exact⟨PySem.F.slot_str_split,PySem.F.type_str_split⟩
 |join=>exact⟨PySem.F.slot_str_join,PySem.F.type_str_join⟩
 |partition=>exact⟨PySem.F.slot_str_partition,PySem.F.type_str_partition⟩
 |endswith=>exact⟨PySem.F.slot_str_endswith,PySem.F.type_str_endswith⟩
end TM
namespace TM
open PySem L2 PyProof.Rows
section
variable{ck:Ck}{Γ:Tab}{C:Ct}{d:Nat}
theorem eY{X:Cx}{x:Str}(h:glB X.env.scope x=true):Gl X x:=by
 unfold glB at h;show X.env.kindOf x=some .globalImplicit;exact of_decide_eq_true h
theorem xq:("enumerate":Str)∈bU:=by decide +kernel
theorem xr:("range":Str)∈bU:=by decide +kernel
theorem xY{X:Cx}{ik:Ik}{iter tg:Expr}{as:List Expr}{src:List E}(g:Gd ck Γ C d X)(h:eV X.env.scope tg ik iter=some as)(hL:PA X as (tEs C (bB Γ src)))(h1:∀a,as=[a]->∃e,src=[e]/\PE X a (tEv C (ev Γ e)))(hst:∀e∈as,noStar e=true):PI X tg iter (tIt C ik (bB Γ src)):=by
 unfold eV at h;split at h
 ·cases h;obtain⟨e,rfl,he⟩:=h1 _ rfl;exact zr g.K he
 ·rw[Option.bind_eq_some_iff]at h;obtain⟨⟨x,bs⟩,hc,h⟩:=h;split at h
  ·rename_i hh;cases h;obtain⟨e1,hg,hl⟩:=hh
   dsimp only at e1 hg hl
   subst e1;obtain⟨p,q,rfl⟩:=eU hc;obtain⟨b,rfl⟩:=List.length_eq_one_iff.mp hl;exact xk (eY hg) (g.blt _ xr) (bE (hst _ (by simp))) hL
  ·cases h
 ·rw[Option.bind_eq_some_iff]at h;obtain⟨⟨x,bs⟩,hc,h⟩:=h;split at h
  ·rename_i hh;cases h;obtain⟨e1,hg,hl,ht⟩:=hh
   dsimp only at e1 hg hl
   subst e1;obtain⟨p,q,rfl⟩:=eU hc;obtain⟨b,rfl⟩:=List.length_eq_one_iff.mp hl;cases tg with
   |Tuple es kx ps=>exact zt g.K (eY hg) (g.blt _ xq) (bE (hst _ (by simp))) hL
   |_=>cases ht
  ·cases h
 ·rw[Option.bind_eq_some_iff]at h;obtain⟨⟨x,bs⟩,hc,h⟩:=h;split at h
  ·rename_i hh;cases h;obtain⟨e1,hg,hl,ht⟩:=hh
   dsimp only at e1 hg hl
   subst e1;obtain⟨p,q,rfl⟩:=eU hc;obtain⟨b,b',rfl⟩:∃b b',bs=[b,b']:=by match bs,hl with|[b,b'],_=>exact⟨b,b',rfl⟩
   have s1:=bE (env:=X.env) (es:=[]) (hst _ (show _∈[_,_] from List.mem_cons_of_mem _ List.mem_cons_self));cases tg with
   |Tuple es kx ps=>exact zu g.K (eY hg) (g.blt _ (by decide +kernel)) (bE (hst _ List.mem_cons_self)) (by rw[s1];rfl) hL
   |_=>cases ht
  ·cases h
 ·cases h
theorem PT.eqv{X:Cx}{e:Expr}{m m':M Bool}(h:PT X e (tTs C m))(i:∀st Q,W m' st Q->W m st Q):PT X e (tTs C m'):=PT.weak h fun σ H Q ⟨c0,e1,e2,ok,w⟩=>⟨c0,e1,e2,ok,i _ _ w⟩
theorem A5{X:Cx}{f:Bf}{es:List E}{x:Str}{p pos:Pos}{es':List Expr}(g:Gd ck Γ C d X)(hL:PA X es' (tEs C (bB Γ es)))
  (h:(decide (x=f.name)&&simple f&&glB X.env.scope x&&!es'.isEmpty&&aJ ck es X.N X.env.scope es')=true):PE X (.Call (.Name x p) es' [] pos) (tEv C (ev Γ (.bi f es))):=by
 simp only[Bool.and_eq_true,decide_eq_true_eq,Bool.not_eq_true']at h;obtain⟨⟨⟨⟨rfl,h1⟩,h2⟩,h3⟩,h4⟩:=h;obtain⟨b1,b2,b3,b4⟩:=xo f h1;have hS:=cF h4;cases es' with
 |nil=>cases h3
 |cons e0 es0 =>
  have st:=bE (env:=X.env) (es:=es0) (hS e0 (by simp));have sn:=(bR (pos:=pos) (env:=X.env) (es:=es0) fun e he=>hS e (by simp[he])).1;rcases zE f h1 with hv|hv
  ·exact xf g.calm g.K g.room.gd g.u hv (eY h2) (g.blt _ b2) (by rw[b1,hv]) b3 b4 hL st sn
  ·exact xg g.calm g.K g.room.gd g.u hv (eY h2) (g.blt _ b2) (by rw[b1,hv]) b3 b4 hL st sn
theorem xZ{X:Cx}{f:B2}{es:List E}{x y:Str}{p p2 pos pos2:Pos}{es':List Expr}(g:Gd ck Γ C d X)(hL:PA X es' (tEs C (bB Γ es)))
  (h:(decide (x=f.l9)&&decide (y=f.gC)&&glB X.env.scope x&&glB X.env.scope y&&!es'.isEmpty&&aJ ck es X.N X.env.scope es')=true):PE X (.Call (.Name x p) [.Call (.Name y p2) es' [] pos2] [] pos) (tEv C (ev Γ (.bi2 f es))):=by
 simp only[Bool.and_eq_true,decide_eq_true_eq,Bool.not_eq_true']at h;obtain⟨⟨⟨⟨⟨rfl,rfl⟩,h1⟩,h2⟩,h3⟩,h4⟩:=h;obtain⟨b1,b2⟩:=zF f;have hS:=cF h4;cases es' with
 |nil=>cases h3
 |cons e0 es0 =>
  have st:=bE (env:=X.env) (es:=es0) (hS e0 (by simp));have sn:=(bR (pos:=pos2) (env:=X.env) (es:=es0) fun e he=>hS e (by simp[he])).1;exact xj g.calm g.K (eY h1) (g.blt _ b1) (eY h2) (g.blt _ b2) hL st sn
theorem x4{X:Cx}{m:Mf}{a:E}{es:List E}{o:Expr}{name:Str}{apos cpos:Pos}{es':List Expr}(g:Gd ck Γ C d X)(ha:PE X o (tEv C (ev Γ a)))(hL:PA X es' (tEs C (bB Γ es)))
  (h:(decide (name=m.name)&&mj o&&(apos.endLine==cpos.line)&&!es'.isEmpty&&decide (es'.length<20)&&aL ck a X.N X.env.scope o&&aJ ck es X.N X.env.scope es')=true):PE X (.Call (.Attribute o name apos) es' [] cpos) (tEv C (ev Γ (.mth m a es))):=by
 simp only[Bool.and_eq_true,decide_eq_true_eq,Bool.not_eq_true']at h;obtain⟨⟨⟨⟨⟨⟨rfl,h1⟩,h2⟩,h3⟩,h4⟩,h5⟩,h6⟩:=h;have hS:=cF h6;obtain⟨s1,s2⟩:=xp m;cases es' with
 |nil=>cases h3
 |cons e0 es0 =>
  have st:=bE (env:=X.env) (es:=es0) (hS e0 (by simp));have sn:=(bR (pos:=cpos) (env:=X.env) (es:=es0) fun e he=>hS e (by simp[he])).1;have sa:=(bR (pos:=cpos) (env:=X.env) (es:=e0::es0) hS).2;refine xi g.K s1 s2 ha hL (iL h1) ?_ h2 st sn;rw[sa];have:(e0::es0).length+([]:List Keyword).length+(if ([]:List Keyword).isEmpty=true then 0 else 1)<30:=by simp at h4 ⊢;omega
  simp only[decide_eq_true this];rfl
theorem uM{X:Cx}{f x:Str}{es:List E}{p pos:Pos}{es':List Expr}(g:Gd ck Γ C d X)(hL:PA X es' (tEs C (bB Γ es)))
  (h:(decide (x=f)&&decide (f∈ck.fns)&&glB X.env.scope x&&dk x&&!es'.isEmpty&&aJ ck es X.N X.env.scope es')=true):PE X (.Call (.Name x p) es' [] pos) (tEv C (ev Γ (.call f es))):=by
 simp only[Bool.and_eq_true,decide_eq_true_eq,Bool.not_eq_true']at h;obtain⟨⟨⟨⟨⟨rfl,h1⟩,h2⟩,h3⟩,h4⟩,h5⟩:=h;have hS:=cF h5;obtain⟨np,fa,fd,ps,q1,q2,q3,q4,q5⟩:=(g.fns _ h1).ex;cases es' with
 |nil=>cases h4
 |cons e0 es0 =>
  have st:=bE (env:=X.env) (es:=es0) (hS e0 (by simp));have sn:=(bR (pos:=pos) (env:=X.env) (es:=es0) fun e he=>hS e (by simp[he])).1;exact uz g.P g.w g.K rfl q5 q1 g.room (eY h2) q2 q3 q4 (cE h3).1 hL st sn
theorem zG{X:Cx}{f x:Str}{es:List E}{p pos:Pos}{es':List Expr}(g:Gd ck Γ C d X)(hL:PA X es' (tEs C (bB Γ es)))
  (h:(decide (x=f)&&decide (f∈ck.fns)&&glB X.env.scope x&&dk x&&!es'.isEmpty&&aJ ck es X.N X.env.scope es')=true):PE X (.Call (.Name x p) es' [] pos) (tEv C (ev Γ (.calA f es))):=by
 simp only[Bool.and_eq_true,decide_eq_true_eq,Bool.not_eq_true']at h;obtain⟨⟨⟨⟨⟨rfl,h1⟩,h2⟩,h3⟩,h4⟩,h5⟩:=h;have hS:=cF h5;obtain⟨np,fa,fd,ps,q1,q2,q3,q4,q5⟩:=(g.fns _ h1).ex;cases es' with
 |nil=>cases h4
 |cons e0 es0 =>
  have st:=bE (env:=X.env) (es:=es0) (hS e0 (by simp));have sn:=(bR (pos:=pos) (env:=X.env) (es:=es0) fun e he=>hS e (by simp[he])).1;exact uA g.P g.w g.K rfl q5 q1 g.room (eY h2) q2 q3 q4 (cE h3).1 hL st sn
theorem cc{k:Ck}{es:List E}{N:List Str}{sc:Scope}{es':List Expr}{b:Bool}(h:(b&&aJ k es N sc es')=true):aJ k es N sc es'=true:=(Bool.and_eq_true_iff.mp h).2
mutual
theorem bN:∀(e:E) (X:Cx) (e':Expr),Gd ck Γ C d X->aL ck e X.N X.env.scope e'=true->PE X e' (tEv C (ev Γ e))
 |.var i,X,e',g,h=>by
  simp only[aL]at h;split at h
  ·simp only[Bool.and_eq_true,decide_eq_true_eq]at h;obtain⟨h3,h4⟩:=cE h.2;exact qz h.1.1 (jA h.1.2) h3 h4
  ·cases h
 |.cst u,X,e',g,h=>by
  simp only[aL]at h;split at h
  ·have:=b7 h;subst this;exact gB sH fun _ _=>rfl
  ·have:=b7 h;subst this;exact gB sJ fun _ _=>rfl
  ·have:=b7 h;subst this;exact gB xK fun _ _=>rfl
  ·have:=b7 h;subst this;exact gB sI fun _ _=>rfl
  ·cases h
 |.glb x u,X,e',g,h=>absurd h (by simp[aL])
 |.bin op a b,X,e',g,h=>by
  simp only[aL]at h;split at h
  ·simp only[Bool.and_eq_true,decide_eq_true_eq]at h;obtain⟨⟨rfl,h1⟩,h2⟩:=h;exact wU g.K (bN a X _ g h1) (bN b X _ g h2)
  ·cases h
 |.cmp op a b,X,e',g,h=>by
  simp only[aL]at h;obtain⟨a',op',b',p0,rfl,z1⟩:=jz h;have h:=z1;simp only[Bool.and_eq_true,decide_eq_true_eq,Bool.not_eq_true']at h;obtain⟨⟨⟨rfl,h0⟩,h1⟩,h2⟩:=h;exact wV g.P g.w g.K g.u (bN a X _ g h1) (bN b X _ g h2) h0
 |.cmp2 o1 o2 a b c,X,e',g,h=>absurd h (by simp[aL])
 |.and es,X,e',g,h=>by
  simp only[aL]at h;split at h
  ·exact uN es X _ g h
  ·cases h
 |.or es,X,e',g,h=>by
  simp only[aL]at h;split at h
  ·exact x5 es X _ g h
  ·cases h
 |.not a,X,e',g,h=>by
  simp only[aL]at h;split at h
  ·exact wX (bN a X _ g h)
  ·cases h
 |.neg a,X,e',g,h=>absurd h (by simp[aL])
 |.bad,X,e',g,h=>fun pins s σ H Q I ⟨_,_,_,_,w⟩=>(aw.mp w).elim
 |.sit i,X,e',g,h=>fun pins s σ H Q I ⟨_,_,_,_,w⟩=>(aw.mp w).elim
 |.inD neg a i,X,e',g,h=>fun pins s σ H Q I ⟨_,_,_,_,w⟩=>(aw.mp w).elim
 |.pub i,X,e',g,h=>fun pins s σ H Q I ⟨_,_,_,_,w⟩=>(aw.mp w).elim
 |.get2 i a b,X,e',g,h=>fun pins s σ H Q I ⟨_,_,_,_,w⟩=>(aw.mp w).elim
 |.sdf ln a b,X,e',g,h=>by
  simp only[aL]at h;obtain⟨_,_,_,rfl,z0⟩:=aT h;obtain⟨_,_,rfl,z1⟩:=aN z0;obtain⟨_,rfl,z2⟩:=bA z1;obtain⟨_,_,_,_,rfl,z3⟩:=pE z2;obtain⟨_,_,_,rfl,z4⟩:=aT z3;obtain⟨_,_,rfl,z5⟩:=aN z4;obtain⟨_,rfl,z6⟩:=bA z5;obtain⟨_,_,_,rfl,z7⟩:=aT z6;obtain⟨_,_,rfl,z8⟩:=aN z7;obtain⟨_,rfl,z9⟩:=bA z8;simp only[Bool.and_eq_true,decide_eq_true_eq]at z9;obtain⟨⟨⟨⟨⟨⟨⟨⟨⟨rfl,rfl⟩,rfl⟩,rfl⟩,h1⟩,h2⟩,h3⟩,h4⟩,h5⟩,h6⟩:=z9;exact xn (ln:=ln) g.calm g.K (eY h1) (g.blt _ (by cases ln<;>decide +kernel)) (eY h2) (g.blt _ (by decide +kernel)) (bN a X _ g h5) (bN b X _ g h6) (bE h3) (bE h4)
 |.fst es,X,e',g,h=>fun pins s σ H Q I ⟨_,_,_,_,w⟩=>(aw.mp w).elim
 |.isi a T,X,e',g,h=>fun pins s σ H Q I ⟨_,_,_,_,w⟩=>(aw.mp w).elim
 |.ite c a b,X,e',g,h=>absurd h (by simp[aL])
 |.tup es,X,e',g,h=>by
  simp only[aL]at h;split at h
  ·exact w_ (gD es X _ g h)
  ·cases h
 |.lst es,X,e',g,h=>by
  simp only[aL]at h;split at h
  ·exact xa (gD es X _ g h)
  ·cases h
 |.dnew r,X,e',g,h=>by
  simp only[aL]at h;split at h
  ·exact uw g.P g.w r
  ·cases h
 |.idx a b,X,e',g,h=>by
  simp only[aL]at h;split at h
  ·simp only[Bool.and_eq_true]at h;exact qA g.K g.u (nO h.1.1) (bN a X _ g h.1.2) (bN b X _ g h.2)
  ·cases h
 |.slc a lo hi,X,e',g,h=>by
  simp only[aL]at h;split at h
  ·simp only[Bool.and_eq_true]at h;exact xc g.K (bN a X _ g h.1.1) (A6 lo X _ g h.1.2) (A6 hi X _ g h.2)
  ·cases h
 |.bi f es,X,e',g,h=>by
  simp only[aL]at h;obtain⟨f',as,p0,rfl,z1⟩:=aT h;obtain⟨x,p1,rfl,z2⟩:=aN z1;have h:=z2;exact A5 g (gD es X _ g (cc h)) h
 |.bi2 f es,X,e',g,h=>by
  simp only[aL]at h;obtain⟨f',as,p0,rfl,z1⟩:=aT h;obtain⟨x,p1,rfl,z2⟩:=aN z1;obtain⟨c,rfl,z3⟩:=bA z2;obtain⟨g',as',p2,rfl,z4⟩:=aT z3;obtain⟨y,p3,rfl,z5⟩:=aN z4;have h:=z5;exact xZ g (gD es X _ g (cc h)) h
 |.mth m a es,X,e',g,h=>by
  simp only[aL]at h;obtain⟨o,name,apos,as,cpos,rfl,z1⟩:=c6 h;have h:=z1;have h':=h;simp only[Bool.and_eq_true]at h';exact x4 g (bN a X _ g h'.1.2) (gD es X _ g (cc h)) h
 |.call f es,X,e',g,h=>by
  simp only[aL]at h;obtain⟨f',as,p0,rfl,z1⟩:=aT h;obtain⟨x,p1,rfl,z2⟩:=aN z1;have h:=z2;exact uM g (gD es X _ g (cc h)) h
 |.calA f es,X,e',g,h=>by
  simp only[aL]at h;obtain⟨f',as,p0,rfl,z1⟩:=aT h;obtain⟨x,p1,rfl,z2⟩:=aN z1;have h:=z2;exact zG g (gD es X _ g (cc h)) h
 |.frz a,X,e',g,h=>by
  simp only[aL]at h;exact xh (bN a X _ g h)
 |.comp n t ik src cond e,X,e',g,h=>by
  simp only[aL]at h;split at h
  ·rename_i elt tg iter ifs scope _;simp only[Bool.and_eq_true,decide_eq_true_eq]at h;obtain⟨⟨⟨⟨⟨⟨⟨h1,h2⟩,h3⟩,h4⟩,h5⟩,h6⟩,h7⟩,h8⟩:=h;subst h1;have S:=tK (X:=X) rfl (kS _ _) h2;split at h5
   ·rename_i as has;have hst:=cF h5;have hI:PI X tg iter (tIt C ik (bB Γ src)):=xY g has (gD src X _ g h5) (fun a e=>by
     subst e;cases src with
     |nil=>simp[aJ]at h5
     |cons e1 es1 =>
      cases es1 with
      |nil =>
       simp only[aJ,Bool.and_eq_true]at h5;exact⟨e1,rfl,bN e1 X _ g h5.1.2⟩
      |cons _ _=>simp[aJ]at h5) hst
    exact uH S g.calm hI (fun D s H ex=>qI (fa:=false) g.calm g.K S.nd (fun z=>nomatch z) h3)
     (fun D s H ex=>by
      cases ifs with
      |nil =>
       cases cond with
       |nil=>exact fun pins s σ H Q I ⟨c0,e1,e2,ok,w⟩=>qe pins s σ H Q I (by subst e1 e2;rw[show aM Γ []=pure true from rfl,ao]at w;exact w c0 rfl rfl ok (Nx.refl c0))
       |cons _ _=>simp[aJ]at h7
      |cons c1 cs =>
       cases cs with
       |nil =>
        cases cond with
        |nil=>simp[aJ]at h7
        |cons e1 es1 =>
         cases es1 with
         |nil =>
          simp only[aJ,Bool.and_eq_true]at h7;exact qf (mw e1 (cxC X _ scope D s H ex) c1 (g.cx _ _ _ _ _ _) h7.1.2)
         |cons _ _=>simp[aJ]at h7
       |cons _ _=>simp at h6)
     (fun D s H ex=>bN e (cxC X _ scope D s H ex) elt (g.cx _ _ _ _ _ _) h8) (pH h4)
   ·cases h5
  ·cases h
theorem gD:∀(es:List E) (X:Cx) (es':List Expr),Gd ck Γ C d X->aJ ck es X.N X.env.scope es'=true->PA X es' (tEs C (bB Γ es))
 |[],X,es',g,h=>by
  cases es' with
  |nil=>exact w9
  |cons _ _=>simp[aJ]at h
 |e::es,X,es',g,h=>by
  cases es' with
  |nil=>simp[aJ]at h
  |cons e' es' =>
   simp only[aJ,Bool.and_eq_true]at h;exact ur (bN e X e' g h.1.2) (gD es X es' g h.2) (bE h.1.1)
theorem A6:∀(es:List E) (X:Cx) (o:Option Expr),Gd ck Γ C d X->pG ck es X.N X.env.scope o=true->PO X o (tO C (evO Γ es))
 |[],X,o,g,h=>by
  cases o with
  |none=>exact r6
  |some _=>simp[pG]at h
 |[e],X,o,g,h=>by
  cases o with
  |none=>simp[pG]at h
  |some e'=>simp only[pG]at h;exact r9 (bN e X e' g h)
 |_::_::_,X,o,g,h=>by simp[pG]at h
theorem uN:∀(es:List E) (X:Cx) (es':List Expr),Gd ck Γ C d X->aJ ck es X.N X.env.scope es'=true->∀{pos},PE X (.BoolOp .And es' pos) (tEv C (gx Γ es))
 |[],X,es',g,h,pos=>fun pins s σ H Q I ⟨_,_,_,_,w⟩=>(aw.mp w).elim
 |[e],X,es',g,h,pos=>by
  cases es' with
  |nil=>simp[aJ]at h
  |cons e' es' =>
   cases es' with
   |nil=>simp only[aJ,Bool.and_eq_true]at h;exact sL (bN e X e' g h.1.2)
   |cons _ _=>simp[aJ]at h
 |e::e1::es,X,es',g,h,pos=>by
  cases es' with
  |nil=>simp[aJ]at h
  |cons e' es' =>
   have h':noStar e'=true/\aL ck e X.N X.env.scope e'=true/\aJ ck (e1::es) X.N X.env.scope es'=true:=by
    rw[aJ]at h;simp only[Bool.and_eq_true]at h;exact⟨h.1.1,h.1.2,h.2⟩
   cases es' with
   |nil=>have:=h'.2.2;simp[aJ]at this
   |cons e2 es2=>exact snd_and (bN e X e' g h'.2.1) (uN (e1::es) X _ g h'.2.2)
theorem x5:∀(es:List E) (X:Cx) (es':List Expr),Gd ck Γ C d X->aJ ck es X.N X.env.scope es'=true->∀{pos},PE X (.BoolOp .Or es' pos) (tEv C (zc Γ es))
 |[],X,es',g,h,pos=>fun pins s σ H Q I ⟨_,_,_,_,w⟩=>(aw.mp w).elim
 |[e],X,es',g,h,pos=>by
  cases es' with
  |nil=>simp[aJ]at h
  |cons e' es' =>
   cases es' with
   |nil=>simp only[aJ,Bool.and_eq_true]at h;exact sL (bN e X e' g h.1.2)
   |cons _ _=>simp[aJ]at h
 |e::e1::es,X,es',g,h,pos=>by
  cases es' with
  |nil=>simp[aJ]at h
  |cons e' es' =>
   have h':noStar e'=true/\aL ck e X.N X.env.scope e'=true/\aJ ck (e1::es) X.N X.env.scope es'=true:=by
    rw[aJ]at h;simp only[Bool.and_eq_true]at h;exact⟨h.1.1,h.1.2,h.2⟩
   cases es' with
   |nil=>have:=h'.2.2;simp[aJ]at this
   |cons e2 es2=>exact zh (bN e X e' g h'.2.1) (x5 (e1::es) X _ g h'.2.2)
theorem mw:∀(e:E) (X:Cx) (e':Expr),Gd ck Γ C d X->aL ck e X.N X.env.scope e'=true->PT X e' (tTs C (tst Γ e))
 |.and es,X,e',g,h=>by
  simp only[aL]at h;split at h
  ·exact(qJ es X _ g h).pt
  ·cases h
 |.or es,X,e',g,h=>by
  simp only[aL]at h;split at h
  ·exact(uO es X _ g h).pt
  ·cases h
 |.not a,X,e',g,h=>by
  simp only[aL]at h;split at h
  ·exact wY (mw a X _ g h)
  ·cases h
 |.cmp op a b,X,e',g,h=>by
  simp only[aL]at h;obtain⟨a',op',b',p0,rfl,z1⟩:=jz h;have h:=z1;simp only[Bool.and_eq_true,decide_eq_true_eq,Bool.not_eq_true']at h;obtain⟨⟨⟨rfl,h0⟩,h1⟩,h2⟩:=h;exact wW g.P g.w g.K g.u (bN a X _ g h1) (bN b X _ g h2) h0
 |.cmp2 o1 o2 a b c,X,e',g,h=>absurd h (by simp[aL])
 |.var i,X,e',g,h=>by
  have hE:PE X e' (tEv C (ev Γ (.var i))):=by
   have h':=h;simp only[aL]at h';split at h'
   ·simp only[Bool.and_eq_true,decide_eq_true_eq]at h';obtain⟨h3,h4⟩:=cE h'.2;exact qz h'.1.1 (jA h'.1.2) h3 h4
   ·cases h'
  simp only[aL]at h;split at h
  ·exact dP hE g.K fun _=>rfl
  ·cases h
 |.idx a b,X,e',g,h=>by
  simp only[aL]at h;split at h
  ·simp only[Bool.and_eq_true]at h;have hE:=qA (pos:=by assumption) g.K g.u (nO h.1.1) (bN a X _ g h.1.2) (bN b X _ g h.2);refine PT.eqv (dP hE g.K fun _=>rfl) fun st Q w=>?_;simp only[tst,ah]at w ⊢;exact w
  ·cases h
 |.bi f es,X,e',g,h=>by
  simp only[aL]at h;obtain⟨f',as,p0,rfl,z1⟩:=aT h;obtain⟨x,p1,rfl,z2⟩:=aN z1;have h:=z2;refine PT.eqv (dP (A5 g (gD es X _ g (cc h)) h) g.K fun _=>rfl) fun st Q w=>?_;simp only[tst,ev,ah]at w ⊢;exact w
 |.bi2 f es,X,e',g,h=>by
  simp only[aL]at h;obtain⟨f',as,p0,rfl,z1⟩:=aT h;obtain⟨x,p1,rfl,z2⟩:=aN z1;obtain⟨c,rfl,z3⟩:=bA z2;obtain⟨g',as',p2,rfl,z4⟩:=aT z3;obtain⟨y,p3,rfl,z5⟩:=aN z4;have h:=z5;refine PT.eqv (dP (xZ g (gD es X _ g (cc h)) h) g.K fun _=>rfl) fun st Q w=>?_;simp only[tst,ev,ah]at w ⊢;exact w
 |.mth m a es,X,e',g,h=>by
  simp only[aL]at h;obtain⟨o,name,apos,as,cpos,rfl,z1⟩:=c6 h;have h:=z1;have h':=h;simp only[Bool.and_eq_true]at h';refine PT.eqv (dP (x4 g (bN a X _ g h'.1.2) (gD es X _ g (cc h)) h) g.K fun _=>rfl) fun st Q w=>?_;simp only[tst,ev,ah]at w ⊢;exact w
 |.call f es,X,e',g,h=>by
  simp only[aL]at h;obtain⟨f',as,p0,rfl,z1⟩:=aT h;obtain⟨x,p1,rfl,z2⟩:=aN z1;have h:=z2;refine PT.eqv (dP (uM g (gD es X _ g (cc h)) h) g.K fun _=>rfl) fun st Q w=>?_;simp only[tst,ev,ah]at w ⊢;exact w
 |.cst u,X,e',g,h=>by
  have go:∀{v:V},PE X e' (tC v)->(∀S H,Rep C S H u v)->(∀whole,isTrue e' X.env whole=(do let v <-whole;standAt e'.pos;holding [v] (truthy v)))->PT X e' (tTs C (tst Γ (.cst u))):=fun {v} h1 h2 h3=>by
   refine PT.eqv (dP (gB h1 h2) g.K h3) fun st Q w=>?_;rw[ah,ao];exact w
  simp only[aL]at h;split at h
  ·have:=b7 h;subst this;exact go sH (fun _ _=>rfl) fun _=>rfl
  ·have:=b7 h;subst this;exact go sJ (fun _ _=>rfl) fun _=>rfl
  ·have:=b7 h;subst this;exact go xK (fun _ _=>rfl) fun _=>rfl
  ·have:=b7 h;subst this;exact go sI (fun _ _=>rfl) fun _=>rfl
  ·cases h
 |.fst es,X,e',g,h=>fun pins s σ H Q I ⟨_,_,_,_,w⟩=>(aw.mp w).elim
 |.glb x u,X,e',g,h=>fun pins s σ H Q I ⟨_,_,_,_,w⟩=>(aw.mp w).elim
 |.neg a,X,e',g,h=>fun pins s σ H Q I ⟨_,_,_,_,w⟩=>(aw.mp w).elim
 |.isi a T,X,e',g,h=>fun pins s σ H Q I ⟨_,_,_,_,w⟩=>(aw.mp w).elim
 |.bad,X,e',g,h=>fun pins s σ H Q I ⟨_,_,_,_,w⟩=>(aw.mp w).elim
 |.inD neg a i,X,e',g,h=>fun pins s σ H Q I ⟨_,_,_,_,w⟩=>(aw.mp w).elim
 |.pub i,X,e',g,h=>fun pins s σ H Q I ⟨_,_,_,_,w⟩=>(aw.mp w).elim
 |.sdf ln a b,X,e',g,h=>fun pins s σ H Q I ⟨_,_,_,_,w⟩=>(aw.mp w).elim
 |.sit i,X,e',g,h=>fun pins s σ H Q I ⟨_,_,_,_,w⟩=>(aw.mp w).elim
 |.frz a,X,e',g,h=>fun pins s σ H Q I ⟨_,_,_,_,w⟩=>(aw.mp w).elim
 |.calA f es,X,e',g,h=>fun pins s σ H Q I ⟨_,_,_,_,w⟩=>(aw.mp w).elim
 |.get2 i a b,X,e',g,h=>fun pins s σ H Q I ⟨_,_,_,_,w⟩=>(aw.mp w).elim
 |.bin op a b,X,e',g,h=>fun pins s σ H Q I ⟨_,_,_,_,w⟩=>(aw.mp w).elim
 |.ite c a b,X,e',g,h=>fun pins s σ H Q I ⟨_,_,_,_,w⟩=>(aw.mp w).elim
 |.tup es,X,e',g,h=>fun pins s σ H Q I ⟨_,_,_,_,w⟩=>(aw.mp w).elim
 |.lst es,X,e',g,h=>fun pins s σ H Q I ⟨_,_,_,_,w⟩=>(aw.mp w).elim
 |.dnew r,X,e',g,h=>fun pins s σ H Q I ⟨_,_,_,_,w⟩=>(aw.mp w).elim
 |.slc a lo hi,X,e',g,h=>fun pins s σ H Q I ⟨_,_,_,_,w⟩=>(aw.mp w).elim
 |.comp n t ik src cond e,X,e',g,h=>fun pins s σ H Q I ⟨_,_,_,_,w⟩=>(aw.mp w).elim
theorem qJ:∀(es:List E) (X:Cx) (es':List Expr),Gd ck Γ C d X->aJ ck es X.N X.env.scope es'=true->∀{pos},PW X (.BoolOp .And es' pos) (tTs C (aM Γ es))
 |[],X,es',g,h,pos=>by
  cases es' with
  |nil =>
   rintro wh pins s σ H Q I ⟨c0,rfl,rfl,ok,w⟩;rw[show aM Γ []=pure true from rfl,ao]at w;exact isTrue_and_nil ⟨c0.H,I,w c0 rfl rfl ok (Nx.refl c0)⟩
  |cons _ _=>simp[aJ]at h
 |[e],X,es',g,h,pos=>by
  cases es' with
  |nil=>simp[aJ]at h
  |cons e' es' =>
   cases es' with
   |nil=>simp only[aJ,Bool.and_eq_true]at h;exact vR (mw e X e' g h.1.2)
   |cons _ _=>simp[aJ]at h
 |e::e1::es,X,es',g,h,pos=>by
  cases es' with
  |nil=>simp[aJ]at h
  |cons e' es' =>
   have h':noStar e'=true/\aL ck e X.N X.env.scope e'=true/\aJ ck (e1::es) X.N X.env.scope es'=true:=by
    rw[aJ]at h;simp only[Bool.and_eq_true]at h;exact⟨h.1.1,h.1.2,h.2⟩
   cases es' with
   |nil=>have:=h'.2.2;simp[aJ]at this
   |cons e2 es2=>exact wZ (mw e X e' g h'.2.1) (qJ (e1::es) X _ g h'.2.2)
theorem uO:∀(es:List E) (X:Cx) (es':List Expr),Gd ck Γ C d X->aJ ck es X.N X.env.scope es'=true->∀{pos},PW X (.BoolOp .Or es' pos) (tTs C (eQ Γ es))
 |[],X,es',g,h,pos=>by
  cases es' with
  |nil =>
   rintro wh pins s σ H Q I ⟨c0,rfl,rfl,ok,w⟩;rw[show eQ Γ []=pure false from rfl,ao]at w;exact isTrue_or_nil ⟨c0.H,I,w c0 rfl rfl ok (Nx.refl c0)⟩
  |cons _ _=>simp[aJ]at h
 |[e],X,es',g,h,pos=>by
  cases es' with
  |nil=>simp[aJ]at h
  |cons e' es' =>
   cases es' with
   |nil=>simp only[aJ,Bool.and_eq_true]at h;exact yk (mw e X e' g h.1.2)
   |cons _ _=>simp[aJ]at h
 |e::e1::es,X,es',g,h,pos=>by
  cases es' with
  |nil=>simp[aJ]at h
  |cons e' es' =>
   have h':noStar e'=true/\aL ck e X.N X.env.scope e'=true/\aJ ck (e1::es) X.N X.env.scope es'=true:=by
    rw[aJ]at h;simp only[Bool.and_eq_true]at h;exact⟨h.1.1,h.1.2,h.2⟩
   cases es' with
   |nil=>have:=h'.2.2;simp[aJ]at this
   |cons e2 es2=>exact zi (mw e X e' g h'.2.1) (uO (e1::es) X _ g h'.2.2)
end
end
end TM
namespace TM
open PySem L2 PyProof.Rows
noncomputable def swB(sc:Scope)(x:Str)(line:Nat):Expr->Bool
 |.ListComp elt gens s pos=>decide (sc.names.lookup x=some .local)&&(line==pos.line)&&!(s.names.any fun(n,k)=>n==x&&(k==.local||k==.cell))
 |_=>false
noncomputable def qK(s:Stmt)(k:Expr->Bool):Bool:=match s with|.Expr e _=>k e|_=>false
theorem jC{s:Stmt}{k:Expr->Bool}(h:qK s k=true):∃e p,s=.Expr e p/\k e=true:=by
 unfold qK at h;split at h
 ·exact⟨_,_,rfl,h⟩
 ·cases h
noncomputable def uP(s:Stmt)(k:Expr->Expr->Bool):Bool:=match s with|.Assign ts v _=>eX ts fun t=>k t v|_=>false
theorem pI{s:Stmt}{k:Expr->Expr->Bool}(h:uP s k=true):∃t v p,s=.Assign [t] v p/\k t v=true:=by
 unfold uP at h;split at h
 ·obtain⟨t,rfl,z1⟩:=bA h;exact⟨_,_,_,rfl,h⟩
 ·cases h
mutual
noncomputable def fz(k:Ck):S->List Str->Scope->Stmt->Bool
 |.set i e,N,sc,s=>match s with
  |.Assign [.Name x p] v _=>decide (N[i]?=some x)&&nM sc x&&decide (sc.kind=.function)&&aL k e N sc v&&(cZ v||swB sc x p.line v||(match v with|.ListComp _ _ _ _=>true|_=>false))&&(match e with|.comp _ _ _ _ _ _=>true|_=>cZ v)
  |_=>false
 |.setT is e,N,sc,s=>match s with
  |.Assign [.Tuple es kk p] v _=>tgB true N sc true is (.Tuple es kk p)&&cZ v&&zB v&&aL k e N sc v
  |_=>false
 |.put i a b,N,sc,s=>uP s fun t b'=>uL t fun o a'=>cD o fun x=>decide (N[i]?=some x)&&sf sc x&&dk x&&cZ b'&&iK a'&&aL k a N sc a'&&aL k b N sc b'
 |.app i e,N,sc,s=>qK s fun c=>mr c fun o m apos as cpos=>cD o fun x=>eX as fun a=>decide (m="append")&&decide (N[i]?=some x)&&sf sc x&&dk x&&(apos.endLine==cpos.line)&&noStar a&&aL k e N sc a
 |.ext i e,N,sc,s=>qK s fun c=>mr c fun o m apos as cpos=>cD o fun x=>eX as fun a=>decide (m="extend")&&decide (N[i]?=some x)&&sf sc x&&dk x&&(apos.endLine==cpos.line)&&noStar a&&aL k e N sc a
 |.bad,_,_,_=>true
 |.newD _,_,_,_=>false
 |.aug _ _ _ _,_,_,_=>false
 |.rvs _,_,_,_=>false
 |.putD _ _ _,_,_,_=>false
 |.appD _ _ _,_,_,_=>false
 |.exp e,N,sc,s=>match s with
  |.Expr e' _=>cZ e'&&aL k e N sc e'
  |_=>false
 |.ret e,N,sc,s=>match s with
  |.Return (some e') _=>aL k e N sc e'
  |_=>false
 |.retN,N,sc,s=>match s with
  |.Return none _=>true
  |_=>false
 |.ite c a b,N,sc,s=>match s with
  |.If c' a' b' _=>aL k c N sc c'&&c7 k a N sc a'&&c7 k b N sc b'
  |_=>false
 |.for_ t is ik src body,N,sc,s=>match s with
  |.For tg iter body' [] _=>tgB t N sc true is tg&&pC iter&&(match eV sc tg ik iter with
    |some as=>aJ k src N sc as
    |none=>false)&&c7 k body N sc body'
  |_=>false
 |.whl c body,N,sc,s=>match s with
  |.While c' body' [] _=>aL k c N sc c'&&c7 k body N sc body'
  |_=>false
 |.brk,_,_,s=>match s with
  |.Break _=>true
  |_=>false
 |.cnt,_,_,s=>match s with
  |.Continue _=>true
  |_=>false
 |.pas,_,_,s=>match s with
  |.Pass _=>true
  |_=>false
noncomputable def c7(k:Ck):List S->List Str->Scope->List Stmt->Bool
 |[],_,_,ss'=>ss'.isEmpty
 |s::ss,N,sc,ss'=>match ss' with
  |s'::ss'=>fz k s N sc s'&&c7 k ss N sc ss'
  |[]=>false
end
section
variable{ck:Ck}{Γ:Tab}{C:Ct}{d:Nat}{X:Cx}
theorem uQ{sc:Scope}{x:Str}(h:nM sc x=true):Loc sc x:=by
 unfold nM at h;simp only[Bool.or_eq_true,decide_eq_true_eq]at h;exact h
theorem jD{v:Expr}{t:Option Expr}{line:Nat}{env:Env}(h:cZ v=true):swapsWith v t line env=pure false:=by
 cases v<;>first|rfl|cases h
theorem qL{v t:Expr}{line:Nat}{env:Env}(h:cZ v=true):swapsWithSole [t] v line env=pure false:=by
 rw[swapsWithSole];exact jD h
theorem xt{o i:Expr}{p:Pos}{env:Env}(h:iK i=true):∀v,assign (.Subscript o i p) env v=(do
   let ov <-holding [v] (eval o env)
   let iv <-holding [v,ov] (eval i env)
   standAt p
   holding [v,ov,iv] (setItem ov iv v)
   release [v,ov,iv] []):=by
 intro v;cases i<;>first|rfl|cases h
structure Gs(ck:Ck)(Γ:Tab)(C:Ct)(d:Nat)(X:Cx):Prop where
 gd:Gd ck Γ C d X
 nd:X.N.Nodup
 fn:∀x,X.fn x=true
 po:PassesOwn (model X.prog X.w) X.A X.env X.xe
 kd:X.env.scope.kind=.function
theorem qM{ik:Ik}{iter tg:Expr}{src:List E}(g:Gd ck Γ C d X)(h:(match eV X.env.scope tg ik iter with|some as=>aJ ck src X.N X.env.scope as|none=>false)=true):PI X tg iter (tIt C ik (bB Γ src)):=by
 split at h
 ·rename_i as has;exact xY g has (gD src X _ g h) (fun a e=>by
   subst e;cases src with
   |nil=>simp[aJ]at h
   |cons e1 es1 =>
    cases es1 with
    |nil =>
     simp only[aJ,Bool.and_eq_true]at h;exact⟨e1,rfl,bN e1 X _ g h.1.2⟩
    |cons _ _=>simp[aJ]at h) (cF h)
 ·cases h
theorem jE{elt:Expr}{gens:List Comprehension}{s:Scope}{pos p spos:Pos}{x:Str}(hk:X.env.scope.kind=.function):swapsWith (.ListComp elt gens s pos) (some (.Name x p)) spos.line X.env=pure (swB X.env.scope x p.line (.ListComp elt gens s pos)):=by
 have hb:X.env.blockKind=.function:=by
  unfold Env.blockKind;rw[hk];rfl
 show(pure (X.env.blockKind==.function&&X.env.kindOf x==some .local&&p.line==pos.line&&!(s.names.any fun(n,k)=>n==x&&(k==.local||k==.cell))):Sem Bool)=_;rw[hb];unfold swB;congr 1
 have:(X.env.kindOf x==some NameKind.local)=decide (X.env.scope.names.lookup x=some .local):=by
  unfold Env.kindOf;rw[Bool.eq_iff_iff];simp
 rw[this];rfl
theorem zH{i:Nat}{x:Str}{p spos pos:Pos}{n:Nat}{t:Bool}{ik:Ik}{src cond:List E}{e:E}{elt tg iter:Expr}{ifs:List Expr}{scope:Scope}(G:Gs ck Γ C d X)(hi:X.N[i]?=some x)(hx:nM X.env.scope x=true)
  (h:aL ck (.comp n t ik src cond e) X.N X.env.scope (.ListComp elt [⟨tg,iter,ifs,0⟩] scope pos)=true) (ns:Nat->Bool) (hns:∀j,ns j=true->j≠i) :
  L2.PS X (.Assign [.Name x p] (.ListComp elt [⟨tg,iter,ifs,0⟩] scope pos) spos) (tEx C ns (ev Γ (.comp n t ik src cond e) >>= fun r=>dz i r >>= fun _=>pure .nx)):=by
 have g:=G.gd;have hE:=bN (.comp n t ik src cond e) X _ g h;cases hsw:swB X.env.scope x p.line (.ListComp elt [⟨tg,iter,ifs,0⟩] scope pos) with
 |false=>exact xX hns G.nd hi (uQ hx) (.inl (G.fn x)) hE (by rw[jE G.kd,hsw])
 |true =>
  have hl:X.env.scope.names.lookup x=some .local:=by
   simp only[swB,Bool.and_eq_true,decide_eq_true_eq]at hsw;exact hsw.1.1
  simp only[aL,Bool.and_eq_true,decide_eq_true_eq]at h;obtain⟨⟨⟨⟨⟨⟨⟨h1,h2⟩,h3⟩,h4⟩,h5⟩,h6⟩,h7⟩,h8⟩:=h;subst h1;have S:=tK (X:=X) rfl (kS _ _) h2;exact zy hns S g.calm G.nd hi hl (qM g h5) (fun D s H ex=>qI (fa:=false) g.calm g.K S.nd (fun z=>nomatch z) h3)
   (fun D s H ex=>by
    cases ifs with
    |nil =>
     cases cond with
     |nil=>exact fun pins s σ H Q I ⟨c0,e1,e2,ok,w⟩=>qe pins s σ H Q I (by subst e1 e2;rw[show aM Γ []=pure true from rfl,ao]at w;exact w c0 rfl rfl ok (Nx.refl c0))
     |cons _ _=>simp[aJ]at h7
    |cons c1 cs =>
     cases cs with
     |nil =>
      cases cond with
      |nil=>simp[aJ]at h7
      |cons e1 es1 =>
       cases es1 with
       |nil =>
        simp only[aJ,Bool.and_eq_true]at h7;exact qf (mw e1 (cxC X _ scope D s H ex) c1 (g.cx _ _ _ _ _ _) h7.1.2)
       |cons _ _=>simp[aJ]at h7
     |cons _ _=>simp at h6)
   (fun D s H ex=>bN e (cxC X _ scope D s H ex) elt (g.cx _ _ _ _ _ _) h8) (by rw[jE G.kd,hsw]) (pH h4)
mutual
theorem BZ:∀(s:S) (X:Cx) (s':Stmt),Gs ck Γ C d X->fz ck s X.N X.env.scope s'=true->L2.PS X s' (tEx C (nsS s) (exec Γ s))
 |.set i e,X,s',G,h=>by
  simp only[fz]at h;split at h
  ·rename_i x p v _;simp only[Bool.and_eq_true,decide_eq_true_eq]at h;obtain⟨⟨⟨⟨⟨h1,h2⟩,h3⟩,h4⟩,h5⟩,h6⟩:=h;have hns:∀j,nsS (.set i e) j=true->j≠i:=fun j hj=>by simpa[nsS] using hj
   by_cases hc:cZ v=true
   ·exact xX hns G.nd h1 (uQ h2) (.inl (G.fn x)) (bN e X v G.gd h4) (jD hc)
   ·cases e with
    |comp n t ik src cond e =>
     have h4':=h4;simp only[aL]at h4';split at h4'
     ·exact zH G h1 h2 h4 _ hns
     ·cases h4'
    |_=>exact absurd h6 hc
  ·cases h
 |.setT is e,X,s',G,h=>by
  simp only[fz]at h;split at h
  ·simp only[Bool.and_eq_true]at h;obtain⟨⟨⟨h1,h2⟩,h3⟩,h4⟩:=h;rename_i es kk p v _;refine zA (fun j hj=>by simpa[nsS] using hj) (bN e X v G.gd h4) (qI (fa:=true) G.gd.calm G.gd.K G.nd (fun _=>G.fn) h1) (qL h2) ?_ rfl;cases v<;>first|rfl|cases h3
  ·cases h
 |.put i a b,X,s',G,h=>by
  simp only[fz]at h;obtain⟨t,v,p,rfl,z1⟩:=pI h;obtain⟨o,a',p1,rfl,z2⟩:=pF z1;obtain⟨x,px,rfl,z3⟩:=aN z2;simp only[Bool.and_eq_true,decide_eq_true_eq]at z3;obtain⟨⟨⟨⟨⟨⟨h1,h2⟩,h3⟩,h4⟩,h5⟩,h6⟩,h7⟩:=z3;obtain⟨q1,q2⟩:=cE h3;exact A3 G.gd.P G.gd.w G.gd.K G.gd.u h1 (jA h2) q1 q2 (bN b X _ G.gd h7) (bN a X _ G.gd h6) (qL h4) rfl (xt h5)
 |.app i e,X,s',G,h=>by
  simp only[fz]at h;obtain⟨c,p0,rfl,z1⟩:=jC h;obtain⟨o,m,apos,as,cpos,rfl,z2⟩:=c6 z1;obtain⟨x,px,rfl,z3⟩:=aN z2;obtain⟨a,rfl,z4⟩:=bA z3;simp only[Bool.and_eq_true,decide_eq_true_eq]at z4;obtain⟨⟨⟨⟨⟨⟨rfl,h1⟩,h2⟩,h3⟩,h4⟩,h5⟩,h6⟩:=z4;obtain⟨q1,q2⟩:=cE h3;have st:=bE (env:=X.env) (es:=[]) h5;have sa:=(bR (pos:=cpos) (env:=X.env) (es:=[a]) fun e he=>by simp at he;subst he;exact h5).2;refine A1 G.gd.K h1 (jA h2) q1 q2 (bN e X _ G.gd h6) ?_ h4 st;rw[sa];rfl
 |.ext i e,X,s',G,h=>by
  simp only[fz]at h;obtain⟨c,p0,rfl,z1⟩:=jC h;obtain⟨o,m,apos,as,cpos,rfl,z2⟩:=c6 z1;obtain⟨x,px,rfl,z3⟩:=aN z2;obtain⟨a,rfl,z4⟩:=bA z3;simp only[Bool.and_eq_true,decide_eq_true_eq]at z4;obtain⟨⟨⟨⟨⟨⟨rfl,h1⟩,h2⟩,h3⟩,h4⟩,h5⟩,h6⟩:=z4;obtain⟨q1,q2⟩:=cE h3;have st:=bE (env:=X.env) (es:=[]) h5;have sa:=(bR (pos:=cpos) (env:=X.env) (es:=[a]) fun e he=>by simp at he;subst he;exact h5).2;refine A2 G.gd.K h1 (jA h2) q1 q2 (bN e X _ G.gd h6) ?_ h4 st;rw[sa];rfl
 |.bad,X,s',G,h=>fun pins sh σ H D I ⟨_,_,_,_,w⟩=>(aw.mp w).elim
 |.aug sub i a e,X,s',G,h=>fun pins sh σ H D I ⟨_,_,_,_,w⟩=>(aw.mp w).elim
 |.rvs i,X,s',G,h=>fun pins sh σ H D I ⟨_,_,_,_,w⟩=>(aw.mp w).elim
 |.newD i,X,s',G,h=>fun pins sh σ H D I ⟨_,_,_,_,w⟩=>(aw.mp w).elim
 |.putD i a b,X,s',G,h=>fun pins sh σ H D I ⟨_,_,_,_,w⟩=>(aw.mp w).elim
 |.appD i a e,X,s',G,h=>fun pins sh σ H D I ⟨_,_,_,_,w⟩=>(aw.mp w).elim
 |.exp e,X,s',G,h=>by
  simp only[fz]at h;split at h
  ·simp only[Bool.and_eq_true]at h;exact AW (bN e X _ G.gd h.2) (jD h.1)
  ·cases h
 |.ret e,X,s',G,h=>by
  simp only[fz]at h;split at h
  ·exact AX (bN e X _ G.gd h)
  ·cases h
 |.retN,X,s',G,h=>by
  simp only[fz]at h;split at h
  ·exact zx
  ·cases h
 |.ite c a b,X,s',G,h=>by
  simp only[fz]at h;split at h
  ·simp only[Bool.and_eq_true]at h;have ha:=kU a X _ G h.1.2;have hb:=kU b X _ G h.2;exact AY (mw c X _ G.gd h.1.1) (PSs.weak ha fun D σ H z=>mi (fun j hj=>by simp only[nsS,Bool.and_eq_true]at hj;exact hj.1) z) (PSs.weak hb fun D σ H z=>mi (fun j hj=>by simp only[nsS,Bool.and_eq_true]at hj;exact hj.2) z)
  ·cases h
 |.for_ t is ik src body,X,s',G,h=>by
  simp only[fz]at h;split at h
  ·rename_i tg iter body' _;rw[Bool.and_eq_true,Bool.and_eq_true,Bool.and_eq_true]at h;exact A0 G.po G.gd.calm (qM G.gd h.1.2) (qI (fa:=true) G.gd.calm G.gd.K G.nd (fun _=>G.fn) h.1.1.1) (kU body X _ G h.2) (pH h.1.1.2) fun j hj=>by simpa[nsS] using hj
  ·cases h
 |.whl c body,X,s',G,h=>by
  simp only[fz]at h;split at h
  ·simp only[Bool.and_eq_true]at h;exact AZ G.po (mw c X _ G.gd h.1) (kU body X _ G h.2)
  ·cases h
 |.brk,X,s',G,h=>by
  simp only[fz]at h;split at h
  ·exact AS
  ·cases h
 |.cnt,X,s',G,h=>by
  simp only[fz]at h;split at h
  ·exact AU
  ·cases h
 |.pas,X,s',G,h=>by
  simp only[fz]at h;split at h
  ·exact AV
  ·cases h
theorem kU:∀(ss:List S) (X:Cx) (ss':List Stmt),Gs ck Γ C d X->c7 ck ss X.N X.env.scope ss'=true->PSs X ss' (tEx C (nsL ss) (execs Γ ss))
 |[],X,ss',G,h=>by
  cases ss' with
  |nil=>exact AR
  |cons _ _=>simp[c7]at h
 |s::ss,X,ss',G,h=>by
  cases ss' with
  |nil=>simp[c7]at h
  |cons s' ss' =>
   simp only[c7,Bool.and_eq_true]at h;have h1:=BZ s X s' G h.1;have h2:=kU ss X ss' G h.2;exact zw (PS.weak h1 fun D σ H z=>mi (fun j hj=>by simp only[nsL,Bool.and_eq_true]at hj;exact hj.1) z) (PSs.weak h2 fun D σ H z=>mi (fun j hj=>by simp only[nsL,Bool.and_eq_true]at hj;exact hj.2) z)
end
end
end TM
namespace TM
open PySem L2 PyProof.Rows
section
variable{ck:Ck}{Γ:Tab}{d:Nat}{P:Program}{w:World}{K:PySem.W.Frag}{mg:Str->Option Value}{base:Heap}
theorem g6{us:List U}{n i:Nat}{k:Kd}{u:U}(h:(start us n)[i]?=some (some (k,u))):us[i]?=some u/\k=if imm u=true then .loc else .any:=by
 unfold start at h;by_cases hi:i<us.length
 ·rw[List.getElem?_append_left (by simpa using hi),List.getElem?_map]at h;rw[List.getElem?_eq_getElem hi]at h ⊢;simp only[Option.map_some,Option.some.injEq,Prod.mk.injEq]at h;obtain⟨h1,h2⟩:=h;subst h2;exact⟨rfl,h1.symm⟩
 ·rw[List.getElem?_append_right (by simp;omega),List.getElem?_replicate]at h;split at h<;>cases h
theorem pJ{vs:List V}{N:List Str}{i:Nat}{v:V}(h:vs[i]?=some v):(L2.start N vs)[i]?=some (some v):=by
 unfold L2.start;have hi:i<vs.length:=(List.getElem?_eq_some_iff.mp h).1;rw[List.getElem?_append_left (by simpa using hi),List.getElem?_map,h];rfl
theorem uR{us:List U}{vs:List V}{N:List Str}{H:Hp}{Pr:Addr->Prop}(hP:∀a,Pr a->Dom H a)(h:ai (ct0 P w K H Pr) Pr H us vs){n:Nat}(hn:N.length=n):Ok (ct0 P w K H Pr) ⟨fun _=>False,H,L2.start N vs,start us n,fun _=>[]⟩:=by
 have noD:∀(j:Nat) (u:U),(start us n)[j]?≠some (some (.ownD,u)):=fun j u e=>by
  have:=(g6 e).2;split at this<;>cases this
 refine⟨fun a o e _=>e,fun a z=>z.elim,fun a z=>⟨hP a z,fun z=>z⟩,fun a z=>z.elim,?_,fun i k u e=>?_,fun i j k k' u u' r hk hk' e1 e2 e3 e4=>?_,⟨fun j u r e _=>(noD j u e).elim,fun i j a ⟨u,_,e,_⟩=>(noD i u e).elim,fun j a ⟨u,_,e,_⟩=>(noD j u e).elim⟩⟩
 ·have:=h.len;simp[start,L2.start,hn];omega
 ·obtain⟨e1,e2⟩:=g6 e;obtain⟨v,ev,rep⟩:=h.get e1;refine⟨v,pJ ev,?_⟩;subst e2;by_cases hu:imm u=true
  ·rw[if_pos hu];exact Rep.imm hu rep
  ·rw[if_neg hu];exact Rep.mv (.up fun a z=>.inl z) rep
 ·obtain⟨_,e5⟩:=g6 e1;subst e5;split at hk<;>cases hk
theorem mz{fn:Fn}{us:List U}{k:Kd}{u:U}(h:bO Γ fn us=some (.ok (k,u))):us.length=fn.np/\((k=.own\/k=.loc\/k=.any)/\(∃st',execs Γ fn.body (start us fn.ns)=some (.ok (.rt k u),st'))\/(k=.loc/\u=.non/\∃st',execs Γ fn.body (start us fn.ns)=some (.ok .nx,st'))):=by
 unfold bO at h;split at h
 ·rename_i hl;refine⟨hl,?_⟩;split at h
  ·rename_i e;cases h;exact .inl ⟨.inl rfl,_,e⟩
  ·rename_i e;cases h;exact .inl ⟨.inr (.inl rfl),_,e⟩
  ·rename_i e;cases h;exact .inl ⟨.inr (.inr rfl),_,e⟩
  ·rename_i e;cases h;exact .inr ⟨rfl,rfl,_,e⟩
  ·cases h
  ·cases h
 ·cases h
theorem x6{fn:Fn}{qual:Str}{st:Stmt}{f:Addr}{fd:FuncData}{N ps:List Str}(F:Fun K fn.name qual st f fd)(S:dH N ps (aW st))(hN:N.length=fn.ns)(hps:ps.length=fn.np)
  (hchk:c7 ck fn.body N (aW st) (cH st)=true) (blt:∀x∈bU,mg x=none) (fns:∀g∈ck.fns,zD P w K mg base d (Γ g) g)
  (gls:∀p∈ck.gl,∃val v,mg p.1=some val/\RelV v val/\∀(C:Ct) S H,Rep C S H p.2 v):lG P w K mg base CX0 (d+1) f fd ps (spT P w K (bO Γ fn) fn.np):=by
 refine F.ok S (fun vs H Q E h=>h.1.trans hps.symm) (fun cdv A outer s H vs Q E hr h=>?_);obtain⟨hl,us,k,u,Pr,hrun,hk,hPr,rep,cont⟩:=h;have hun:=hr.un;have G:Gs ck Γ (ct0 P w K H Pr) d (oH CX0 P w K mg base N qual (aW st) f cdv A outer s H E).nox :=
  ⟨⟨rfl,rfl,rfl,by show(A.deeper (envOfC qual (aW st) s.heap.objs.size f cdv)).units+60<cLine;omega,rfl,hr,blt,fns,fun p hp=>let ⟨val,v,q1,q2,q3⟩:=gls p hp;⟨val,v,q1,q2,q3 _⟩⟩,S.nd,fun _=>rfl,PassesOwn.never,S.kind⟩
 refine⟨_,kU fn.body _ _ G hchk,⟨fun _=>False,H,L2.start N vs,start us fn.ns,fun _=>[]⟩,rfl,rfl,uR hPr rep hN,?_⟩;obtain⟨_,hres⟩:=mz hrun;have mk:∀(c:Cf),Ok (ct0 P w K H Pr) c->∀v,AQ (ct0 P w K H Pr) c k u v->Back (ct0 P w K H Pr) H c.H c.S k u v:=fun c ok v r=>by
  refine⟨fun a o e=>ok.same a o e fun z=>z,fun a z=>ok.sfr a z,fun e=>?_,fun e=>?_,fun e=>?_⟩
  ·subst e;obtain⟨r0,e,h1,h2,h3,h4⟩:=r;exact⟨r0,e,h1,h2,h4⟩
  ·subst e;exact r
  ·subst e;exact r
 rcases hres with⟨_,st',e⟩|⟨rfl,rfl,st',e⟩
 ·exact⟨_,st',e,fun c ec ok n kp v r=>cont v c.H c.S (mk c ok v r)⟩
 ·exact⟨_,st',e,fun c ec ok n kp=>cont .non c.H c.S (mk c ok .non rfl)⟩
structure Ld(ck:Ck)(K:PySem.W.Frag)(mg:Str->Option Value)(fn:Fn):Prop where
 ex:∃(qual:Str) (st:Stmt) (f:Addr) (fd:FuncData) (N ps:List Str),Fun K fn.name qual st f fd/\mg fn.name=some (.ref f)/\Binds K fd ps []/\dH N ps (aW st)/\N.length=fn.ns/\ps.length=fn.np/\c7 ck fn.body N (aW st) (cH st)=true
theorem xu{Pg:List Fn}(hnd:(Pg.map (·.name)).Nodup){fn:Fn}(h:fn∈Pg):Pg.find? (fun g=>decide (g.name=fn.name))=some fn:=by
 induction Pg with
 |nil=>cases h
 |cons g Pg ih =>
  rw[List.map_cons,List.nodup_cons]at hnd;rcases List.mem_cons.mp h with rfl|h
  ·simp
  ·rw[List.find?_cons];have:decide (g.name=fn.name)=false:=by
    apply decide_eq_false;intro z;exact hnd.1 (z▸List.mem_map_of_mem h)
   rw[this];exact ih hnd.2 h
theorem uS{Pg:List Fn}(hnd:(Pg.map (·.name)).Nodup){fn:Fn}(h:fn∈Pg):sem Pg (d+1) fn.name=bO (sem Pg d) fn:=by
 funext us
 show(match Pg.find? fun g=>decide (g.name=fn.name) with|some fn=>bO (sem Pg d) fn us|none=>none)=_;rw[xu hnd h]
theorem xv{Pg:List Fn}(hnd:(Pg.map (·.name)).Nodup)(hck:ck.fns=Pg.map (·.name))(blt:∀x∈bU,mg x=none)(gls:∀p∈ck.gl,∃val v,mg p.1=some val/\RelV v val/\∀(C:Ct) S H,Rep C S H p.2 v)
  (ld:∀fn∈Pg,Ld ck K mg fn):∀d,∀fn∈Pg,zD P w K mg base d (sem Pg d fn.name) fn.name:=by
 intro d;induction d with
 |zero =>
  intro fn hfn;obtain⟨qual,st,f,fd,N,ps,F,hm,hb,S,hN,hps,hc⟩:=(ld fn hfn).ex;exact⟨fn.np,f,fd,ps,⟨fun vs H Q E h=>h.1.trans hps.symm,fun A outer s H args us vs Q E _ _ _ _ h=>by obtain⟨_,us,k,u,_,e,_⟩:=h;cases e⟩,hm,F.kp,hb,fun us k u e=>by cases e⟩
 |succ d ih =>
  intro fn hfn;obtain⟨qual,st,f,fd,N,ps,F,hm,hb,S,hN,hps,hc⟩:=(ld fn hfn).ex;rw[uS hnd hfn];refine⟨fn.np,f,fd,ps,x6 F S hN hps hc blt (fun g hg=>?_) gls,hm,F.kp,hb,fun us k u e=>?_⟩
  ·rw[hck]at hg;obtain⟨fn',h1,rfl⟩:=List.mem_map.mp hg;exact ih fn' h1
  ·obtain⟨h1,h2⟩:=mz e;refine⟨?_,h1⟩;rcases h2 with⟨z,_⟩|⟨z,_⟩
   ·exact z
   ·exact .inr (.inl z)
end
noncomputable def uT(ns:List Int):U:=.lst (ns.map .int)
theorem kW{C:Ct}{S:Addr->Prop}{H:Hp}:∀(ns:List Int),ai C S H (ns.map .int) (ns.map V.int)
 |[]=>rfl
 |n::ns=>⟨_,_,rfl,rfl,kW ns⟩
theorem pK{C:Ct}{H:Hp}{a:Addr}{ns:List Int}(h:SqL C.K H a (ns.map V.int)):Rep C (Dom H) H (uT ns) (.ref a):=by
 refine⟨a,_,rfl,?_,kW ns⟩;rcases h with(h|⟨o,h⟩)|h
 ·exact .inl ⟨⟨_,h⟩,.inl h⟩
 ·exact .inl ⟨⟨_,h⟩,.inr ⟨o,h⟩⟩
 ·exact .inr h
theorem nP{α β:Type}{f g:α->Option β}:∀{l:List α},(∀a∈l,f a=g a)->l.filterMap f=l.filterMap g
 |[],_=>rfl
 |a::l,h=>by rw[List.filterMap_cons,List.filterMap_cons,h a (by simp),nP fun b hb=>h b (by simp[hb])]
theorem qN:∀(l:List Str) (us:List Value),l.Nodup->us.length=l.length->l.filterMap (fun n=>((l.zip us).lookup n).map (n,·))=l.zip us
 |[],_,_,_=>rfl
 |a::l,[],_,h=>nomatch h
 |a::l,u::us,nd,h=>by
  rw[List.nodup_cons]at nd;have ih:=qN l us nd.2 (by simpa using h);simp only[List.zip_cons_cons,List.filterMap_cons,List.lookup_cons,beq_self_eq_true,Option.map_some];congr 1
  conv=>rhs;rw[<-ih]
  refine nP fun n hn=>?_;have:(n==a)=false:=by
   rw[beq_eq_false_iff_ne];rintro rfl;exact nd.1 hn
  rw[this]
theorem uU(l:List Str)(us:List Value)(h:us.length=l.length):l.filter (fun n=>((l.zip us).lookup n).isNone)=[]:=by
 rw[List.filter_eq_nil_iff];intro n hn;induction l generalizing us with
 |nil=>cases hn
 |cons a l ih =>
  cases us with
  |nil=>cases h
  |cons u us =>
   simp only[List.zip_cons_cons,List.lookup_cons];cases e:n==a with
   |true=>simp
   |false =>
    rcases List.mem_cons.mp hn with rfl|hn
    ·simp at e
    ·exact ih us (by simpa using h) hn
theorem uV{x q:Str}{as:List Arg}{body:List Stmt}{scope:Scope}{kV doc pm cdv ct:Value}{an:Option Addr}{us:List Value}(nd:(as.map (·.arg)).Nodup)(hl:us.length=(as.map (·.arg)).length):
  bindArgs (PySem.W.fnOf x q ⟨[],as,none,[],[],none,[]⟩ body scope .none kV doc pm an cdv ct) ⟨us,[]⟩=pure ((as.map (·.arg)).zip us):=by
 have h1:=qN _ us nd hl;have h2:=uU _ us hl;have hs:seqItems? Value.none=pure none:=rfl;simp only[bindArgs,PySem.W.fnOf,List.map_nil,List.nil_append,List.append_nil,hs,pure_bind,Option.getD_none,List.length_nil,Nat.sub_zero,List.drop_nil,List.zip_nil_right,List.forIn_nil,h1];rw[if_neg (by simp[hl])];rw[List.length_map,List.take_of_length_le (by simp),h2];rfl
structure Me where
 fn:Fn
 i:Nat
 N:List Str
 a:Addr
 c:Addr
 m:Value
 cr:Obj
noncomputable def Me.fd(top:Nat->Stmt)(m:Me):FuncData:=PySem.W.fnOf m.fn.name m.fn.name (ff (top m.i)) (cH (top m.i)) (aW (top m.i)) .none .none .none m.m none (.ref m.c) .none
noncomputable def Me.fo(top:Nat->Stmt)(m:Me):Obj:=⟨.type "function",none,.func (m.fd top),#[]⟩
noncomputable def adr(ms:List Me):List Addr:=3::ms.flatMap fun m=>[m.c,m.a]
noncomputable def frg(top:Nat->Stmt)(g:Obj)(ms:List Me):PySem.W.Frag:=(3,g)::ms.flatMap fun m=>[(m.c,m.cr),(m.a,m.fo top)]
theorem qO(top:Nat->Stmt)(g:Obj)(ms:List Me):adr ms=(frg top g ms).map (·.1):=by
 unfold adr frg;rw[List.map_cons,List.map_flatMap];rfl
noncomputable def zI(v:Option (Option Value))(a:Addr):Bool:=match v with|some (some (.ref b))=>decide (b=a)|_=>false
theorem xw{v:Option (Option Value)}{a:Addr}(h:zI v a=true):v=some (some (.ref a)):=by
 unfold zI at h;split at h
 ·rw[of_decide_eq_true h]
 ·cases h
noncomputable def nn(o:Option (Option Value)):Bool:=match o with|some none=>true|_=>false
theorem A7{o:Option (Option Value)}(h:nn o=true):o=some none:=by
 unfold nn at h;split at h
 ·rfl
 ·cases h
noncomputable def A8(p:Arguments)(ps:List Str):Bool:=p.posonlyargs.isEmpty&&p.vararg.isNone&&p.kwonlyargs.isEmpty&&p.kw_defaults.isEmpty&&p.kwarg.isNone&&p.defaults.isEmpty&&decide (p.args.map (·.arg)=ps)
noncomputable def scB(N:List Str)(np:Nat)(sc:Scope):Bool:=decide (sc.kind=.function)&&decide (sc.isCoroutine=false)&&decide (sc.isGenerator=false)&&decide N.Nodup&&(N.take np).all (nM sc)&&sc.names.all (fun y=>decide (y.2≠.free))
noncomputable def mOk(ck:Ck)(top:Nat->Stmt)(K:PySem.W.Frag)(m:Me):Bool:=PySem.W.codeIn K (.ref m.c) m.fn.name&&PySem.W.keepIn K (.ref m.a)&&zI (PySem.W.nsIn K mainGlobals m.fn.name) m.a&&A8 (ff (top m.i)) (m.N.take m.fn.np) &&
 scB m.N m.fn.np (aW (top m.i))&&decide (m.N.length=m.fn.ns)&&decide (m.fn.np<=m.fn.ns)&&c7 ck m.fn.body m.N (aW (top m.i)) (cH (top m.i))
noncomputable def glK(K:PySem.W.Frag)(p:Str×U):Bool:=match p.2,PySem.W.nsIn K mainGlobals p.1 with
 |.int i,some (some (.int j _))=>decide (i=j)
 |.str i,some (some (.str j _))=>decide (i=j)
 |_,_=>false
noncomputable def gOk(ck:Ck)(top:Nat->Stmt)(K:PySem.W.Frag)(ms:List Me):Bool:=ms.all (mOk ck top K)&&bU.all (fun y=>nn (PySem.W.nsIn K mainGlobals y))&&ck.gl.all (glK K)&&decide (K.map (·.1)).Nodup
theorem A9{K:PySem.W.Frag}(nd:(K.map (·.1)).Nodup){a:Addr}{o:Obj}(h:(a,o)∈K):K.lookup a=some o:=by
 induction K with
 |nil=>cases h
 |cons p K ih =>
  rw[List.map_cons,List.nodup_cons]at nd;rw[List.lookup_cons];rcases List.mem_cons.mp h with rfl|h
  ·simp
  ·have:(a==p.1)=false:=by
    rw[beq_eq_false_iff_ne];rintro rfl;exact nd.1 (List.mem_map.mpr ⟨_,h,rfl⟩)
   rw[this];exact ih nd.2 h
section
variable{ck:Ck}{top:Nat->Stmt}{g:Obj}{ms:List Me}
theorem x8(hm:gOk ck top (frg top g ms) ms=true){m:Me}(h:m∈ms):Fun (frg top g ms) m.fn.name m.fn.name (top m.i) m.a (m.fd top)/\PySem.W.nsIn (frg top g ms) mainGlobals m.fn.name=some (some (.ref m.a)) /\
  (∀us:List Value,us.length=(m.N.take m.fn.np).length->bindArgs (m.fd top) ⟨us,[]⟩=pure ((m.N.take m.fn.np).zip us))/\dH m.N (m.N.take m.fn.np) (aW (top m.i))/\m.N.length=m.fn.ns/\(m.N.take m.fn.np).length=m.fn.np/\c7 ck m.fn.body m.N (aW (top m.i)) (cH (top m.i))=true:=by
 simp only[gOk,Bool.and_eq_true,decide_eq_true_eq]at hm;have z:=List.all_eq_true.mp hm.1.1.1 m h;simp only[mOk,Bool.and_eq_true,decide_eq_true_eq]at z;obtain⟨⟨⟨⟨⟨⟨⟨z1,z2⟩,z3⟩,z4⟩,z5⟩,z6⟩,z7⟩,z8⟩:=z;simp only[scB,Bool.and_eq_true,decide_eq_true_eq]at z5;obtain⟨⟨⟨⟨⟨s1,s2⟩,s3⟩,s4⟩,s5⟩,s6⟩:=z5;have hlk:(frg top g ms).lookup m.a=some (m.fo top):=A9 hm.2 (List.mem_cons.mpr (.inr (List.mem_flatMap.mpr ⟨m,h,by simp⟩)));have hl:(m.N.take m.fn.np).length=m.fn.np:=by rw[List.length_take];omega
 refine⟨yI hlk z1 z2,xw z3,fun us hu=>?_,⟨s1,s2,s3,s4,by rw[hl],fun x hx=>?_,fun y hy=>?_⟩,z6,hl,z8⟩
 ·unfold Me.fd;revert z4;cases ff (top m.i) with
  |mk po as va ko kd kw df =>
   intro z4;simp only[A8,Bool.and_eq_true,List.isEmpty_iff,Option.isNone_iff_eq_none,decide_eq_true_eq]at z4;obtain⟨⟨⟨⟨⟨⟨rfl,rfl⟩,rfl⟩,rfl⟩,rfl⟩,rfl⟩,e⟩:=z4;rw[<-e]at hu ⊢;exact uV (by rw[e];exact(List.take_sublist _ _).nodup s4) hu
 ·have:=List.all_eq_true.mp s5 x hx;simpa[nM] using this
 ·have:=List.all_eq_true.mp s6 y hy;simpa using this
theorem A_{h:Heap}{mg:Str->Option Value}(hm:gOk ck top (frg top g ms) ms=true)(X:(frg top g ms).In h)(G:h.Ns mainGlobals mg){m:Me}(hi:m∈ms):Ld ck (frg top g ms) mg m.fn :=
 let ⟨a,b,c,d,e,f,k⟩:=x8 hm hi
 ⟨_,_,_,_,_,_,a,PySem.W.mg_of X G b,.all c,d,e,f,k⟩
theorem zJ{h:Heap}{mg:Str->Option Value}(hm:gOk ck top (frg top g ms) ms=true)(X:(frg top g ms).In h)(G:h.Ns mainGlobals mg):∀p∈ck.gl,∃val v,mg p.1=some val/\RelV v val/\∀(C:Ct) S H,Rep C S H p.2 v:=by
 intro p hp;simp only[gOk,Bool.and_eq_true,decide_eq_true_eq]at hm;have z:=List.all_eq_true.mp hm.1.2 p hp;unfold glK at z;split at z
 ·rename_i i j k e1 e2;obtain rfl:=of_decide_eq_true z;exact⟨_,.int i,PySem.W.mg_of X G e2,⟨_,rfl⟩,fun _ _ _=>by rw[e1];rfl⟩
 ·rename_i i j k e1 e2;obtain rfl:=of_decide_eq_true z;exact⟨_,.str i,PySem.W.mg_of X G e2,⟨_,rfl⟩,fun _ _ _=>by rw[e1];rfl⟩
 ·cases z
end
theorem walk{l:PySem.W.OpenLaw}{q:Program}{loose:List Str}{XP:(Str->Option Value)->Heap->Prop}{YP:World->Heap->Prop}{d:DefRec}{K:Params->PySem.W.Frag}{Pg:List Fn}{ck:Ck}{dp:Nat}{x:Str}
  (hn:l.most=some 63) (hdf:d.params.defaults=[]) (hr:ft (dp+1) callerA) (hY:∀(w:World) (h:Heap),YP w h->(K w.params).In h)
  (hnd:(Pg.map (·.name)).Nodup) (hck:ck.fns=Pg.map (·.name)) {fn:Fn} (hfn:fn∈Pg) (hname:fn.name=d.name)
  (F:∀(w:World) (mg:Str->Option Value) (fa:Addr) (h:Heap),(K w.params).In h->h.Ns mainGlobals mg->mg d.name=some (.ref fa) ->
   (∀y∈bU,mg y=none)/\(∀p∈ck.gl,∃val v,mg p.1=some val/\RelV v val/\∀(C:Ct) S H,Rep C S H p.2 v)/\(∀g∈Pg,Ld ck (K w.params) mg g) /\
   ∃(qual:Str) (st:Stmt) (fd:FuncData) (N:List Str),Fun (K w.params) fn.name qual st fa fd/\dH N [x] (aW st)/\N.length=fn.ns/\1=fn.np/\c7 ck fn.body N (aW st) (cH st)=true/\∀(s:Shared) (u:Value),BindsTo s fd ⟨[u],[]⟩ [(x,u)])
  (T:∀ns:List Int,ns.length<=63->sem Pg (dp+1) fn.name [uT ns]=some (.ok (.loc,.bl true))) :
  PySem.W.WalkO q loose XP YP l.row.toRowW d [] (fun f vs=>PySem.call f vs) :=
 L2.we (n:=63) (k:=dp+1) (x:=x) (CX:=fun _=>CX0) (sp:=fun w=>spT l.prog w (K w.params) (bO (sem Pg dp) fn) fn.np) hn (by decide) hdf hr hY
  (fun w mg fa h KX G hmg=>by
   obtain⟨blt,gls,ld,qual,st,fd,N,F1,S,hN,hps,hc,hb⟩:=F w mg fa h KX G hmg;refine⟨fd,hb,fun base _ _=>x6 F1 S hN hps hc blt (fun g hg=>?_) gls⟩;rw[hck]at hg;obtain⟨fn',h1,rfl⟩:=List.mem_map.mp hg;exact xv hnd hck blt gls ld dp fn' h1)
  (fun w H a ns hl _ hS=>by
   have t:=T ns hl;rw[uS hnd hfn]at t;have hnp:fn.np=1:=(mz t).1.symm;exact⟨hnp.symm,[uT ns],.loc,.bl true,Dom H,t,.inr (.inl rfl),fun _ z=>z,⟨_,_,rfl,pK hS,rfl⟩,fun v H' S' b=>b.loc rfl⟩)
  fun _ _ _ _ _ z=>z
theorem walk2{l:PySem.W.OpenLaw}{q:Program}{loose:List Str}{XP:(Str->Option Value)->Heap->Prop}{d:DefRec}{top:Nat->Stmt}{g:Params->Obj}{ms:List Me}{Pg:List Fn}{ck:Ck}{dp:Nat}{x:Str}{m:Me}
  (hn:l.most=some 63) (hdf:d.params.defaults=[]) (hr:ft (dp+1) callerA) (hP:ms.map (·.fn)=Pg) (hnd:(Pg.map (·.name)).Nodup) (hck:ck.fns=Pg.map (·.name)) (hm:m∈ms) (hname:m.fn.name=d.name) (hx:m.N.take m.fn.np=[x])
  (ok:∀P,gOk ck top (frg top (g P) ms) ms=true) (T:∀ns:List Int,ns.length<=63->sem Pg (dp+1) m.fn.name [uT ns]=some (.ok (.loc,.bl true))) :
  PySem.W.WalkO q loose XP (PySem.W.kHook (fun P=>frg top (g P) ms) (adr ms) fun P=>qO top (g P) ms).says l.row.toRowW d [] (fun f vs=>PySem.call f vs) :=
 walk hn hdf hr (fun w h Y=>PySem.W.kIn_of Y) hnd hck (hP▸List.mem_map.mpr ⟨m,hm,rfl⟩) hname (fun w mg fa h X G hfa=>by
  have hk:=ok w.params;obtain⟨a,b,c,e,f,k,n⟩:=x8 hk hm;rw[<-hname,PySem.W.mg_of X G b]at hfa;cases hfa;rw[hx]at c e k;refine⟨fun y hy=>PySem.W.mg_none_of X G (A7 ?_),zJ hk X G,fun y hy=>?_,_,_,_,_,a,e,f,k,n,fun s u=>.of_eq (c [u] rfl)⟩
  ·simp only[gOk,Bool.and_eq_true]at hk;exact List.all_eq_true.mp hk.1.1.2 y hy
  ·rw[<-hP]at hy;obtain⟨m',h1,rfl⟩:=List.mem_map.mp hy;exact A_ hk X G h1) T
noncomputable def co(n:Str)(k l np:Nat)(r s:Addr)(x y z:Value)(a b t:Nat):Obj:=⟨.type "code",none,.fields #[.str n k,.str n (k+1),.str "/claim/cut.py" (k+2),.int l 0,.int np 0,.int 0 0,.int 0 0,.int 3 0,.ref r,.bool Bool.true,.int t 0,.ref s,.none,x,y,z,.int a 0,.int l 0,.str "/claim/cut.py" b],#[]⟩
noncomputable def ge(P:Params)(x:Str)(k:Nat)(v:Value):DictEntry:=⟨PyData.keyHash P x,.str x k,v⟩
end TM
namespace W01
open PySem L2
noncomputable def b8(l:List Nat):Prop:=d6 l=true\/∃a b k,l=a++47::b/\d6 a=true/\2<=k/\k<=99/\(rF k).cps.toList=b
theorem len_list(x:Str):x.length=x.cps.toList.length:=by simp[Str.length]
theorem kX{k:Int}(h0:0<=k)(h1:k<=99):(rF k).length<=2:=by
 obtain⟨m,rfl⟩:=Int.eq_ofNat_of_zero_le h0;have hm:m<100:=by omega
 clear h0 h1;revert m;decide +kernel
theorem b8.len{l:List Nat}(h:b8 l):1<=l.length/\l.length<=11:=by
 rcases h with h|⟨a,b,k,rfl,h,h2,h9,hb⟩
 ·have:=(cu l).mp h;omega
 ·have:=(cu a).mp h;have hl:=kX (k:=k) (by omega) h9;rw[len_list,hb]at hl;simp;omega
theorem b8.B1{x:Str}(h:b8 x.cps.toList):∃y r,Txt.split x xR=y::r/\d6 y.cps.toList=true:=by
 rcases h with h|⟨a,b,k,e,h,_⟩
 ·exact⟨x,[],oN (mX h),h⟩
 ·obtain⟨r,e'⟩:=tB e (mX h) (by decide);exact⟨_,r,e',by simpa using h⟩
theorem d9:∀(ps:List Str) (acc:Array Nat),(ps.foldl (fun acc p=>acc++Str.empty.cps++p.cps) acc).toList=acc.toList++(ps.map fun p=>p.cps.toList).flatten
 |[],acc=>by simp
 |p::ps,acc=>by
  rw[List.foldl_cons,d9 ps];have:Str.empty.cps=#[]:=rfl;simp[this]
theorem join_list(ts:List Str):(Txt.join Str.empty ts).cps.toList=(ts.map fun p=>p.cps.toList).flatten:=by
 cases ts with
 |nil=>rfl
 |cons t ts =>
  show(ts.foldl (fun acc p=>acc++Str.empty.cps++p.cps) t.cps).toList=_;rw[d9];simp
noncomputable def one(c:Nat):Str:=⟨#[c]⟩
theorem join_ones(cs:List Nat):(Txt.join Str.empty (cs.map one)).cps.toList=cs:=by
 rw[join_list,List.map_map];induction cs with
 |nil=>rfl
 |cons c cs ih=>rw[List.map_cons,List.flatten_cons,ih];rfl
theorem nQ(cs:List Nat)(h:cs.length<=100):JoinOk Str.empty (cs.map one)=true:=by
 unfold JoinOk;have e:=PySem.StrLaws.joinTotal Str.empty (cs.map one);have e0:Str.empty.length=0:=rfl;have es:((cs.map one).map (·.length)).sum=cs.length:=by
  rw[List.map_map];clear h e;induction cs with
  |nil=>rfl
  |cons c cs ih=>rw[List.map_cons,List.sum_cons,ih];show 1+cs.length=cs.length+1;omega
 rw[e,e0,es];have hm:cs.length+(cs.map one).length * 0<=100:=by omega
 revert hm;generalize cs.length+(cs.map one).length * 0=m;revert m;decide
theorem zK(x:Str)(j:Nat):(PySem.StrLaws.sliceText x none (some (j:Int))).cps.toList=x.cps.toList.take j:=by
 by_cases h:j<=x.cps.toList.length
 ·rw[PySem.StrLaws.sliceText_to (x:=x) ⟨by omega,by omega⟩];simp
 ·have e:PySem.StrLaws.sliceText x none (some (j:Int))=PySem.StrLaws.sliceText x none (some (x.length:Int)):=by
   unfold PySem.StrLaws.sliceText;have hl:=len_list x;have:PySem.Builtin.Str.strSliceIndices none (some (j:Int)) 1 x.length=PySem.Builtin.Str.strSliceIndices none (some (x.length:Int)) 1 x.length:=by
    have h1:¬((j:Int)<0):=by omega
    have h2:¬((x.length:Int)<0):=by omega
    have e1:min (j:Int) (x.length:Int)=x.length:=by omega
    simp[PySem.Builtin.Str.strSliceIndices,h1,h2,e1]
   rw[this]
  have hl:=len_list x;rw[e,PySem.StrLaws.sliceText_to (x:=x) ⟨by omega,by omega⟩,List.drop_zero,List.take_of_length_le (l:=x.cps.toList) (i:=j) (by omega)];show(x.cps.toList.take ((x.length:Int) - 0).toNat).toArray.toList=_;rw[List.take_of_length_le (by omega)]
theorem sg{a b:List Nat}(ha:d6 a=true)(hb:∀c∈b,low c=true):d6 ((a++b).take 8)=true:=by
 have h:=(cu a).mp ha;refine(cu _).mpr ⟨by simp;omega,by simp;omega,fun c hc=>?_⟩;have hc':=List.mem_of_mem_take hc;rcases List.mem_append.mp hc' with m|m
 ·exact h.2.2 c m
 ·have:=hb c m;simp[low]at this;omega
theorem ig{b:List Nat}(hb:∀c∈b,low c=true)(h1:1<=b.length)(h8:b.length<=8):d6 b=true :=
 (cu b).mpr ⟨h1,h8,fun c hc=>by have:=hb c hc;simp[low]at this;omega⟩
noncomputable def small:Str:="abcdefghijklmnopqrstuvwxyz"
theorem pL:small.cps.toList=(List.range 26).map (97+·):=by decide +kernel
theorem jF{k:Int}(h0:0<=k)(h1:k<26):atI small.cps.toList k=some (97+k.toNat):=by
 obtain⟨j,rfl⟩:=Int.eq_ofNat_of_zero_le h0;refine bq ?_;rw[pL,List.getElem?_map,List.getElem?_range (by omega)];rfl
theorem pM{j:Nat}(h:j<26):low (97+j)=true:=by simp[low];omega
noncomputable def kY(k:Nat):Str:=⟨#[97+k / 26,97+k % 26]⟩
theorem pN{k:Nat}(h:k<40):d6 (kY k).cps.toList=true:=by
 refine ig (fun c hc=>?_) (by show 1<=2;decide) (by show 2<=8;decide);have hc':c=97+k / 26\/c=97+k % 26:=by simpa[kY] using hc
 rcases hc' with rfl|rfl
 ·exact pM (by omega)
 ·exact pM (by omega)
theorem jG{α:Type}[DecidableEq α]:∀{l m:List α},l.Nodup->(∀x∈l,x∈m)->l.length<=m.length
 |[],_,_,_=>Nat.zero_le _
 |x::l,m,hn,h=>by
  obtain⟨h1,h2⟩:=List.nodup_cons.mp hn;have hx:=h x List.mem_cons_self;have ih:=jG (l:=l) (m:=m.erase x) h2 fun y hy=>(List.mem_erase_of_ne (by rintro rfl;exact h1 hy)).mpr (h y (List.mem_cons_of_mem _ hy));rw[List.length_erase_of_mem hx]at ih;have:0<m.length:=List.length_pos_of_mem hx;rw[List.length_cons];omega
noncomputable def bJ:List Str:=(List.range 40).map kY
theorem mB:bJ.Nodup:=by
 decide +kernel
theorem pO(names:List Str)(h:names.length<40):∃x∈bJ,x∉names:=by
 apply Classical.byContradiction;intro hno;have:∀x∈bJ,x∈names:=fun x hx=>Classical.byContradiction fun hn=>hno ⟨x,hx,hn⟩;have:=jG mB this;simp[bJ]at this;omega
end W01
namespace TM
open PySem L2
section
variable{α β:Type}{Γ:Tab}{st st1 st2 st3 st4:aj}
noncomputable def Run(m:M α)(st:aj)(a:α)(st':aj):Prop:=m st=some (.ok a,st')
theorem ae{m:M α}{f:α->M β}{a:α}{b:β}(h1:Run m st a st1)(h2:Run (f a) st1 b st2):Run (m >>= f) st b st2:=by
 show M.bind m f st=_;unfold M.bind;rw[show m st=_ from h1];exact h2
theorem bf{a:α}:Run (pure a:M α) st a st:=rfl
theorem cM{o:Option α}{a:α}(h:o=some a):Run (M.ofO o) st a st:=by subst h;rfl
theorem a9{rs:List (Kd×U)}(h:aZ rs st):Run (ay rs) st () st:=by show ay rs st=_;unfold ay;rw[if_pos h]
noncomputable def kv(i:Nat)(k:Kd):Kd:=if k.root=true then .bor i else k
theorem jH{i:Nat}{k:Kd}{u:U}(h:st[i]?=some (some (k,u)))(hk:k≠.ownD:=by intro z;cases z):Run (fR i) st (kv i k,u) st:=by
 show fR i st=_;unfold fR;rw[h];cases k<;>first|rfl|exact absurd rfl hk
theorem af{i:Nat}{u:U}(h:st[i]?=some (some (.loc,u))):Run (ev Γ (.var i)) st (.loc,u) st:=jH h
theorem aq{i:Nat}{u:U}(h:st[i]?=some (some (.any,u))):Run (ev Γ (.var i)) st (.any,u) st:=jH h
theorem ax{i:Nat}{u:U}(h:st[i]?=some (some (.own,u))):Run (ev Γ (.var i)) st (.bor i,u) st:=jH h
theorem av{u:U}:Run (ev Γ (.cst u)) st (.loc,u) st:=rfl
theorem a_{op:Bop}{a b:E}{x y r:Kd×U}(h1:Run (ev Γ a) st x st1)(h2:Run (ev Γ b) st1 y st2)(h3:aZ [x,y] st2)(h4:opU op x y=some r):Run (ev Γ (.bin op a b)) st r st2 :=
 ae h1 (ae h2 (ae (a9 h3) (cM h4)))
theorem jI{op:Cop}{a b:E}{x y:Kd×U}{c:Bool}(h1:Run (ev Γ a) st x st1)(h2:Run (ev Γ b) st1 y st2)(h3:aZ [x,y] st2)(h4:bo op x.2 y.2=some c):Run (ev Γ (.cmp op a b)) st (.loc,.bl c) st2 :=
 ae h1 (ae h2 (ae (a9 h3) (ae (cM h4) bf)))
theorem aP{a b:E}{x y r:Kd×U}(h1:Run (ev Γ a) st x st1)(h2:Run (ev Γ b) st1 y st2)(h3:aZ [x,y] st2)(h4:gw x y.2=some r):Run (ev Γ (.idx a b)) st r st2 :=
 ae h1 (ae h2 (ae (a9 h3) (cM h4)))
theorem ij:Run (evO Γ []) st none st:=rfl
theorem il{e:E}{k:Kd}{i:Int}(h:Run (ev Γ e) st (k,.int i) st1):Run (evO Γ [e]) st (some i) st1:=ae h rfl
theorem ip{a:E}{lo hi:List E}{x r:Kd×U}{l h:Option Int}(h1:Run (ev Γ a) st x st1)(h2:Run (evO Γ lo) st1 l st2)(h3:Run (evO Γ hi) st2 h st3)(h4:aZ [x] st3)(h5:gU x l h=some r):Run (ev Γ (.slc a lo hi)) st r st3 :=
 ae h1 (ae h2 (ae h3 (ae (a9 h4) (cM h5))))
theorem ag:Run (bB Γ []) st [] st:=rfl
theorem aa{e:E}{es:List E}{r:Kd×U}{rs:List (Kd×U)}(h1:Run (ev Γ e) st r st1)(h2:Run (bB Γ es) st1 rs st2):Run (bB Γ (e::es)) st (r::rs) st2:=ae h1 (ae h2 bf)
theorem bK{f:Bf}{es:List E}{rs:List (Kd×U)}{r:Kd×U}(h1:Run (bB Γ es) st rs st1)(h2:aZ rs st1)(h3:biU f rs=some r):Run (ev Γ (.bi f es)) st r st1:=ae h1 (ae (a9 h2) (cM h3))
theorem nR{f:B2}{es:List E}{rs:List (Kd×U)}{r:Kd×U}(h1:Run (bB Γ es) st rs st1)(h2:aZ rs st1)(h3:pd f rs=some r):Run (ev Γ (.bi2 f es)) st r st1:=ae h1 (ae (a9 h2) (cM h3))
theorem uW{m:Mf}{a:E}{es:List E}{x:Kd×U}{rs:List (Kd×U)}{r:Kd×U}(h0:Run (ev Γ a) st x st1)(h1:Run (bB Γ es) st1 rs st2)(h2:aZ (x::rs) st2)(h3:iE m x.2 rs=some r):Run (ev Γ (.mth m a es)) st r st2:=ae h0 (ae h1 (ae (a9 h2) (cM h3)))
theorem qP{f:Str}{us:List U}{r:Kd×U}(h:Γ f us=some (.ok r))(hr:isAny r.1=false):Run (js Γ f us) st r st:=by
 obtain⟨k,u⟩:=r;show js Γ f us st=_;unfold js;rw[h];cases k<;>first|rfl|cases hr
theorem bF{f:Str}{es:List E}{rs:List (Kd×U)}{r:Kd×U}(h1:Run (bB Γ es) st rs st1)(h2:aZ rs st1)(h3:Γ f (rs.map (·.2))=some (.ok r))(hr:isAny r.1=false:=by exact rfl):Run (ev Γ (.call f es)) st r st1:=ae h1 (ae (a9 h2) (qP h3 hr))
theorem uX{f:Str}{es:List E}{rs:List (Kd×U)}{r:Kd×U}(h1:Run (bB Γ es) st rs st1)(h2:aZ rs st1)(h3:Γ f (rs.map (·.2))=some (.ok r))(hr:rs.all (fun r=>decide (r.1=.loc)||decide (r.1=.any))=true):Run (ev Γ (.calA f es)) st r st1:=ae h1 (ae (a9 h2) (by show nG Γ f rs st1=_;unfold nG;rw[if_pos hr,h3]))
theorem x9{a:E}{r:Kd×U}{u:U}(h1:Run (ev Γ a) st r st1)(h2:Run (lift r) st1 u st2):Run (ev Γ (.frz a)) st (.loc,u) st2:=ae h1 (ae h2 bf)
theorem c8{es:List E}{rs:List (Kd×U)}{us:List U}(h1:Run (bB Γ es) st rs st1)(h2:aZ rs st1)(h3:Run (cK rs) st1 us st2)(h4:us.length<=sizeLine):Run (ev Γ (.tup es)) st (.loc,.tup us) st2:=by
 refine ae h1 (ae (a9 h2) (ae h3 ?_));rw[if_pos h4];exact bf
theorem cU{es:List E}{rs:List (Kd×U)}{us:List U}(h1:Run (bB Γ es) st rs st1)(h2:aZ rs st1)(h3:Run (cK rs) st1 us st2)(h4:us.length<=sizeLine):Run (ev Γ (.lst es)) st (.own,.lst us) st2:=by
 refine ae h1 (ae (a9 h2) (ae h3 ?_));rw[if_pos h4];exact bf
theorem zL{r:Bool}:Run (ev Γ (.dnew r)) st (.own,if r=true then .rdc [] else .dic [] []) st:=rfl
theorem uY{u:U}:Run (lift (.own,u)) st u st:=rfl
theorem aV{u:U}:Run (lift (.loc,u)) st u st:=rfl
theorem dB{u:U}(h:imm u=true):Run (lift (.any,u)) st u st:=by
 show(if imm u=true then(pure u:M U) else M.fail) st=_;rw[if_pos h];rfl
theorem aX:Run (cK []) st [] st:=rfl
theorem aR{r:Kd×U}{rs:List (Kd×U)}{u:U}{us:List U}(h1:Run (lift r) st u st1)(h2:Run (cK rs) st1 us st2):Run (cK (r::rs)) st (u::us) st2:=ae h1 (ae h2 bf)
theorem zM{e:E}{r:Kd×U}(h:Run (ev Γ e) st r st1):Run (gx Γ [e]) st r st1:=h
theorem zN{e e2:E}{es:List E}{k:Kd}{p:Bool}{r:Kd×U}(h:Run (ev Γ e) st (k,.bl p) st1)(h2:if p=true then Run (gx Γ (e2::es)) st1 r st2 else st2=st1/\r=(.loc,.bl false)):Run (gx Γ (e::e2::es)) st r st2:=by
 refine ae h ?_;cases p with
 |true=>exact h2
 |false=>obtain⟨rfl,rfl⟩:=h2;exact bf
theorem Ba{es:List E}{r:Kd×U}(h:Run (gx Γ es) st r st1):Run (ev Γ (.and es)) st r st1:=h
theorem ba{op:Cop}{a b:E}{x y:Kd×U}{c:Bool}(h1:Run (ev Γ a) st x st1)(h2:Run (ev Γ b) st1 y st2)(h3:aZ [x,y] st2)(h4:bo op x.2 y.2=some c):Run (tst Γ (.cmp op a b)) st c st2:=ae h1 (ae h2 (ae (a9 h3) (cM h4)))
theorem Bb{a:E}{c:Bool}(h:Run (tst Γ a) st c st1):Run (tst Γ (.not a)) st (!c) st1:=ae h bf
theorem nS{es:List E}{c:Bool}(h:Run (aM Γ es) st c st1):Run (tst Γ (.and es)) st c st1:=h
theorem uZ{es:List E}{c:Bool}(h:Run (eQ Γ es) st c st1):Run (tst Γ (.or es)) st c st1:=h
theorem gE:Run (aM Γ []) st true st:=rfl
theorem cf{e:E}{c:Bool}(h:Run (tst Γ e) st c st1):Run (aM Γ [e]) st c st1:=h
theorem pP{e e2:E}{es:List E}{c:Bool}(h:Run (tst Γ e) st true st1)(h2:Run (aM Γ (e2::es)) st1 c st2):Run (aM Γ (e::e2::es)) st c st2:=ae h h2
theorem u3{e e2:E}{es:List E}(h:Run (tst Γ e) st false st1):Run (aM Γ (e::e2::es)) st false st1:=ae h bf
theorem nU{e:E}{c:Bool}(h:Run (tst Γ e) st c st1):Run (eQ Γ [e]) st c st1:=h
theorem Bc{e e2:E}{es:List E}(h:Run (tst Γ e) st true st1):Run (eQ Γ (e::e2::es)) st true st1:=ae h bf
theorem u4{e e2:E}{es:List E}{c:Bool}(h:Run (tst Γ e) st false st1)(h2:Run (eQ Γ (e2::es)) st1 c st2):Run (eQ Γ (e::e2::es)) st c st2:=ae h h2
theorem aY{i:Nat}{u:U}:Run (dz i (.own,u)) st () (st.set i (some (.own,u))):=rfl
theorem aQ{i:Nat}{u:U}:Run (dz i (.loc,u)) st () (st.set i (some (.loc,u))):=rfl
theorem jJ{i:Nat}{u:U}:Run (dz i (.any,u)) st () (st.set i (some (.any,u))):=rfl
theorem Bd{i:Nat}{e:E}{r:Kd×U}(h1:Run (ev Γ e) st r st1)(h2:Run (dz i r) st1 () st2):Run (exec Γ (.set i e)) st .nx st2:=ae h1 (ae h2 bf)
theorem Be{i:Nat}{e:E}{k:Kd}{r:Kd×U}{u:U}{us:List U}(h0:∃k' us',st[i]?=some (some (k',.lst us'))/\k'≠.ownD)(h1:Run (ev Γ e) st r st1)(h2:Run (lift r) st1 u st2)(h3:st2[i]?=some (some (k,.lst us)))(hk:k.root=true)(hl:us.length<sizeLine):
  Run (exec Γ (.app i e)) st .nx (st2.set i (some (k,.lst (us++[u])))):=by
 obtain⟨k',us',h0,hn⟩:=h0;refine ae (jH h0 hn) (ae (a:=()) (st1:=st) rfl (ae h1 (ae h2 (ae (a:=()) ?_ bf))));show modS i (uf u) st2=_;unfold modS;rw[h3];simp only[hk,if_true];have e:uf u (.lst us)=some (.lst (us++[u])):=by show(if us.length<sizeLine then _ else _)=_;rw[if_pos hl]
 rw[e]
theorem Bg{e:E}{r:Kd×U}{f:Fl}(h1:Run (ev Γ e) st r st1)(h2:Run (retS r) st1 f st2):Run (exec Γ (.ret e)) st f st2:=ae h1 h2
theorem cV{u:U}:Run (retS (.own,u)) st (.rt .own u) st:=rfl
theorem cW{u:U}:Run (retS (.loc,u)) st (.rt .loc u) st:=rfl
theorem Bh{u:U}(h:imm u=true):Run (retS (.any,u)) st (.rt .loc u) st:=by
 show(if imm u=true then(pure (Fl.rt .loc u):M Fl) else pure (.rt .any u)) st=_;rw[if_pos h];rfl
theorem u5{u:U}(h:imm u=false):Run (retS (.any,u)) st (.rt .any u) st:=by
 show(if imm u=true then(pure (Fl.rt .loc u):M Fl) else pure (.rt .any u)) st=_;rw[h];rfl
theorem u7{j:Nat}{u u0:U}(h:st[j]?=some (some (.own,u))):Run (retS (.bor j,u0)) st (.rt .own u) (st.set j none):=by
 show(match st[j]? with|some (some (.own,u))=>some (Ex.ok (Fl.rt .own u),st.set j none)|_=>none)=_;rw[h]
theorem mC{c:E}{a b:List S}{f:Fl}(h1:Run (tst Γ c) st true st1)(h2:Run (execs Γ a) st1 f st2):Run (exec Γ (.ite c a b)) st f st2:=ae h1 h2
theorem pQ{c:E}{a b:List S}{f:Fl}(h1:Run (tst Γ c) st false st1)(h2:Run (execs Γ b) st1 f st2):Run (exec Γ (.ite c a b)) st f st2:=ae h1 h2
theorem au:Run (execs Γ []) st .nx st:=rfl
theorem g_{s:S}{ss:List S}{f:Fl}(h1:Run (exec Γ s) st .nx st1)(h2:Run (execs Γ ss) st1 f st2):Run (execs Γ (s::ss)) st f st2:=ae h1 h2
theorem si{s:S}{ss:List S}{k:Kd}{u:U}(h1:Run (exec Γ s) st (.rt k u) st1):Run (execs Γ (s::ss)) st (.rt k u) st1:=ae h1 bf
theorem aA{i:Nat}{e:E}{ss:List S}{r:Kd×U}{f:Fl}(h1:Run (ev Γ e) st r st1)(h2:Run (dz i r) st1 () st2)(h3:Run (execs Γ ss) st2 f st3):Run (execs Γ (.set i e::ss)) st f st3:=g_ (Bd h1 h2) h3
theorem iq{i:Nat}{e:E}{ss:List S}{k k':Kd}{r:Kd×U}{u:U}{us us':List U}{f:Fl}(h0:st[i]?=some (some (k',.lst us')))(h1:Run (ev Γ e) st r st1)(h2:Run (lift r) st1 u st2)(h3:st2[i]?=some (some (k,.lst us)))(hk:k.root=true)(hl:us.length<sizeLine)
  (h4:Run (execs Γ ss) (st2.set i (some (k,.lst (us++[u])))) f st3) (hn:k'≠.ownD:=by intro z;cases z):Run (execs Γ (.app i e::ss)) st f st3:=g_ (Be ⟨_,_,h0,hn⟩ h1 h2 h3 hk hl) h4
theorem bp{e:E}{ss:List S}{r:Kd×U}{k:Kd}{u:U}(h1:Run (ev Γ e) st r st1)(h2:Run (retS r) st1 (.rt k u) st2):Run (execs Γ (.ret e::ss)) st (.rt k u) st2:=si (Bg h1 h2)
theorem eZ{c:E}{a b ss:List S}{f:Fl}(h1:Run (tst Γ c) st true st1)(h2:Run (execs Γ a) st1 .nx st2)(h3:Run (execs Γ ss) st2 f st3):Run (execs Γ (.ite c a b::ss)) st f st3:=g_ (mC h1 h2) h3
theorem aB{c:E}{a b ss:List S}{f:Fl}(h1:Run (tst Γ c) st false st1)(h2:Run (execs Γ b) st1 .nx st2)(h3:Run (execs Γ ss) st2 f st3):Run (execs Γ (.ite c a b::ss)) st f st3:=g_ (pQ h1 h2) h3
theorem b0{c:E}{a b ss:List S}{k:Kd}{u:U}(h1:Run (tst Γ c) st true st1)(h2:Run (execs Γ a) st1 (.rt k u) st2):Run (execs Γ (.ite c a b::ss)) st (.rt k u) st2:=si (mC h1 h2)
theorem u9{t:Bool}{is:List Nat}{ik:Ik}{src:List E}{body:List S}{rs xs:List (Kd×U)}{f:Fl}(h1:Run (bB Γ src) st rs st1)(h2:aZ rs st1)(h3:itU ik rs=some xs)(h4:nI rs is body=true)(h5:Run (forM t is (execs Γ body) rs xs) st1 f st2):
  Run (exec Γ (.for_ t is ik src body)) st f st2:=by
 refine ae h1 (ae (a9 h2) (ae (cM h3) ?_));rw[if_pos h4];exact h5
theorem c9{t:Bool}{is:List Nat}{ik:Ik}{src:List E}{body ss:List S}{rs xs:List (Kd×U)}{f:Fl}(h1:Run (bB Γ src) st rs st1)(h2:aZ rs st1)(h3:itU ik rs=some xs)(h4:nI rs is body=true)(h5:Run (forM t is (execs Γ body) rs xs) st1 .nx st2)(h6:Run (execs Γ ss) st2 f st3):
  Run (execs Γ (.for_ t is ik src body::ss)) st f st3:=g_ (u9 h1 h2 h3 h4 h5) h6
theorem qQ{t:Bool}{is:List Nat}{body:M Fl}{rs:List (Kd×U)}(h:aZ rs st):Run (forM t is body rs []) st .nx st:=ae (a9 h) bf
theorem u_{t:Bool}{is:List Nat}{body:M Fl}{rs xs:List (Kd×U)}{x:Kd×U}{f:Fl}(h:aZ rs st)(h1:Run (cy t is x) st () st1)(h2:Run body st1 .nx st2)(h3:Run (forM t is body rs xs) st2 f st3):Run (forM t is body rs (x::xs)) st f st3:=ae (a9 h) (ae h1 (ae h2 h3))
theorem zO{t:Bool}{is:List Nat}{body:M Fl}{rs xs:List (Kd×U)}{x:Kd×U}{k:Kd}{u:U}(h:aZ rs st)(h1:Run (cy t is x) st () st1)(h2:Run body st1 (.rt k u) st2):Run (forM t is body rs (x::xs)) st (.rt k u) st2:=ae (a9 h) (ae h1 (ae h2 bf))
theorem nV{t:Bool}{is:List Nat}{body:M Fl}{rs:List (Kd×U)}(I:List (Kd×U)->aj->Prop)(hs:∀xs st,I xs st->aZ rs st)(step:∀x xs st,I (x::xs) st->∃st1 st2,Run (cy t is x) st () st1/\Run body st1 .nx st2/\I xs st2):
  ∀(xs:List (Kd×U)) (st:aj),I xs st->∃st',Run (forM t is body rs xs) st .nx st'/\I [] st'
 |[],st,h=>⟨st,qQ (hs _ _ h),h⟩
 |x::xs,st,h=>by
  obtain⟨s1,s2,h1,h2,h3⟩:=step x xs st h;obtain⟨s3,h4,h5⟩:=nV I hs step xs s2 h3;exact⟨s3,u_ (hs _ _ h) h1 h2 h4,h5⟩
theorem cG{i:Nat}{r:Kd×U}(h:Run (dz i r) st () st1):Run (cy false [i] r) st () st1:=h
theorem aE{fn:Fn}{us:List U}{k:Kd}{u:U}{st0:aj}(hn:us.length=fn.np)(hk:k=.own\/k=.loc)(hs:start us fn.ns=st0)(h:Run (execs Γ fn.body) st0 (.rt k u) st):bO Γ fn us=some (.ok (k,u)):=by
 subst hs;unfold bO;rw[if_pos hn,show execs Γ fn.body (start us fn.ns)=_ from h];rcases hk with rfl|rfl<;>rfl
theorem nW{k:Nat}{t:Bool}{cond:M Bool}{elt:M (Kd×U)}{src:List (Kd×U)}{acc:List U}(h:aZ src st):Run (bC k t cond elt src [] acc) st acc st:=ae (a9 h) bf
theorem jK{k:Nat}{t:Bool}{cond:M Bool}{elt:M (Kd×U)}{src xs:List (Kd×U)}{x r:Kd×U}{acc us:List U}{u:U}{s1 s2 s3 s4:aj}(h:aZ src st)(h1:Run (cy t (List.range k) x) (List.replicate k none++st) () s1)(h2:Run cond s1 true s2)(h3:Run elt s2 r s3)(h4:Run (lift r) s3 u s4)
  (hl:acc.length<sizeLine) (h5:Run (bC k t cond elt src xs (acc++[u])) (s4.drop k) us st2):Run (bC k t cond elt src (x::xs) acc) st us st2:=by
 refine ae (a9 h) (ae (a:=some u) (st1:=s4.drop k) ?_ ?_)
 ·show inScope k _ st=_;unfold inScope;have hh:Run (cy t (List.range k) x >>= fun _=>cond >>= fun b=>if b=true then(elt >>= fun r=>lift r >>= fun u=>pure (some u)) else pure none) (List.replicate k none++st) (some u) s4 :=
   ae h1 (ae h2 (show Run (elt >>= fun r=>lift r >>= fun u=>pure (some u)) s2 (some u) s4 from ae h3 (ae (f:=fun u=>pure (some u)) h4 rfl)))
  rw[show _=_ from hh]
 ·show Run (if acc.length<sizeLine then bC k t cond elt src xs (acc++[u]) else M.fail) _ _ _;rw[if_pos hl];exact h5
theorem pR{k:Nat}{t:Bool}{cond:M Bool}{elt:M (Kd×U)}{src xs:List (Kd×U)}{x:Kd×U}{acc us:List U}{s1 s2:aj}(h:aZ src st)(h1:Run (cy t (List.range k) x) (List.replicate k none++st) () s1)(h2:Run cond s1 false s2)
  (h5:Run (bC k t cond elt src xs acc) (s2.drop k) us st2):Run (bC k t cond elt src (x::xs) acc) st us st2:=by
 refine ae (a9 h) (ae (a:=none) (st1:=s2.drop k) ?_ h5);show inScope k _ st=_;unfold inScope;have hh:Run (cy t (List.range k) x >>= fun _=>cond >>= fun b=>if b=true then(elt >>= fun r=>lift r >>= fun u=>pure (some u)) else pure none) (List.replicate k none++st) none s2 :=
  ae h1 (ae h2 (show Run (pure none:M (Option U)) s2 none s2 from rfl))
 rw[show _=_ from hh]
theorem bG{k:Nat}{t:Bool}{ik:Ik}{src cond:List E}{e:E}{rs xs:List (Kd×U)}{us:List U}(h1:Run (bB Γ src) st rs st1)(h2:aZ rs st1)(h3:itU ik rs=some xs)(h4:Run (bC k t (aM Γ cond) (ev Γ e) rs xs []) st1 us st2):Run (ev Γ (.comp k t ik src cond e)) st (.own,.lst us) st2 :=
 ae h1 (ae (a9 h2) (ae (cM h3) (ae h4 bf)))
theorem vb{cond:M Bool}{elt:M (Kd×U)}{src:List (Kd×U)}(h:aZ src st)(g:Kd×U->U)(kd:Kd×U->Kd):∀(xs:List (Kd×U)) (acc:List U),acc.length+xs.length<=sizeLine ->
  (∀x∈xs,x.1=.loc\/x.1=.any)->(∀x∈xs,Run cond (some x::st) true (some x::st)/\Run elt (some x::st) (kd x,g x) (some x::st)/\Run (lift (kd x,g x)) (some x::st) (g x) (some x::st))->Run (bC 1 false cond elt src xs acc) st (acc++xs.map g) st
 |[],acc,_,_,_=>by rw[List.map_nil,List.append_nil];exact nW h
 |x::xs,acc,hl,hk,hx=>by
  obtain⟨h1,h2,h3⟩:=hx x (by simp);rw[List.length_cons]at hl;refine jK (s1:=some x::st) (s2:=some x::st) (s3:=some x::st) (s4:=some x::st) h ?_ h1 h2 h3 (by omega) ?_
  ·obtain⟨k,u⟩:=x;rcases hk _ (List.mem_cons_self ..) with z|z<;>(cases z;rfl)
  ·have:=vb h g kd xs (acc++[g x]) (by simp;omega) (fun y hy=>hk y (by simp[hy])) fun y hy=>hx y (by simp[hy]);rw[List.map_cons];simpa using this
theorem jL{cond:M Bool}{elt:M (Kd×U)}{src:List (Kd×U)}(h:aZ src st)(p:Kd×U->Bool)(g:Kd×U->U)(kd:Kd×U->Kd):∀(xs:List (Kd×U)) (acc:List U),acc.length+xs.length<=sizeLine ->
  (∀x∈xs,x.1=.loc\/x.1=.any)->(∀x∈xs,Run cond (some x::st) (p x) (some x::st)/\Run elt (some x::st) (kd x,g x) (some x::st)/\Run (lift (kd x,g x)) (some x::st) (g x) (some x::st))->Run (bC 1 false cond elt src xs acc) st (acc++(xs.filter p).map g) st
 |[],acc,_,_,_=>by rw[List.filter_nil,List.map_nil,List.append_nil];exact nW h
 |x::xs,acc,hl,hk,hx=>by
  obtain⟨h1,h2,h3⟩:=hx x (by simp);rw[List.length_cons]at hl;have ht:Run (cy false (List.range 1) x) (List.replicate 1 none++st) () (some x::st):=by
   obtain⟨k,u⟩:=x;rcases hk _ (List.mem_cons_self ..) with z|z<;>(cases z;rfl)
  cases hp:p x with
  |true =>
   rw[hp]at h1;refine jK (s1:=some x::st) (s2:=some x::st) (s3:=some x::st) (s4:=some x::st) h ht h1 h2 h3 (by omega) ?_;have:=jL h p g kd xs (acc++[g x]) (by simp;omega) (fun y hy=>hk y (by simp[hy])) fun y hy=>hx y (by simp[hy]);rw[List.filter_cons,if_pos hp,List.map_cons];simpa using this
  |false =>
   rw[hp]at h1;refine pR (s1:=some x::st) (s2:=some x::st) h ht h1 ?_;have:=jL h p g kd xs acc (by omega) (fun y hy=>hk y (by simp[hy])) fun y hy=>hx y (by simp[hy]);rw[List.filter_cons,if_neg (by simp[hp])];exact this
end
end TM
namespace TM
open PySem L2
theorem br{k k':Kd}{i j:Int}(h:0<j):opU .mod (k,.int i) (k',.int j)=some (.loc,.int (i % j)):=by show(wK i j).map _=_;rw[wK,if_pos h];rfl
theorem pT{k k':Kd}{i j:Int}(h:0<j/\j<1073741824):opU .fdv (k,.int i) (k',.int j)=some (.loc,.int (i / j)):=by show(wJ i j).map _=_;rw[wJ,if_pos h];rfl
theorem lB{k k':Kd}{i j:Int}(h:(-(2 ^ 64)<i/\i<2 ^ 64)\/(-(2 ^ 64)<j/\j<2 ^ 64)):opU .mul (k,.int i) (k',.int j)=some (.loc,.int (i * j)):=by show(wI i j).map _=_;rw[wI,if_pos h];rfl
theorem lC{k k':Kd}{i j:Int}(h:0<=j/\j<=1000000/\i.natAbs<2 ^ 64):opU .pow (k,.int i) (k',.int j)=some (.loc,.int (i ^ j.toNat)):=by show(wL i j).map _=_;rw[wL,if_pos h];rfl
theorem ef{k k':Kd}{i j:Int}:opU .add (k,.int i) (k',.int j)=some (.loc,.int (i+j)):=rfl
theorem iX{k k':Kd}{i j:Int}:opU .sub (k,.int i) (k',.int j)=some (.loc,.int (i - j)):=rfl
theorem aC{k:Kd}{xs:List U}{i:Int}{u:U}(h:atI xs i=some u):gw (k,.lst xs) (.int i)=some (kE k,u):=by show(atI xs i).map _=_;rw[h];rfl
theorem oK{k:Kd}{xs:List U}{i:Int}{u:U}(h:atI xs i=some u):gw (k,.tup xs) (.int i)=some (kE k,u):=by show(atI xs i).map _=_;rw[h];rfl
theorem qR:Kd.own≠Kd.ownD:=by decide
local macro_rules
 |`(tactic| sizeOf_list_dec)=>`(tactic| first|exact au|apply aA|apply iq|apply bp|exact av|exact af rfl|exact aq rfl|exact ax rfl|apply a_|apply jI|apply aP|apply bK|apply bF|apply uW|apply ba|exact ag|apply aa|apply c8|apply cU|exact aX|apply aR|exact aV|exact uY|(first|exact trivial|exact⟨⟨_,rfl,rfl⟩,trivial⟩|exact⟨⟨_,rfl,rfl⟩,⟨_,rfl,rfl⟩,trivial⟩)|exact ef|exact iX|exact br (by first|omega|decide)|exact pT (by first|omega|decide)|exact lB (by first|omega|decide)|exact lC (by decide)|exact aQ|exact aY|exact jJ|exact cW|exact cV|exact u7 rfl|exact Nat.zero_le _|exact rfl|exact qR)
noncomputable def pU(c k:Int):Int:=((c % 10 ^ 15+1) * 48271+k * k * 16807+k * 7919) % 2147483647 * 69621 % 2147483629
noncomputable def sj:Fn:=⟨"_law_mix",2,3,[.set 2 (.bin .add (.bin .add (.bin .mul (.bin .add (.bin .mod (.var 0) (.bin .pow (.cst (.int 10)) (.cst (.int 15)))) (.cst (.int 1))) (.cst (.int 48271))) (.bin .mul (.bin .mul (.var 1) (.var 1)) (.cst (.int 16807)))) (.bin .mul (.var 1) (.cst (.int 7919)))),.ret (.bin .mod (.bin .mul (.bin .mod (.var 2) (.cst (.int 2147483647))) (.cst (.int 69621))) (.cst (.int 2147483629)))]⟩
theorem xx{Γ:Tab}{c k:Int}(h0:0<=k)(h1:k<2 ^ 63):bO Γ sj [.int c,.int k]=some (.ok (.loc,.int (pU c k))):=by
 apply aE (st0:=[some (.loc,.int c),some (.loc,.int k),none]) rfl (.inr rfl) rfl
 repeat' sizeOf_list_dec
noncomputable def qS:Fn:=⟨"_law_cell",2,3,[.ite (.cmp .lt (.var 1) (.bi .len [.var 0])) [.ret (.idx (.var 0) (.var 1))] [],.set 2 (.cst (.int 0)),.ite (.cmp .gt (.bi .len [.var 0]) (.cst (.int 0))) [.set 2 (.idx (.var 0) (.bin .mod (.var 1) (.bi .len [.var 0])))] [],.ret (.bin .add (.bin .mul (.cst (.int 2)) (.call "_law_mix" [.var 2,.var 1])) (.cst (.int 1)))]⟩
noncomputable def vc(Γ:Tab):Prop:=∀c k:Int,0<=k->k<2 ^ 63->Γ "_law_mix" [.int c,.int k]=some (.ok (.loc,.int (pU c k)))
theorem x_{i j:Int}{c:Bool}(h:decide (i<j)=c):bo .lt (.int i) (.int j)=some c:=by subst h;rfl
theorem kZ{i j:Int}{c:Bool}(h:decide (j<i)=c):bo .gt (.int i) (.int j)=some c:=by subst h;rfl
theorem dS{i j:Int}{c:Bool}(h:(i==j)=c):bo .eq (.int i) (.int j)=some c:=by subst h;rfl
theorem bH{k:Kd}{xs:List U}:biU .len [(k,.lst xs)]=some (.loc,.int (xs.length:Nat)):=rfl
theorem iM{k:Kd}{xs:List U}:biU .len [(k,.tup xs)]=some (.loc,.int (xs.length:Nat)):=rfl
noncomputable def ya(ns:List Int)(k:Nat):Int:=if k<ns.length then(ns[k]?).getD 0 else 2 * pU ((ns[k % ns.length]?).getD 0) k+1
theorem vd{Γ:Tab}(hΓ:vc Γ){ns:List Int}{k:Nat}(hk:k<2 ^ 62):bO Γ qS [.lst (ns.map .int),.int k]=some (.ok (.loc,.int (ya ns k))):=by
 have hm:∀c,Γ "_law_mix" [.int c,.int k]=some (.ok (.loc,.int (pU c k))):=fun c=>hΓ c k (by omega) (by omega);unfold ya;by_cases h:k<ns.length
 ·rw[if_pos h];have ha:atI (ns.map U.int) (k:Int)=some (.int ((ns[k]?).getD 0)):=bq (by simp[h]);apply aE (st0:=[some (.any,.lst (ns.map .int)),some (.loc,.int k),none]) rfl (.inr rfl) rfl;apply b0
  all_goals repeat' (first|exact x_ (by simp[h])|exact aC ha|exact Bh rfl|sizeOf_list_dec)
 ·rw[if_neg h];have hlt:bo .lt (.int k) (.int ((ns.map U.int).length:Nat))=some false:=x_ (by simp;omega);by_cases hz:0<ns.length
  ·have hi:k % ns.length<ns.length:=Nat.mod_lt _ hz;have ha:atI (ns.map U.int) ((k:Int) % ((ns.map U.int).length:Nat))=some (.int ((ns[k % ns.length]?).getD 0)):=by
    rw[List.length_map,show(k:Int) % (ns.length:Nat)=((k % ns.length:Nat):Int) by omega];exact bq (by simp[hi])
   have hp:(0:Int)<((ns.map U.int).length:Nat):=by simp;omega
   apply aE (st0:=[some (.any,.lst (ns.map .int)),some (.loc,.int k),none]) rfl (.inr rfl) rfl;apply aB
   all_goals repeat' (first|exact hlt|sizeOf_list_dec)
   apply eZ
   all_goals repeat' (first|exact kZ (by simp;omega)|exact br hp|exact aC ha|exact hm _|sizeOf_list_dec)
  ·have e:ns=[]:=List.eq_nil_of_length_eq_zero (by omega);subst e;apply aE (st0:=[some (.any,.lst ([].map .int)),some (.loc,.int k),none]) rfl (.inr rfl) rfl;apply aB
   all_goals repeat' (first|exact hlt|sizeOf_list_dec)
   apply aB
   all_goals repeat' (first|exact hm _|sizeOf_list_dec)
noncomputable def mD:Fn:=⟨"_law_drawn",2,5,[.set 2 (.lst []),.set 3 (.bin .fdv (.var 0) (.cst (.int 2))),.for_ false [4] .rng1 [.var 1] [.ite (.cmp .eq (.bin .mod (.var 0) (.cst (.int 2))) (.cst (.int 0))) [.app 2 (.bin .mod (.var 3) (.cst (.int 64))),.set 3 (.bin .fdv (.var 3) (.cst (.int 64)))] [.app 2 (.bin .mod (.bin .fdv (.call "_law_mix" [.var 0,.var 4]) (.cst (.int 7))) (.cst (.int 4096)))]],.ret (.var 2)]⟩
theorem nX(x:Kd×U):itU .rng1 [x]=rY x:=rfl
theorem e_{k:Kd}{n:Nat}(h:n<2 ^ 62):itU .rng1 [(k,.int (n:Nat))]=some ((List.range n).map fun i:Nat=>(Kd.loc,U.int (0+(i:Int)))):=by
 rw[nX,rY,if_pos (by omega),Int.toNat_natCast]
noncomputable def dC(n:Nat)(xs:List (Kd×U)):Prop:=∃i,i<=n/\xs=((List.range n).drop i).map fun i:Nat=>(Kd.loc,U.int (0+(i:Int)))
theorem dC.cons{n:Nat}{x:Kd×U}{xs:List (Kd×U)}(h:dC n (x::xs)):∃i:Nat,i<n/\x=(.loc,.int (i:Nat))/\dC n xs/\i+xs.length+1=n:=by
 obtain⟨i,hi,e⟩:=h;by_cases hin:i<n
 ·rw[List.drop_eq_getElem_cons (by simpa using hin),List.map_cons]at e;cases e;refine⟨i,hin,by simp,⟨i+1,hin,rfl⟩,by simp;omega⟩
 ·rw[List.drop_eq_nil_of_le (by simp;omega)]at e;cases e
theorem dC.all(n:Nat):dC n ((List.range n).map fun i:Nat=>(Kd.loc,U.int (0+(i:Int)))):=⟨0,Nat.zero_le _,rfl⟩
theorem so{Γ:Tab}(hΓ:vc Γ){c:Int}{n:Nat}(hn:n<1000):∃ds:List Int,ds.length=n/\(∀d∈ds,0<=d)/\bO Γ mD [.int c,.int n]=some (.ok (.own,.lst (ds.map .int))):=by
 have hsz:(1000:Nat)<=sizeLine:=by decide
 let I:List (Kd×U)->aj->Prop:=fun xs st=>∃(ds:List Int) (us:List U) (left:Int) (o:Option (Kd×U)),st=[some (.loc,.int c),some (.loc,.int n),some (.own,.lst us),some (.loc,.int left),o]/\us=ds.map .int/\(∀d∈ds,0<=d)/\ds.length+xs.length=n/\dC n xs;have loop:=nV (t:=false) (is:=[4]) (body:=execs Γ [.ite (.cmp .eq (.bin .mod (.var 0) (.cst (.int 2))) (.cst (.int 0)))
    [.app 2 (.bin .mod (.var 3) (.cst (.int 64))),
    .set 3 (.bin .fdv (.var 3) (.cst (.int 64)))]
    [.app 2 (.bin .mod (.bin .fdv (.call "_law_mix" [(.var 0),(.var 4)]) (.cst (.int 7))) (.cst (.int 4096)))]]) (rs:=[(.loc,.int n)]) I (fun _ _ _=>trivial) (fun x xs st hIx=>by
  obtain⟨ds,us,left,o,e,e2,h0,hl,hr⟩:=hIx;subst e;have hul:us.length=ds.length:=by rw[e2];simp
  obtain⟨i,hi,rfl,hr',hlen⟩:=hr.cons;have hm:Γ "_law_mix" [.int c,.int i]=some (.ok (.loc,.int (pU c i))):=hΓ c i (by omega) (by omega);rw[List.length_cons]at hl;by_cases hc:c % 2=0
  ·refine⟨[some (.loc,.int c),some (.loc,.int n),some (.own,.lst us),some (.loc,.int left),some (.loc,.int i)],[some (.loc,.int c),some (.loc,.int n),some (.own,.lst (us++[.int (left % 64)])),some (.loc,.int (left / 64)),some (.loc,.int i)],aQ,?_,⟨ds++[left % 64],_,left / 64,_,rfl,by simp[e2],?_,by simp;omega,hr'⟩⟩
   ·apply eZ
    all_goals repeat' (first|exact dS (by simp[hc])|exact(by rw[hul];omega)|sizeOf_list_dec)
   ·intro d hd;rcases List.mem_append.mp hd with z|z
    ·exact h0 d z
    ·rw[List.mem_singleton.mp z];omega
  ·refine⟨[some (.loc,.int c),some (.loc,.int n),some (.own,.lst us),some (.loc,.int left),some (.loc,.int i)],[some (.loc,.int c),some (.loc,.int n),some (.own,.lst (us++[.int (pU c i / 7 % 4096)])),some (.loc,.int left),some (.loc,.int i)],aQ,?_,⟨ds++[pU c i / 7 % 4096],_,left,_,rfl,by simp[e2],?_,by simp;omega,hr'⟩⟩
   ·apply aB
    all_goals repeat' (first|exact dS (by simp[hc])|exact hm|exact(by rw[hul];omega)|sizeOf_list_dec)
   ·intro d hd;rcases List.mem_append.mp hd with z|z
    ·exact h0 d z
    ·rw[List.mem_singleton.mp z];omega)
 obtain⟨st',hrun,ds,us,left,o,e,e2,h0,hl,_⟩:=loop ((List.range n).map fun i:Nat=>(Kd.loc,U.int (0+(i:Int)))) [some (.loc,.int c),some (.loc,.int n),some (.own,.lst []),some (.loc,.int (c / 2)),none] ⟨[],[],c / 2,none,rfl,rfl,by simp,by simp,dC.all n⟩;subst e e2;refine⟨ds,by simpa using hl,h0,?_⟩;apply aE (st0:=[some (.loc,.int c),some (.loc,.int n),none,none,none]) rfl (.inl rfl) rfl
 repeat' sizeOf_list_dec
 have hit:=e_ (k:=.loc) (n:=n) (by omega);refine' c9 (rs:=[(.loc,.int n)]) (st1:=[some (.loc,.int c),some (.loc,.int n),some (.own,.lst []),some (.loc,.int (c / 2)),none]) _ trivial hit rfl hrun _
 all_goals repeat' sizeOf_list_dec
end TM
local macro_rules
 |`(tactic| sizeOf_list_dec)=>`(tactic| first|exact TM.au|apply TM.aA|apply TM.iq|apply TM.bp|exact TM.av|exact TM.af rfl|exact TM.aq rfl|exact TM.ax rfl|apply TM.a_|apply TM.jI|apply TM.aP|apply TM.bK|apply TM.bF|apply TM.uW|apply TM.ba|exact TM.ag|apply TM.aa|apply TM.c8|apply TM.cU|exact TM.aX|apply TM.aR|exact TM.aV|exact TM.uY|(first|exact trivial|exact⟨⟨_,rfl,rfl⟩,trivial⟩|exact⟨⟨_,rfl,rfl⟩,⟨_,rfl,rfl⟩,trivial⟩)|exact TM.ef|exact TM.iX|exact TM.br (by first|omega|decide)|exact TM.pT (by first|omega|decide)|exact TM.lB (by first|omega|decide)|exact TM.lC (by decide)|exact TM.aQ|exact TM.aY|exact TM.jJ|exact TM.cW|exact TM.cV|exact TM.u7 rfl|exact Nat.zero_le _|exact rfl|exact TM.qR)
namespace TM
open PySem L2 W01
theorem qT{k:Kd}{z:Int}(h0:0<=z)(h:z<2 ^ 62):itU .rng1 [(k,.int z)]=some ((List.range z.toNat).map fun i:Nat=>(Kd.loc,U.int (0+(i:Int)))):=by
 rw[nX,rY,if_pos (by omega)]
theorem ja{k:Kd}{x:Str}{i:Int}{c:Nat}(hx:x.length<=sizeLine)(h:atI x.cps.toList i=some c):gw (k,.str x) (.int i)=some (.loc,.str (W01.one c)):=by
 simp only[gw];rw[if_pos hx,h];rfl
theorem jM:small.length<=sizeLine:=by decide
theorem bb{ds:List Int}{i:Nat}(h:i<ds.length):atI (ds.map U.int) (i:Int)=some (.int ((ds[i]?).getD 0)):=bq (by simp[h])
theorem cO:∀(ss:List Str),strsOf (ss.map U.str)=some ss
 |[]=>rfl
 |s::ss=>by show(strsOf (ss.map U.str)).map (s::·)=_;rw[cO ss];rfl
noncomputable def mE(md:E):Fn:=⟨"_law_name",2,6,[.set 2 (.cst (.str "abcdefghijklmnopqrstuvwxyz")),.set 3 (.mth .join (.cst (.str "")) [.comp 1 false .rng1 [.bin .add (.cst (.int 1)) (.bin .mod (.idx (.var 0) (.cst (.int 0))) (.cst (.int 8)))] [] (.idx (.var 3) (.bin .mod (.idx (.var 1) (.bin .add (.cst (.int 4)) (.var 0))) (.cst (.int 26))))]),.ite (.cmp .gt (.bi .len [.var 1]) (.cst (.int 0))) [.set 4 (.idx (.mth .split (.idx (.var 1) (.bin .mod (.idx (.var 0) (.cst (.int 1))) (.bi .len [.var 1]))) [.cst (.str "/")]) (.cst (.int 0))),.ite (.cmp .eq (.bin .mod (.idx (.var 0) (.cst (.int 2))) (.cst (.int 4))) (.cst (.int 1))) [.set 3 (.slc (.bin .add (.var 4) (.var 3)) [] [.cst (.int 8)])] [],.ite (.cmp .eq (.bin .mod (.idx (.var 0) (.cst (.int 2))) (.cst (.int 4))) (.cst (.int 2))) [.set 3 (.bin .add (.bin .add (.var 4) (.cst (.str "/"))) (.bi .str [.bin .add (.cst (.int 2)) (.bin .mod (.idx (.var 0) (.cst (.int 3))) md)]))] []] [],.set 5 (.bin .add (.lst [.var 3]) (.comp 1 false .rng1 [.cst (.int 40)] [] (.bin .add (.idx (.var 3) (.bin .fdv (.var 0) (.cst (.int 26)))) (.idx (.var 3) (.bin .mod (.var 0) (.cst (.int 26))))))),.ret (.idx (.comp 1 false .seq [.var 5] [.cmp .notin (.var 0) (.var 2)] (.var 0)) (.cst (.int 0)))]⟩
noncomputable def xy(md:E):Prop:=∀(Γ:Tab) (ds:List Int),ds.length=12->(∀d∈ds,0<=d)->∃m:Int,0<m/\m<=98/\∀o1 o2 o3 o4 o5,Run (ev Γ md) [some (.any,.lst (ds.map .int)),o1,o2,o3,o4,o5] (.loc,.int m) [some (.any,.lst (ds.map .int)),o1,o2,o3,o4,o5]
noncomputable abbrev Bi:E:=.cst (.int 98)
theorem xA:xy Bi:=fun _ _ _ _=>⟨98,by decide,by decide,fun _ _ _ _ _=>av⟩
section
variable{Γ:Tab}{ds:List Int}
noncomputable def dd(ds:List Int)(i:Nat):Int:=(ds[i]?).getD 0
theorem c_(h0:∀d∈ds,0<=d)(i:Nat):0<=dd ds i:=by
 unfold dd;cases e:ds[i]? with
 |none=>simp
 |some d=>exact h0 d (List.mem_of_getElem? e)
theorem mF(hd:ds.length=12)(h0:∀d∈ds,0<=d){o1 o3 o4 o5:Option (Kd×U)}:∃cs:List Nat,(∀c∈cs,low c=true)/\1<=cs.length/\cs.length<=8 /\
  Run (ev Γ (.comp 1 false .rng1 [.bin .add (.cst (.int 1)) (.bin .mod (.idx (.var 0) (.cst (.int 0))) (.cst (.int 8)))] [] (.idx (.var 3) (.bin .mod (.idx (.var 1) (.bin .add (.cst (.int 4)) (.var 0))) (.cst (.int 26))))))
   [some (.any,.lst (ds.map .int)),o1,some (.loc,.str small),o3,o4,o5] (.own,.lst ((cs.map W01.one).map .str)) [some (.any,.lst (ds.map .int)),o1,some (.loc,.str small),o3,o4,o5]:=by
 have hz:=c_ h0 0;let n:=(1+dd ds 0 % 8).toNat;have hn:n<=8/\1<=n:=by show(1+dd ds 0 % 8).toNat<=8/\1<=(1+dd ds 0 % 8).toNat;omega
 let f:Nat->Nat:=fun i=>97+(dd ds (4+i) % 26).toNat;refine⟨(List.range n).map f,?_,by simp;exact hn.2,by simp;exact hn.1,?_⟩
 ·intro c hc;obtain⟨i,_,rfl⟩:=List.mem_map.mp hc;have:=c_ h0 (4+i);exact pM (by omega)
 ·have hx:Run (bC 1 false (aM Γ []) (ev Γ (.idx (.var 3) (.bin .mod (.idx (.var 1) (.bin .add (.cst (.int 4)) (.var 0))) (.cst (.int 26))))) [(.loc,.int (1+dd ds 0 % 8))] ((List.range n).map fun i:Nat=>(Kd.loc,U.int (0+(i:Int)))) [])
    [some (.any,.lst (ds.map .int)),o1,some (.loc,.str small),o3,o4,o5] ([]++((List.range n).map fun i:Nat=>(Kd.loc,U.int (0+(i:Int)))).map fun x=>match x.2 with|.int j=>.str (W01.one (97+(dd ds (4+j.toNat) % 26).toNat))|u=>u) [some (.any,.lst (ds.map .int)),o1,some (.loc,.str small),o3,o4,o5]:=by
   have h8:(8:Nat)<=sizeLine:=by decide
   refine vb (by exact trivial) _ (fun _=>.loc) _ _ (by simp;omega) (fun x hx=>?_) (fun x hx=>?_)
   ·obtain⟨i,_,rfl⟩:=List.mem_map.mp hx;exact .inl rfl
   ·obtain⟨i,hi,rfl⟩:=List.mem_map.mp hx;have hi':i<n:=by simpa using hi
    have ha:atI (ds.map U.int) (4+(0+(i:Int)))=some (.int (dd ds (4+i))):=by
     rw[show(4+(0+(i:Int)))=((4+i:Nat):Int) by omega];exact bb (by omega)
    have hnn:=c_ h0 (4+i);have hs:=jF (k:=dd ds (4+i) % 26) (by omega) (by omega);refine⟨gE,?_,aV⟩;simp only[Int.zero_add,Int.toNat_natCast];rw[Int.zero_add]at ha
    repeat' (first|exact aC ha|exact ja jM hs|sizeOf_list_dec)
  have e:((List.range n).map f).map W01.one=(List.range n).map fun i=>W01.one (97+(dd ds (4+i) % 26).toNat):=by rw[List.map_map];rfl
  rw[e];have e2:([]++((List.range n).map fun i:Nat=>(Kd.loc,U.int (0+(i:Int)))).map fun x=>match x.2 with|.int j=>U.str (W01.one (97+(dd ds (4+j.toNat) % 26).toNat))|u=>u)=((List.range n).map fun i=>W01.one (97+(dd ds (4+i) % 26).toNat)).map U.str:=by
   rw[List.nil_append,List.map_map,List.map_map];apply List.map_congr_left;intro i _;simp
  rw[e2]at hx;refine bG (rs:=[(.loc,.int (1+dd ds 0 % 8))]) ?_ trivial (qT (by omega) (by omega)) hx
  repeat' (first|exact aC (bb (i:=0) (by omega))|sizeOf_list_dec)
theorem iN{k k':Kd}{x y:Str}(h:x.length+y.length<=sizeLine):opU .add (k,.str x) (k',.str y)=some (.loc,.str (x++y)):=by
 simp only[opU,rW];rw[if_pos h]
theorem dE:∀(ss:List Str) (n:Nat),b9 n (ss.map U.str)=true
 |[],n=>by simp[b9]
 |s::ss,n=>by simp only[List.map_cons,b9,dE ss n,Bool.and_true];cases n<;>rfl
theorem nY(x:Str):∀(ss:List Str),((ss.map U.str).any fun y=>bj y (.str x))=decide (x∈ss)
 |[]=>by simp
 |s::ss=>by
  rw[List.map_cons,List.any_cons,nY x ss];have:bj (.str s) (.str x)=decide (x=s):=by
   simp only[bj];by_cases h:x=s
   ·subst h;simp
   ·have h':s≠x:=fun z=>h z.symm;simp[h,h']
  rw[this,Bool.eq_iff_iff];simp
theorem xB(x:Str)(ss:List Str):inU (.str x) (ss.map U.str)=some (decide (x∈ss)):=by
 unfold inU;rw[if_pos ⟨by rfl,dE ss 50⟩,nY]
theorem jN{x:Str}{ss:List Str}:bo .notin (.str x) (.lst (ss.map U.str))=some (decide (x∉ss)):=by
 show(inU (.str x) (ss.map U.str)).map (!·)=_;rw[xB];simp
theorem nZ{o0 o1 o3 o4 o5:Option (Kd×U)}:Run (ev Γ (.comp 1 false .rng1 [.cst (.int 40)] [] (.bin .add (.idx (.var 3) (.bin .fdv (.var 0) (.cst (.int 26)))) (.idx (.var 3) (.bin .mod (.var 0) (.cst (.int 26)))))))
   [o0,o1,some (.loc,.str small),o3,o4,o5] (.own,.lst (bJ.map .str)) [o0,o1,some (.loc,.str small),o3,o4,o5]:=by
 have h8:(100:Nat)<=sizeLine:=by decide
 have hx:Run (bC 1 false (aM Γ []) (ev Γ (.bin .add (.idx (.var 3) (.bin .fdv (.var 0) (.cst (.int 26)))) (.idx (.var 3) (.bin .mod (.var 0) (.cst (.int 26)))))) [(.loc,.int 40)] ((List.range 40).map fun i:Nat=>(Kd.loc,U.int (0+(i:Int)))) [])
   [o0,o1,some (.loc,.str small),o3,o4,o5] ([]++((List.range 40).map fun i:Nat=>(Kd.loc,U.int (0+(i:Int)))).map fun x=>match x.2 with|.int j=>.str (kY j.toNat)|u=>u) [o0,o1,some (.loc,.str small),o3,o4,o5]:=by
  refine vb (by exact trivial) _ (fun _=>.loc) _ _ (by simp;omega) (fun x hx=>?_) (fun x hx=>?_)
  ·obtain⟨i,_,rfl⟩:=List.mem_map.mp hx;exact .inl rfl
  ·obtain⟨i,hi,rfl⟩:=List.mem_map.mp hx;have hi':i<40:=by simpa using hi
   refine⟨gE,?_,aV⟩;simp only[Int.zero_add,Int.toNat_natCast];have h1:=jF (k:=(i:Int) / 26) (by omega) (by omega);have h2:=jF (k:=(i:Int) % 26) (by omega) (by omega);have e1:((i:Int) / 26).toNat=i / 26:=by omega
   have e2:((i:Int) % 26).toNat=i % 26:=by omega
   rw[e1]at h1;rw[e2]at h2;have ad:opU .add (.loc,.str (W01.one (97+i / 26))) (.loc,.str (W01.one (97+i % 26)))=some (.loc,.str (kY i)):=by
    have:=iN (k:=.loc) (k':=.loc) (x:=W01.one (97+i / 26)) (y:=W01.one (97+i % 26)) (by show 1+1<=sizeLine;omega);rw[this];rfl
   repeat' (first|exact ja jM h1|exact ja jM h2|exact ad|sizeOf_list_dec)
 have e2:([]++((List.range 40).map fun i:Nat=>(Kd.loc,U.int (0+(i:Int)))).map fun x=>match x.2 with|.int j=>U.str (kY j.toNat)|u=>u)=bJ.map U.str:=by
  rw[List.nil_append,List.map_map,bJ,List.map_map];apply List.map_congr_left;intro i _;simp
 rw[e2]at hx;exact bG (rs:=[(.loc,.int 40)]) (by repeat' sizeOf_list_dec) trivial (qT (by omega) (by omega)) hx
theorem sr{names ts:List Str}(hl:ts.length<=1000){o0 o2 o3 o4:Option (Kd×U)}:Run (ev Γ (.comp 1 false .seq [.var 5] [.cmp .notin (.var 0) (.var 2)] (.var 0)))
   [o0,some (.any,.lst (names.map .str)),o2,o3,o4,some (.own,.lst (ts.map .str))] (.own,.lst ((ts.filter fun x=>decide (x∉names)).map .str)) [o0,some (.any,.lst (names.map .str)),o2,o3,o4,some (.own,.lst (ts.map .str))]:=by
 have h8:(1000:Nat)<=sizeLine:=by decide
 have hx:=jL (cond:=aM Γ [.cmp .notin (.var 0) (.var 2)]) (elt:=ev Γ (.var 0)) (src:=[(.bor 5,.lst (ts.map .str))]) (st:=[o0,some (.any,.lst (names.map .str)),o2,o3,o4,some (.own,.lst (ts.map .str))]) ⟨⟨.own,rfl,rfl⟩,trivial⟩
  (fun x=>match x.2 with|.str y=>decide (y∉names)|_=>false) (fun x=>x.2) (fun _=>.loc) ((ts.map U.str).map fun u=>(kE (.bor 5),u)) [] (by simp;omega) (fun x hx=>by obtain⟨u,_,rfl⟩:=List.mem_map.mp hx;exact .inl rfl) (fun x hx=>by
   obtain⟨u,hu,rfl⟩:=List.mem_map.mp hx;obtain⟨y,_,rfl⟩:=List.mem_map.mp hu;refine⟨cf ?_,af rfl,aV⟩
   repeat' (first|exact jN|sizeOf_list_dec))
 have e:([]++(((ts.map U.str).map fun u=>(kE (.bor 5),u)).filter fun x=>match x.2 with|.str y=>decide (y∉names)|_=>false).map fun x=>x.2)=(ts.filter fun x=>decide (x∉names)).map U.str:=by
  rw[List.nil_append,List.filter_map,List.filter_map,List.map_map,List.map_map];rfl
 rw[e]at hx;exact bG (rs:=[(.bor 5,.lst (ts.map .str))]) (by repeat' sizeOf_list_dec) ⟨⟨.own,rfl,rfl⟩,trivial⟩ rfl hx
end
end TM
namespace TM
open PySem L2 W01
section
variable{Γ:Tab}{ds:List Int}
theorem su{names:List Str}(hn:names.length<40){x0:Str}(hx0:b8 x0.cps.toList){o0 o4:Option (Kd×U)}:∃x st',b8 x.cps.toList/\x∉names /\
  Run (execs Γ [.set 5 (.bin .add (.lst [.var 3]) (.comp 1 false .rng1 [.cst (.int 40)] [] (.bin .add (.idx (.var 3) (.bin .fdv (.var 0) (.cst (.int 26)))) (.idx (.var 3) (.bin .mod (.var 0) (.cst (.int 26))))))),
  .ret (.idx (.comp 1 false .seq [(.var 5)] [(.cmp .notin (.var 0) (.var 2))] (.var 0)) (.cst (.int 0)))]) [o0,some (.any,.lst (names.map .str)),some (.loc,.str small),some (.loc,.str x0),o4,none] (.rt .loc (.str x)) st':=by
 have h8:(1000:Nat)<=sizeLine:=by decide
 obtain⟨y,hy,hyn⟩:=pO names hn;have hne:(x0::bJ).filter (fun x=>decide (x∉names))≠[]:=fun z=>by
  have:y∈(x0::bJ).filter (fun x=>decide (x∉names)):=List.mem_filter.mpr ⟨List.mem_cons_of_mem _ hy,by simpa using hyn⟩;rw[z]at this;cases this
 cases e:(x0::bJ).filter (fun x=>decide (x∉names)) with
 |nil=>exact absurd e hne
 |cons x rest =>
  have hx:x∈(x0::bJ).filter (fun x=>decide (x∉names)):=by rw[e];simp
  obtain⟨hx1,hx2⟩:=List.mem_filter.mp hx;have fr:=sr (Γ:=Γ) (names:=names) (ts:=x0::bJ) (by simp[bJ]) (o0:=o0) (o2:=some (.loc,.str small)) (o3:=some (.loc,.str x0)) (o4:=o4);rw[e]at fr;have ad:opU .add (.own,.lst [.str x0]) (.own,.lst (bJ.map U.str))=some (.own,.lst ((x0::bJ).map U.str)):=by
   simp only[opU,rW];rw[if_pos ⟨by simp[bJ];omega,rfl,rfl⟩];rfl
  refine⟨x,[o0,some (.any,.lst (names.map .str)),some (.loc,.str small),some (.loc,.str x0),o4,some (.own,.lst ((x0::bJ).map .str))],?_,by simpa using hx2,?_⟩
  ·rcases List.mem_cons.mp hx1 with rfl|h
   ·exact hx0
   ·obtain⟨k,hk,rfl⟩:=List.mem_map.mp h;exact .inl (pN (by simpa using hk))
  ·refine aA (st2:=[o0,some (.any,.lst (names.map .str)),some (.loc,.str small),some (.loc,.str x0),o4,some (.own,.lst ((x0::bJ).map .str))]) (a_ (x:=(.own,.lst [.str x0])) (cU (aa (af rfl) ag) (by(first|exact trivial|exact⟨⟨_,rfl,rfl⟩,trivial⟩|exact⟨⟨_,rfl,rfl⟩,⟨_,rfl,rfl⟩,trivial⟩)) (aR aV aX) (by show 1<=sizeLine;omega)) nZ trivial ad) aY ?_;refine bp (aP fr av trivial (aC (by show atI _ ((0:Nat):Int)=_;exact bq rfl))) cW
theorem vf{md:E}(hmd:xy md)(hd:ds.length=12)(h0:∀d∈ds,0<=d){names:List Str}(hn:names.length<40)(hw:∀x∈names,b8 x.cps.toList):
  ∃x,b8 x.cps.toList/\x∉names/\bO Γ (mE md) [.lst (ds.map .int),.lst (names.map .str)]=some (.ok (.loc,.str x)):=by
 obtain⟨m,hm0,hm9,hmr⟩:=hmd Γ ds hd h0;have h8:(1000:Nat)<=sizeLine:=by decide
 obtain⟨cs,hlow,hc1,hc8,hcomp⟩:=mF (Γ:=Γ) hd h0 (o1:=some (.any,.lst (names.map .str))) (o3:=none) (o4:=none) (o5:=none);have hjoin:iE .join (.str "") [(.own,.lst ((cs.map W01.one).map U.str))]=some (.loc,.str (Txt.join Str.empty (cs.map W01.one))):=by
  show(strsOf ((cs.map W01.one).map U.str)).bind _=_;rw[cO];show(if JoinOk Str.empty (cs.map W01.one)=true then _ else _)=_;rw[if_pos (nQ cs (by omega))];rfl
 let x0:Str:=Txt.join Str.empty (cs.map W01.one);have hx0:x0.cps.toList=cs:=join_ones cs;have hs0:d6 x0.cps.toList=true:=by rw[hx0];exact ig hlow hc1 hc8
 have hlen0:x0.length<=8:=by rw[len_list,hx0];exact hc8
 have head:∀{f:Fl} {st':aj} (ss:List S),Run (execs Γ ss) [some (.any,.lst (ds.map .int)),some (.any,.lst (names.map .str)),some (.loc,.str small),some (.loc,.str x0),none,none] f st' ->
   Run (execs Γ (.set 2 (.cst (.str "abcdefghijklmnopqrstuvwxyz"))::.set 3 (.mth .join (.cst (.str "")) [.comp 1 false .rng1 [.bin .add (.cst (.int 1)) (.bin .mod (.idx (.var 0) (.cst (.int 0))) (.cst (.int 8)))] [] (.idx (.var 3) (.bin .mod (.idx (.var 1) (.bin .add (.cst (.int 4)) (.var 0))) (.cst (.int 26))))])::ss))
    [some (.any,.lst (ds.map .int)),some (.any,.lst (names.map .str)),none,none,none,none] f st':=fun ss h=>aA (r:=(.loc,.str small)) av aQ (aA (uW av (aa hcomp ag) (by(first|exact trivial|exact⟨⟨_,rfl,rfl⟩,trivial⟩|exact⟨⟨_,rfl,rfl⟩,⟨_,rfl,rfl⟩,trivial⟩)) hjoin) aQ h)
 have mid:∀(x1:Str) (o4:Option (Kd×U)),b8 x1.cps.toList->∃x st',b8 x.cps.toList/\x∉names/\Run (execs Γ [.set 5 (.bin .add (.lst [.var 3]) (.comp 1 false .rng1 [.cst (.int 40)] [] (.bin .add (.idx (.var 3) (.bin .fdv (.var 0) (.cst (.int 26)))) (.idx (.var 3) (.bin .mod (.var 0) (.cst (.int 26))))))),
  .ret (.idx (.comp 1 false .seq [(.var 5)] [(.cmp .notin (.var 0) (.var 2))] (.var 0)) (.cst (.int 0)))]) [some (.any,.lst (ds.map .int)),some (.any,.lst (names.map .str)),some (.loc,.str small),some (.loc,.str x1),o4,none] (.rt .loc (.str x)) st':=fun x1 o4 h1=>su hn h1
 by_cases hz:0<names.length
 ·
  have hi:(dd ds 1).toNat % names.length<names.length:=Nat.mod_lt _ hz;let nm:=names[(dd ds 1).toNat % names.length]'hi;have hnm:b8 nm.cps.toList:=hw _ (List.getElem_mem hi);obtain⟨y,r,hsp,hst⟩:=hnm.B1;have hyl:y.length<=8:=by rw[len_list];exact((cu _).mp hst).2.1
  have hnl:nm.length<=11:=by rw[len_list];exact hnm.len.2
  have hd1:=c_ h0 1;have hat:atI (names.map U.str) (dd ds 1 % ((names.map U.str).length:Nat))=some (.str nm):=by
   rw[List.length_map,show dd ds 1 % (names.length:Nat)=(((dd ds 1).toNat % names.length:Nat):Int) by rw[Int.natCast_emod,Int.toNat_of_nonneg hd1]];exact bq (by simp[hi];rfl)
  have hsplit:iE .split (.str nm) [(.loc,.str "/")]=some (.own,.lst ((y::r).map U.str)):=by
   show(if (Str.length "/"==0)=false/\nm.length+2<=sizeLine then some (Kd.own,U.lst ((Txt.split nm "/").map .str)) else none)=_;rw[if_pos ⟨by decide,by omega⟩,show("/":Str)=xR from rfl,hsp]
  have hp:(0:Int)<((names.map U.str).length:Nat):=by simp;omega
  have hix:gw (.own,.lst ((y::r).map U.str)) (.int 0)=some (.loc,.str y):=aC (by show atI _ ((0:Nat):Int)=_;exact bq rfl);have hd2:=c_ h0 2;have hd3:=c_ h0 3;have i1:atI (ds.map U.int) 1=some (.int (dd ds 1)):=bb (i:=1) (by omega);have i2:atI (ds.map U.int) 2=some (.int (dd ds 2)):=bb (i:=2) (by omega);have i3:atI (ds.map U.int) 3=some (.int (dd ds 3)):=bb (i:=3) (by omega);have go:∀x1:Str,b8 x1.cps.toList->Run (execs Γ [.ite (.cmp .eq (.bin .mod (.idx (.var 0) (.cst (.int 2))) (.cst (.int 4))) (.cst (.int 1)))
    [.set 3 (.slc (.bin .add (.var 4) (.var 3)) [] [.cst (.int 8)])]
    [],
   .ite (.cmp .eq (.bin .mod (.idx (.var 0) (.cst (.int 2))) (.cst (.int 4))) (.cst (.int 2)))
    [.set 3 (.bin .add (.bin .add (.var 4) (.cst (.str "/"))) (.bi .str [.bin .add (.cst (.int 2)) (.bin .mod (.idx (.var 0) (.cst (.int 3))) md)]))]
    []]) [some (.any,.lst (ds.map .int)),some (.any,.lst (names.map .str)),some (.loc,.str small),some (.loc,.str x0),some (.loc,.str y),none] .nx [some (.any,.lst (ds.map .int)),some (.any,.lst (names.map .str)),some (.loc,.str small),some (.loc,.str x1),some (.loc,.str y),none] ->
    ∃x,b8 x.cps.toList/\x∉names/\bO Γ (mE md) [.lst (ds.map .int),.lst (names.map .str)]=some (.ok (.loc,.str x)):=fun x1 h1 hr=>by
   obtain⟨x,st',a1,a2,a3⟩:=mid x1 (some (.loc,.str y)) h1;refine⟨x,a1,a2,aE (st0:=[some (.any,.lst (ds.map .int)),some (.any,.lst (names.map .str)),none,none,none,none]) rfl (.inr rfl) rfl (head _ (eZ (st1:=[some (.any,.lst (ds.map .int)),some (.any,.lst (names.map .str)),some (.loc,.str small),some (.loc,.str x0),none,none]) ?_ (aA (r:=(.loc,.str y)) (st1:=[some (.any,.lst (ds.map .int)),some (.any,.lst (names.map .str)),some (.loc,.str small),some (.loc,.str x0),none,none]) ?_ aQ hr) a3))⟩
   ·repeat' (first|exact kZ (by simp;omega)|sizeOf_list_dec)
   ·repeat' (first|exact br hp|exact aC hat|exact aC i1|exact hsplit|exact hix|sizeOf_list_dec)
  have t1:∀{c:Bool} {o3 o4:Option (Kd×U)},(dd ds 2 % 4==1)=c->Run (tst Γ (.cmp .eq (.bin .mod (.idx (.var 0) (.cst (.int 2))) (.cst (.int 4))) (.cst (.int 1)))) [some (.any,.lst (ds.map .int)),some (.any,.lst (names.map .str)),some (.loc,.str small),o3,o4,none] c [some (.any,.lst (ds.map .int)),some (.any,.lst (names.map .str)),some (.loc,.str small),o3,o4,none]:=fun hc=>by
   repeat' (first|exact aC i2|exact dS hc|sizeOf_list_dec)
  have t2:∀{c:Bool} {o3 o4:Option (Kd×U)},(dd ds 2 % 4==2)=c->Run (tst Γ (.cmp .eq (.bin .mod (.idx (.var 0) (.cst (.int 2))) (.cst (.int 4))) (.cst (.int 2)))) [some (.any,.lst (ds.map .int)),some (.any,.lst (names.map .str)),some (.loc,.str small),o3,o4,none] c [some (.any,.lst (ds.map .int)),some (.any,.lst (names.map .str)),some (.loc,.str small),o3,o4,none]:=fun hc=>by
   repeat' (first|exact aC i2|exact dS hc|sizeOf_list_dec)
  by_cases hw1:dd ds 2 % 4=1
  ·have hyx:y.length+x0.length<=sizeLine:=by omega
   have hsl:gU (.loc,.str (y++x0)) none (some 8)=some (.loc,.str (PySem.StrLaws.sliceText (y++x0) none (some 8))):=by
    simp only[gU];rw[if_pos (by rw[len_list];show(y.cps++x0.cps).toList.length<=_;rw[Array.toList_append,List.length_append,<-len_list,<-len_list];omega)]
   refine go (PySem.StrLaws.sliceText (y++x0) none (some 8)) (.inl ?_) ?_
   ·have:=zK (y++x0) 8;rw[show((8:Nat):Int)=8 from rfl]at this;rw[this];show d6 ((y.cps++x0.cps).toList.take 8)=true;rw[Array.toList_append];exact sg hst (by rw[hx0];exact hlow)
   ·refine eZ (t1 (by simp[hw1])) (aA (ip (a_ (af rfl) (af rfl) trivial (iN hyx)) ij (il av) trivial hsl) aQ au) (aB (t2 (by simp[hw1])) au au)
  ·by_cases hw2:dd ds 2 % 4=2
   ·have hm1:=Int.emod_nonneg (dd ds 3) (show m≠0 by omega);have hm2:=Int.emod_lt_of_pos (dd ds 3) hm0;have hk0:0<=2+dd ds 3 % m:=by omega
    have hk9:2+dd ds 3 % m<=99:=by omega
    have hnl2:=kX hk0 hk9;have hstr:biU .str [(.loc,.int (2+dd ds 3 % m))]=some (.loc,.str (rF (2+dd ds 3 % m))):=by
     simp only[biU,fv,wO];rw[if_pos (by
      have:(2+dd ds 3 % m).natAbs<2 ^ 7:=by omega
      have h2:(2+dd ds 3 % m).natAbs≠0:=by omega
      have:=(Nat.log2_lt h2).mpr this;omega)]
     rfl
    have hsl1:(y++("/":Str)).length=y.length+1:=by rw[len_list,len_list];show(y.cps++_).toList.length=_;rw[Array.toList_append,List.length_append];rfl
    have hnum:Run (ev Γ (.bin .add (.cst (.int 2)) (.bin .mod (.idx (.var 0) (.cst (.int 3))) md))) [some (.any,.lst (ds.map .int)),some (.any,.lst (names.map .str)),some (.loc,.str small),some (.loc,.str x0),some (.loc,.str y),none] (.loc,.int (2+dd ds 3 % m)) [some (.any,.lst (ds.map .int)),some (.any,.lst (names.map .str)),some (.loc,.str small),some (.loc,.str x0),some (.loc,.str y),none]:=a_ av (a_ (aP (aq rfl) av trivial (aC i3)) (hmr _ _ _ _ _) trivial (br hm0)) trivial ef;refine go (y++"/"++rF (2+dd ds 3 % m)) (.inr ⟨y.cps.toList,(rF (2+dd ds 3 % m)).cps.toList,2+dd ds 3 % m,?_,hst,by omega,hk9,rfl⟩) ?_
    ·show((y.cps++#[47])++(rF _).cps).toList=_;simp
    ·refine aB (t1 (by simp[hw2])) au (eZ (t2 (by simp[hw2])) (aA (a_ (a_ (af rfl) av trivial (iN (by show y.length+1<=sizeLine;omega))) (bK (aa hnum ag) trivial hstr) trivial (iN (by rw[hsl1];omega))) aQ au) au)
   ·refine go x0 (.inl hs0) ?_;exact aB (t1 (by simp[hw1])) au (aB (t2 (by simp[hw2])) au au)
 ·obtain⟨x,st',a1,a2,a3⟩:=mid x0 none (.inl hs0);refine⟨x,a1,a2,aE (st0:=[some (.any,.lst (ds.map .int)),some (.any,.lst (names.map .str)),none,none,none,none]) rfl (.inr rfl) rfl (head _ (aB (st1:=[some (.any,.lst (ds.map .int)),some (.any,.lst (names.map .str)),some (.loc,.str small),some (.loc,.str x0),none,none]) ?_ au a3))⟩
  repeat' (first|exact kZ (decide_eq_false (by simp only[List.length_map];omega))|sizeOf_list_dec)
end
end TM
namespace TM
open PySem L2 W01
noncomputable def fT(Γ:Tab):Prop:=∀(ns:List Int) (k:Nat),k<2 ^ 62->∃z,Γ "_law_cell" [.lst (ns.map .int),.int (k:Nat)]=some (.ok (.loc,.int z))
noncomputable def dU(Γ:Tab):Prop:=∀(c:Int) (n:Nat),n<1000->∃ds:List Int,ds.length=n/\(∀d∈ds,0<=d)/\Γ "_law_drawn" [.int c,.int (n:Nat)]=some (.ok (.own,.lst (ds.map .int)))
noncomputable def vg(Γ:Tab):Prop:=∀(ds:List Int) (names:List Str),ds.length=12->(∀d∈ds,0<=d)->names.length<40->(∀x∈names,b8 x.cps.toList)->∃x,b8 x.cps.toList/\x∉names/\Γ "_law_name" [.lst (ds.map .int),.lst (names.map .str)]=some (.ok (.loc,.str x))
noncomputable def fNames:Fn:=⟨"_law_names",3,5,[.set 3 (.lst []),.for_ false [4] .rng1 [.var 2] [.app 3 (.call "_law_name" [.call "_law_drawn" [.call "_law_cell" [.var 0,.bin .add (.var 1) (.var 4)],.cst (.int 12)],.var 3])],.ret (.var 3)]⟩
theorem sv{Γ:Tab}(hc:fT Γ)(hd:dU Γ)(hn:vg Γ){ns:List Int}{b m:Nat}(hb:b<1000)(hm:m<40):
    ∃names:List Str,names.length=m/\names.Nodup/\(∀x∈names,b8 x.cps.toList)/\bO Γ fNames [.lst (ns.map .int),.int (b:Nat),.int (m:Nat)]=some (.ok (.own,.lst (names.map .str))):=by
  have hsz:(1000:Nat)<=sizeLine:=by decide
  let I:List (Kd×U)->aj->Prop:=fun xs st=>∃(names:List Str) (us:List U) (o:Option (Kd×U)),st=[some (.any,.lst (ns.map .int)),some (.loc,.int (b:Nat)),some (.loc,.int (m:Nat)),some (.own,.lst us),o]/\us=names.map .str/\names.Nodup/\(∀x∈names,b8 x.cps.toList)/\names.length+xs.length=m/\dC m xs;have loop:=nV (t:=false) (is:=[4]) (body:=execs Γ [.app 3 (.call "_law_name" [.call "_law_drawn" [.call "_law_cell" [.var 0,.bin .add (.var 1) (.var 4)],.cst (.int 12)],.var 3])]) (rs:=[(.loc,.int (m:Nat))]) I (fun _ _ _=>trivial) (fun x xs st hIx=>by
    obtain⟨names,us,o,e,e2,hnd,hw,hl,hr⟩:=hIx;subst e;obtain⟨i,hi,rfl,hr',hlen⟩:=hr.cons;rw[List.length_cons]at hl;obtain⟨z,hz⟩:=hc ns (b+i) (by omega);rw[Int.natCast_add]at hz;obtain⟨ds,d1,d2,d3⟩:=hd z 12 (by omega);obtain⟨x,x1,x2,x3⟩:=hn ds names d1 d2 (by omega) hw;rw[<-e2]at x3;refine⟨[some (.any,.lst (ns.map .int)),some (.loc,.int (b:Nat)),some (.loc,.int (m:Nat)),some (.own,.lst us),some (.loc,.int (i:Nat))],[some (.any,.lst (ns.map .int)),some (.loc,.int (b:Nat)),some (.loc,.int (m:Nat)),some (.own,.lst (us++[.str x])),some (.loc,.int (i:Nat))],aQ,?_,⟨names++[x],_,_,rfl,by simp[e2],?_,?_,by simp;omega,hr'⟩⟩
    · repeat' (first|exact hz|exact d3|exact x3|exact(by rw[e2,List.length_map];omega)|sizeOf_list_dec)
    · rw[List.nodup_append]
      exact ⟨hnd, by simp, fun y hy w hw' => by have : w = x := by simpa using hw'
                                                subst this;rintro rfl;exact x2 hy⟩
    · intro y hy
      rcases List.mem_append.mp hy with h|h
      · exact hw y h
      · rw[List.mem_singleton.mp h];exact x1)
  obtain⟨st',hrun,names,us,o,e,e2,hnd,hw,hl,_⟩:=loop ((List.range m).map fun i:Nat=>(Kd.loc,U.int (0+(i:Int)))) [some (.any,.lst (ns.map .int)),some (.loc,.int (b:Nat)),some (.loc,.int (m:Nat)),some (.own,.lst []),none] ⟨[],[],none,rfl,rfl,by simp,by simp,by simp,dC.all m⟩;subst e e2;refine⟨names,by simpa using hl,hnd,hw,?_⟩;apply aE (st0:=[some (.any,.lst (ns.map .int)),some (.loc,.int (b:Nat)),some (.loc,.int (m:Nat)),none,none]) rfl (.inl rfl) rfl
  repeat' sizeOf_list_dec
  have hit:=e_ (k:=.loc) (n:=m) (by omega);refine' c9 (rs:=[(.loc,.int (m:Nat))]) (st1:=[some (.any,.lst (ns.map .int)),some (.loc,.int (b:Nat)),some (.loc,.int (m:Nat)),some (.own,.lst []),none]) _ trivial hit rfl hrun _
  all_goals repeat' sizeOf_list_dec
noncomputable def ir:Fn:=⟨"_law_told",2,6,[.set 2 (.bi .len [.var 1]),.ite (.and [.cmp .gt (.bin .mod (.idx (.var 0) (.cst (.int 2))) (.cst (.int 3))) (.cst (.int 0)),.cmp .gt (.bin .mod (.idx (.var 0) (.cst (.int 0))) (.bi .len [.var 1])) (.cst (.int 0))]) [.set 2 (.bin .mod (.idx (.var 0) (.cst (.int 0))) (.bi .len [.var 1]))] [],.set 3 (.lst []),.for_ false [4] .rng1 [.idx (.lst [.cst (.int 0),.cst (.int 0),.cst (.int 1),.cst (.int 1),.cst (.int 1),.cst (.int 2),.cst (.int 2),.cst (.int 2),.cst (.int 3),.cst (.int 8)]) (.bin .mod (.idx (.var 0) (.cst (.int 1))) (.cst (.int 10)))] [.set 5 (.idx (.var 1) (.bin .mod (.idx (.var 0) (.bin .add (.cst (.int 3)) (.var 4))) (.var 2))),.ite (.cmp .notin (.var 5) (.var 3)) [.app 3 (.var 5)] []],.ret (.bi .tuple [.var 3])]⟩
end TM
namespace TM
open PySem L2 W01
theorem B3:∀j:Nat,j<10->∃q:Nat,q<=8/\atI [U.int 0,.int 0,.int 1,.int 1,.int 1,.int 2,.int 2,.int 2,.int 3,.int 8] (j:Int)=some (.int (q:Nat))
 |0,_=>⟨0,by omega,rfl⟩|1,_=>⟨0,by omega,rfl⟩|2,_=>⟨1,by omega,rfl⟩|3,_=>⟨1,by omega,rfl⟩|4,_=>⟨1,by omega,rfl⟩
 |5,_=>⟨2,by omega,rfl⟩|6,_=>⟨2,by omega,rfl⟩|7,_=>⟨2,by omega,rfl⟩|8,_=>⟨3,by omega,rfl⟩|9,_=>⟨8,by omega,rfl⟩
 |n+10,h=>absurd h (by omega)
theorem zP{α:Type}{xs:List α}{z t:Int}(hz:0<=z)(ht:0<t)(hl:t<=xs.length):∃x∈xs,atI xs (z % t)=some x:=by
 have h1:=Int.emod_nonneg z (by omega:t≠0);have h2:=Int.emod_lt_of_pos z ht;obtain⟨j,hj⟩:=Int.eq_ofNat_of_zero_le h1;have hjl:j<xs.length:=by omega
 refine⟨xs[j]'hjl,List.getElem_mem hjl,?_⟩;rw[hj];exact bq (by simp[hjl])
theorem qU{xs:List Str}{z t:Int}(hz:0<=z)(ht:0<t)(hl:t<=xs.length):∃x∈xs,atI (xs.map U.str) (z % t)=some (.str x):=by
 obtain⟨u,hu,e⟩:=zP (xs:=xs.map U.str) hz ht (by simpa using hl);obtain⟨x,hx,rfl⟩:=List.mem_map.mp hu;exact⟨x,hx,e⟩
theorem vh{Γ:Tab}{ds:List Int}{names:List Str}(hd:11<=ds.length)(h0:∀d∈ds,0<=d)(hn:0<names.length):
    ∃told:List Str,told.length<=8/\told.Nodup/\(∀x∈told,x∈names)/\bO Γ ir [.lst (ds.map .int),.lst (names.map .str)]=some (.ok (.loc,.tup (told.map .str))):=by
  have hsz:(1000:Nat)<=sizeLine:=by decide
  have i0:atI (ds.map U.int) 0=some (.int (dd ds 0)):=bb (i:=0) (by omega);have i1:atI (ds.map U.int) 1=some (.int (dd ds 1)):=bb (i:=1) (by omega);have i2:atI (ds.map U.int) 2=some (.int (dd ds 2)):=bb (i:=2) (by omega);have n0:=c_ h0 0;have n1:=c_ h0 1;have n2:=c_ h0 2;have hp:(0:Int)<((names.map U.str).length:Nat):=by simp;omega
  have hL:((names.map U.str).length:Int)=names.length:=by simp
  have hm0:=Int.emod_lt_of_pos (dd ds 0) hp;have hm1:=Int.emod_nonneg (dd ds 0) (by omega:((names.map U.str).length:Int)≠0);let B:=fun(t:Int) (us:List U) (o4 o5:Option (Kd×U))=>([some (.any,.lst (ds.map .int)),some (.any,.lst (names.map .str)),some (.loc,.int t),some (.own,.lst us),o4,o5]:aj)
  have hj:(dd ds 1 % 10).toNat<10:=by omega
  obtain⟨q,hq,hat⟩:=B3 _ hj;rw[Int.toNat_of_nonneg (by omega)]at hat;have main:∀t:Int,0<t->t<=names.length->∃told:List Str,told.length<=8/\told.Nodup/\(∀x∈told,x∈names)/\∃st',Run (execs Γ (ir.body.drop 2)) [some (.any,.lst (ds.map .int)),some (.any,.lst (names.map .str)),some (.loc,.int t),none,none,none] (.rt .loc (.tup (told.map .str))) st':=fun t ht htl=>by
    let I:List (Kd×U)->aj->Prop:=fun xs st=>∃(told:List Str) (us:List U) (o4 o5:Option (Kd×U)),st=B t us o4 o5/\us=told.map .str/\told.Nodup/\(∀x∈told,x∈names)/\told.length+xs.length<=q/\dC q xs;have loop:=nV (t:=false) (is:=[4]) (body:=execs Γ [.set 5 (.idx (.var 1) (.bin .mod (.idx (.var 0) (.bin .add (.cst (.int 3)) (.var 4))) (.var 2))),
      .ite (.cmp .notin (.var 5) (.var 3))
        [.app 3 (.var 5)]
        []]) (rs:=[(.loc,.int (q:Nat))]) I (fun _ _ _=>trivial) (fun x xs st hIx=>by
      obtain⟨told,us,o4,o5,e,e2,hnd,hw,hl,hr⟩:=hIx;subst e;obtain⟨i,hi,rfl,hr',hlen⟩:=hr.cons;rw[List.length_cons]at hl;have ik:atI (ds.map U.int) (3+(i:Int))=some (.int (dd ds (3+i))):=by
        rw[show(3+(i:Int))=((3+i:Nat):Int) by omega];exact bb (by omega)
      obtain⟨x,hx,hxa⟩:=qU (xs:=names) (c_ h0 (3+i)) ht htl;have hni:bo .notin (.str x) (.lst us)=some (decide (x∉told)):=by rw[e2];exact jN
      by_cases hin:x∈told
      · refine⟨B t us (some (.loc,.int (i:Nat))) o5,B t us (some (.loc,.int (i:Nat))) (some (.any,.str x)),aQ,?_,⟨told,us,_,_,rfl,e2,hnd,hw,by omega,hr'⟩⟩
        refine aA (r:=(.any,.str x)) (st1:=B t us (some (.loc,.int (i:Nat))) o5) ?_ jJ (aB (st1:=B t us (some (.loc,.int (i:Nat))) (some (.any,.str x))) ?_ au au)
        · repeat' (first|exact aC ik|exact br ht|exact aC hxa|sizeOf_list_dec)
        · have:bo .notin (.str x) (.lst us)=some false:=by rw[hni];simp[hin]
          repeat' (first|exact this|sizeOf_list_dec)
      · refine⟨B t us (some (.loc,.int (i:Nat))) o5,B t (us++[.str x]) (some (.loc,.int (i:Nat))) (some (.any,.str x)),aQ,?_,⟨told++[x],_,_,_,rfl,by simp[e2],?_,?_,by simp;omega,hr'⟩⟩
        · refine aA (r:=(.any,.str x)) (st1:=B t us (some (.loc,.int (i:Nat))) o5) ?_ jJ (eZ (st1:=B t us (some (.loc,.int (i:Nat))) (some (.any,.str x))) (st2:=B t (us++[.str x]) (some (.loc,.int (i:Nat))) (some (.any,.str x))) ?_ ?_ au)
          · repeat' (first|exact aC ik|exact br ht|exact aC hxa|sizeOf_list_dec)
          · have:bo .notin (.str x) (.lst us)=some true:=by rw[hni];simp[hin]
            repeat' (first|exact this|sizeOf_list_dec)
          · repeat' (first|exact dB rfl|exact(by rw[e2,List.length_map];omega)|sizeOf_list_dec)
        · rw[List.nodup_append]
          exact ⟨hnd, by simp, fun y hy w hw' => by have : w = x := by simpa using hw'
                                                    subst this;rintro rfl;exact hin hy⟩
        · intro y hy
          rcases List.mem_append.mp hy with h|h
          · exact hw y h
          · rw[List.mem_singleton.mp h];exact hx)
    obtain⟨st',hrun,told,us,o4,o5,e,e2,hnd,hw,hl,_⟩:=loop ((List.range q).map fun i:Nat=>(Kd.loc,U.int (0+(i:Int)))) (B t [] none none) ⟨[],[],none,none,rfl,rfl,by simp,by simp,by simp,dC.all q⟩;subst e e2;refine⟨told,by simp at hl;omega,hnd,hw,?_⟩;have hit:=e_ (k:=.loc) (n:=q) (by omega);refine⟨B t (told.map .str) o4 o5,aA (r:=(.own,.lst [])) (cU ag trivial aX (Nat.zero_le _)) aY (c9 (rs:=[(.loc,.int (q:Nat))]) (st1:=B t [] none none) ?_ trivial hit rfl hrun ?_)⟩
    · refine aa (aP (x:=(.own,.lst [U.int 0,.int 0,.int 1,.int 1,.int 1,.int 2,.int 2,.int 2,.int 3,.int 8])) (y:=(.loc,.int (dd ds 1 % 10))) (st1:=B t [] none none) ?_ ?_ trivial (aC hat)) ag
      · repeat' (first|exact(by decide:(10:Nat)<=sizeLine)|sizeOf_list_dec)
      · repeat' (first|exact aC i1|sizeOf_list_dec)
    · repeat' sizeOf_list_dec
  have fin:∀t:Int,0<t->t<=names.length->(∀{f:Fl} {st':aj},Run (execs Γ (ir.body.drop 2)) [some (.any,.lst (ds.map .int)),some (.any,.lst (names.map .str)),some (.loc,.int t),none,none,none] f st'->Run (execs Γ ir.body) [some (.any,.lst (ds.map .int)),some (.any,.lst (names.map .str)),none,none,none,none] f st') ->
      ∃told:List Str,told.length<=8/\told.Nodup/\(∀x∈told,x∈names)/\bO Γ ir [.lst (ds.map .int),.lst (names.map .str)]=some (.ok (.loc,.tup (told.map .str))):=fun t ht htl hh=>by
    obtain⟨told,a1,a2,a3,st',a4⟩:=main t ht htl;exact⟨told,a1,a2,a3,aE (st0:=[some (.any,.lst (ds.map .int)),some (.any,.lst (names.map .str)),none,none,none,none]) rfl (.inr rfl) rfl (hh a4)⟩
  let S0:aj:=[some (.any,.lst (ds.map .int)),some (.any,.lst (names.map .str)),some (.loc,.int ((names.map U.str).length:Nat)),none,none,none]
  have q1:∀{c:Bool},decide (0<dd ds 2 % 3)=c->Run (tst Γ (.cmp .gt (.bin .mod (.idx (.var 0) (.cst (.int 2))) (.cst (.int 3))) (.cst (.int 0)))) S0 c S0:=fun h=>by repeat' (first|exact aC i2|exact kZ h|sizeOf_list_dec)
  have q2:∀{c:Bool},decide (0<dd ds 0 % ((names.map U.str).length:Nat))=c->Run (tst Γ (.cmp .gt (.bin .mod (.idx (.var 0) (.cst (.int 0))) (.bi .len [.var 1])) (.cst (.int 0)))) S0 c S0:=fun h=>by repeat' (first|exact aC i0|exact br hp|exact kZ h|sizeOf_list_dec)
  have s2:Run (ev Γ (.bi .len [.var 1])) [some (.any,.lst (ds.map .int)),some (.any,.lst (names.map .str)),none,none,none,none] (.loc,.int ((names.map U.str).length:Nat)) [some (.any,.lst (ds.map .int)),some (.any,.lst (names.map .str)),none,none,none,none]:=by repeat' sizeOf_list_dec
  have s3:Run (ev Γ (.bin .mod (.idx (.var 0) (.cst (.int 0))) (.bi .len [.var 1]))) S0 (.loc,.int (dd ds 0 % ((names.map U.str).length:Nat))) S0:=by repeat' (first|exact aC i0|exact br hp|sizeOf_list_dec)
  by_cases c1:0<dd ds 2 % 3
  · by_cases c2:0<dd ds 0 % ((names.map U.str).length:Nat)
    · exact fin (dd ds 0 % ((names.map U.str).length:Nat)) c2 (by omega) fun h=>aA s2 aQ (eZ (nS (pP (q1 (decide_eq_true c1)) (cf (q2 (decide_eq_true c2))))) (aA s3 aQ au) h)
    · exact fin ((names.map U.str).length:Nat) hp (by omega) fun h=>aA s2 aQ (aB (nS (pP (q1 (decide_eq_true c1)) (cf (q2 (decide_eq_false c2))))) au h)
  · exact fin ((names.map U.str).length:Nat) hp (by omega) fun h=>aA s2 aQ (aB (nS (u3 (q1 (decide_eq_false c1)))) au h)
end TM
namespace TM
open PySem L2 W01
theorem Bj{Γ:Tab}{st st1 st2 st3 st4:aj}{i:Nat}{ke ve:E}{ss:List S}{rv rk:Kd×U}{k k':Kd}{uv uk u' u0 u1:U}{f:Fl}(h1:Run (ev Γ ve) st rv st1)(h2:st1[i]?=some (some (k',u')))(h3:Run (ev Γ ke) st1 rk st2)(h4:Run (cK [rv,rk]) st2 [uv,uk] st3)(h5:st3[i]?=some (some (k,u0)))(hk:k.root=true)(h6:jt uk uv u0=some u1)
  (h7:Run (execs Γ ss) (st3.set i (some (k,u1))) f st4) (hn:k'≠.ownD:=by intro z;cases z):Run (execs Γ (.put i ke ve::ss)) st f st4:=by
 refine g_ (ae h1 (ae (jH h2 hn) (ae h3 (ae h4 (ae (a:=()) (st1:=st3.set i (some (k,u1))) ?_ bf))))) h7;show modS i (qt [uv,uk]) st3=_;unfold modS;rw[h5];simp only[hk,if_true];show(match jt uk uv u0 with|some u'=>_|none=>none)=_;rw[h6]
noncomputable abbrev Row:=Str×List Str
noncomputable def rwU(r:Row):U:=.tup [.str r.1,.tup (r.2.map .str)]
noncomputable def keyOf(r:Row):Row:=(r.1,aH r.2)
theorem k9(r:Row):rowOf (rwU r)=some r:=by
 show(strsOf (r.2.map U.str)).map _=_;rw[cO];rfl
theorem sorted_strs{k:Kd}{ss:List Str}(h:ss.length<64):biU .sorted [(k,.tup (ss.map .str))]=some (.own,.lst ((aH ss).map .str)):=by
 show(strsOf (ss.map U.str)).bind _=_;rw[cO];show(if ss.length<64 then _ else _)=_;rw[if_pos h]
noncomputable def vi:Fn:=⟨"_law_book",4,10,[.set 4 (.lst []),.set 5 (.dnew true),.for_ false [6] .rng1 [.var 3] [.set 7 (.call "_law_drawn" [.call "_law_cell" [.var 0,.bin .add (.var 1) (.var 6)],.cst (.int 11)]),.set 8 (.tup [.idx (.var 2) (.bin .mod (.idx (.var 7) (.cst (.int 0))) (.bi .len [.var 2])),.call "_law_told" [.var 7,.var 2]]),.set 9 (.tup [.idx (.var 8) (.cst (.int 0)),.bi .tuple [.bi .sorted [.idx (.var 8) (.cst (.int 1))]]]),.ite (.cmp .notin (.var 9) (.var 5)) [.put 5 (.var 9) (.cst (.bl true)),.app 4 (.var 8)] []],.ret (.bi .tuple [.var 4])]⟩
noncomputable def vj(Γ:Tab):Prop:=∀(ds:List Int) (names:List Str),11<=ds.length->(∀d∈ds,0<=d)->0<names.length ->
 ∃told:List Str,told.length<=8/\told.Nodup/\(∀x∈told,x∈names)/\Γ "_law_told" [.lst (ds.map .int),.lst (names.map .str)]=some (.ok (.loc,.tup (told.map .str)))
structure fb(names:List Str)(r:Row):Prop where
 word:r.1∈names
 few:r.2.length<=8
 once:r.2.Nodup
 told:∀x∈r.2,x∈names
theorem vk{Γ:Tab}(hc:fT Γ)(hd:dU Γ)(ht:vj Γ){ns:List Int}{names:List Str}{b m:Nat}(hn:0<names.length)(hb:b<1000)(hm:m<1000):
    ∃rows:List Row,rows.length<=m/\(rows.map keyOf).Nodup/\(∀r∈rows,fb names r)/\bO Γ vi [.lst (ns.map .int),.int (b:Nat),.lst (names.map .str),.int (m:Nat)]=some (.ok (.loc,.tup (rows.map rwU))):=by
  have hsz:(1000:Nat)<=sizeLine:=by decide
  let B:=fun(us:List U) (ks:List dJ) (o6 o7 o8 o9:Option (Kd×U))=>([some (.any,.lst (ns.map .int)),some (.loc,.int (b:Nat)),some (.any,.lst (names.map .str)),some (.loc,.int (m:Nat)),some (.own,.lst us),some (.own,.rdc ks),o6,o7,o8,o9]:aj)
  let I:List (Kd×U)->aj->Prop:=fun xs st=>∃(rows:List Row) (us:List U) (ks:List dJ) (o6 o7 o8 o9:Option (Kd×U)),st=B us ks o6 o7 o8 o9/\us=rows.map rwU/\ks=rows.map keyOf/\ks.Nodup/\(∀r∈rows,fb names r)/\rows.length+xs.length<=m/\dC m xs;have hp:(0:Int)<((names.map U.str).length:Nat):=by simp;omega
  have loop:=nV (t:=false) (is:=[6]) (body:=execs Γ [.set 7 (.call "_law_drawn" [.call "_law_cell" [.var 0,.bin .add (.var 1) (.var 6)],.cst (.int 11)]),
      .set 8 (.tup [.idx (.var 2) (.bin .mod (.idx (.var 7) (.cst (.int 0))) (.bi .len [.var 2])),.call "_law_told" [.var 7,.var 2]]),
      .set 9 (.tup [.idx (.var 8) (.cst (.int 0)),.bi .tuple [.bi .sorted [.idx (.var 8) (.cst (.int 1))]]]),
      .ite (.cmp .notin (.var 9) (.var 5))
        [.put 5 (.var 9) (.cst (.bl true)),
        .app 4 (.var 8)]
        []]) (rs:=[(.loc,.int (m:Nat))]) I (fun _ _ _=>trivial) (fun x xs st hIx=>by
    obtain⟨rows,us,ks,o6,o7,o8,o9,e,e2,e3,hnd,hw,hl,hr⟩:=hIx;subst e;obtain⟨i,hi,rfl,hr',hlen⟩:=hr.cons;rw[List.length_cons]at hl;obtain⟨z,hz⟩:=hc ns (b+i) (by omega);rw[Int.natCast_add]at hz;obtain⟨ds,d1,d2,d3⟩:=hd z 11 (by omega);obtain⟨told,t1,t2,t3,t4⟩:=ht ds names (by omega) d2 hn;have i0:atI (ds.map U.int) 0=some (.int (dd ds 0)):=bb (i:=0) (by omega);obtain⟨nm,hnm,hna⟩:=qU (xs:=names) (t:=((names.map U.str).length:Nat)) (c_ d2 0) hp (by simp);have hrow:fb names (nm,told):=⟨hnm,t1,t2,t3⟩
    have j0:gw (.loc,rwU (nm,told)) (.int 0)=some (.loc,.str nm):=rfl;have j1:gw (.loc,rwU (nm,told)) (.int 1)=some (.loc,.tup (told.map .str)):=rfl;have srt:=sorted_strs (k:=.loc) (ss:=told) (by omega);let i6:Option (Kd×U):=some (.loc,.int (i:Nat));let i7:Option (Kd×U):=some (.own,.lst (ds.map .int));let i8:Option (Kd×U):=some (.loc,rwU (nm,told));let i9:Option (Kd×U):=some (.loc,rwU (keyOf (nm,told)));have g7:Run (ev Γ (.call "_law_drawn" [.call "_law_cell" [.var 0,.bin .add (.var 1) (.var 6)],.cst (.int 11)])) (B us ks i6 o7 o8 o9) (.own,.lst (ds.map .int)) (B us ks i6 o7 o8 o9):=by repeat' (first|exact hz|exact d3|sizeOf_list_dec)
    have g8:Run (ev Γ (.tup [.idx (.var 2) (.bin .mod (.idx (.var 7) (.cst (.int 0))) (.bi .len [.var 2])),.call "_law_told" [.var 7,.var 2]])) (B us ks i6 i7 o8 o9) (.loc,rwU (nm,told)) (B us ks i6 i7 o8 o9):=by
      repeat' (first|exact aC i0|exact br hp|exact aC hna|exact t4|exact dB rfl|exact(by decide:(2:Nat)<=sizeLine)|sizeOf_list_dec)
    have g9:Run (ev Γ (.tup [.idx (.var 8) (.cst (.int 0)),.bi .tuple [.bi .sorted [.idx (.var 8) (.cst (.int 1))]]])) (B us ks i6 i7 i8 o9) (.loc,rwU (keyOf (nm,told))) (B us ks i6 i7 i8 o9):=by
      repeat' (first|exact j0|exact j1|exact srt|exact(by decide:(2:Nat)<=sizeLine)|sizeOf_list_dec)
    have hni:bo .notin (rwU (keyOf (nm,told))) (.rdc ks)=some (decide (keyOf (nm,told)∉ks)):=by
      show(((rowOf (rwU (keyOf (nm,told)))).map fun r=>decide (r∈ks))).map (!·)=_;rw[k9];simp
    by_cases hin:keyOf (nm,told)∈ks
    · refine⟨B us ks i6 o7 o8 o9,B us ks i6 i7 i8 i9,aQ,aA g7 aY (aA g8 aQ (aA g9 aQ (aB ?_ au au))),⟨rows,us,ks,_,_,_,_,rfl,e2,e3,hnd,hw,by omega,hr'⟩⟩
      have:bo .notin (rwU (keyOf (nm,told))) (.rdc ks)=some false:=by rw[hni];simp[hin]
      exact ba (af rfl) (ax rfl) ⟨⟨.own,rfl,rfl⟩,trivial⟩ this
    · refine⟨B us ks i6 o7 o8 o9,B (us++[rwU (nm,told)]) (ks++[keyOf (nm,told)]) i6 i7 i8 i9,aQ,aA g7 aY (aA g8 aQ (aA g9 aQ (eZ (st1:=B us ks i6 i7 i8 i9) (st2:=B (us++[rwU (nm,told)]) (ks++[keyOf (nm,told)]) i6 i7 i8 i9) ?_ ?_ au))),⟨rows++[(nm,told)],_,_,_,_,_,_,rfl,by simp[e2],by simp[e3],?_,?_,by simp;omega,hr'⟩⟩
      · have:bo .notin (rwU (keyOf (nm,told))) (.rdc ks)=some true:=by rw[hni];simp[hin]
        exact ba (af rfl) (ax rfl) ⟨⟨.own,rfl,rfl⟩,trivial⟩ this
      · have hput:jt (rwU (keyOf (nm,told))) (.bl true) (.rdc ks)=some (.rdc (ks++[keyOf (nm,told)])):=by
          show(match rowOf (rwU (keyOf (nm,told))),U.bl true with|some r,.bl true=>if r∉ks/\ks.length<=1000 then some (U.rdc (ks++[r])) else none|_,_=>none)=_;rw[k9];show(if keyOf (nm,told)∉ks/\ks.length<=1000 then _ else _)=_;rw[if_pos ⟨hin,by rw[e3,List.length_map];omega⟩]
        exact Bj (st1:=B us ks i6 i7 i8 i9) (st2:=B us ks i6 i7 i8 i9) (st3:=B us ks i6 i7 i8 i9) (k:=.own) (k':=.own) av rfl (af rfl) (aR aV (aR aV aX)) rfl rfl hput
          (iq (st1:=B us (ks++[keyOf (nm,told)]) i6 i7 i8 i9) (st2:=B us (ks++[keyOf (nm,told)]) i6 i7 i8 i9) (k:=.own) (k':=.own) (us:=us) (us':=us) rfl (af rfl) aV rfl rfl (by rw[e2,List.length_map];omega) au)
      · rw[List.nodup_append]
        exact ⟨hnd, by simp, fun y hy w hw' => by have : w = keyOf (nm, told) := by simpa using hw'
                                                  subst this;rintro rfl;exact hin hy⟩
      · intro y hy
        rcases List.mem_append.mp hy with h|h
        · exact hw y h
        · rw[List.mem_singleton.mp h];exact hrow)
  obtain⟨st',hrun,rows,us,ks,o6,o7,o8,o9,e,e2,e3,hnd,hw,hl,_⟩:=loop ((List.range m).map fun i:Nat=>(Kd.loc,U.int (0+(i:Int)))) (B [] [] none none none none) ⟨[],[],[],none,none,none,none,rfl,rfl,rfl,by simp,by simp,by simp,dC.all m⟩;subst e e2 e3;refine⟨rows,by simpa using hl,hnd,hw,?_⟩;have hit:=e_ (k:=.loc) (n:=m) (by omega);exact aE (st0:=[some (.any,.lst (ns.map .int)),some (.loc,.int (b:Nat)),some (.any,.lst (names.map .str)),some (.loc,.int (m:Nat)),none,none,none,none,none,none]) rfl (.inr rfl) rfl
    (aA (r:=(.own,.lst [])) (cU ag trivial aX (Nat.zero_le _)) aY (aA (r:=(.own,.rdc [])) zL aY (c9 (rs:=[(.loc,.int (m:Nat))]) (st1:=B [] [] none none none none) (aa (af rfl) ag) trivial hit rfl hrun
      (bp (bK (aa (ax rfl) ag) ⟨⟨.own,rfl,rfl⟩,trivial⟩ rfl) cW))))
end TM
namespace TM
open PySem L2 W01
noncomputable def iO(Γ:Tab):Prop:=∀(ns:List Int) (b m:Nat),b<1000->m<40->∃names:List Str,names.length=m/\names.Nodup/\(∀x∈names,b8 x.cps.toList)/\Γ "_law_names" [.lst (ns.map .int),.int (b:Nat),.int (m:Nat)]=some (.ok (.own,.lst (names.map .str)))
noncomputable def pV(Γ:Tab):Prop:=∀(ns:List Int) (names:List Str) (b m:Nat),0<names.length->b<1000->m<1000 ->
 ∃rows:List Row,rows.length<=m/\(rows.map keyOf).Nodup/\(∀r∈rows,fb names r)/\Γ "_law_book" [.lst (ns.map .int),.int (b:Nat),.lst (names.map .str),.int (m:Nat)]=some (.ok (.loc,.tup (rows.map rwU)))
noncomputable def vm:Fn:=⟨"_law_made",1,3,[.set 1 (.call "_law_drawn" [.call "_law_cell" [.var 0,.cst (.int 0)],.cst (.int 4)]),.set 2 (.call "_law_names" [.var 0,.cst (.int 1),.bin .add (.cst (.int 1)) (.bin .mod (.idx (.var 1) (.cst (.int 0))) (.cst (.int 14)))]),.ret (.call "_law_book" [.var 0,.cst (.int 20),.var 2,.bin .mod (.idx (.var 1) (.cst (.int 1))) (.cst (.int 41))])]⟩
theorem vn{Γ:Tab}(hc:fT Γ)(hd:dU Γ)(hn:iO Γ)(hb:pV Γ)(ns:List Int):∃(names:List Str) (rows:List Row),0<names.length/\names.length<=14/\names.Nodup/\(∀x∈names,b8 x.cps.toList) /\
  rows.length<=40/\(rows.map keyOf).Nodup/\(∀r∈rows,fb names r)/\bO Γ vm [.lst (ns.map .int)]=some (.ok (.loc,.tup (rows.map rwU))):=by
 obtain⟨z,hz⟩:=hc ns 0 (by omega);obtain⟨ds,d1,d2,d3⟩:=hd z 4 (by omega);have i0:atI (ds.map U.int) 0=some (.int (dd ds 0)):=bb (i:=0) (by omega);have i1:atI (ds.map U.int) 1=some (.int (dd ds 1)):=bb (i:=1) (by omega);have n0:=c_ d2 0;have n1:=c_ d2 1;obtain⟨names,a1,a2,a3,a4⟩:=hn ns 1 (1+dd ds 0 % 14).toNat (by omega) (by omega);rw[Int.toNat_of_nonneg (by omega)]at a4;obtain⟨rows,b1,b2,b3,b4⟩:=hb ns names 20 (dd ds 1 % 41).toNat (by omega) (by omega) (by omega);rw[Int.toNat_of_nonneg (by omega)]at b4;refine⟨names,rows,by omega,by omega,a2,a3,by omega,b2,b3,?_⟩;apply aE (st0:=[some (.any,.lst (ns.map .int)),none,none]) rfl (.inr rfl) rfl
 repeat' (first|exact hz|exact d3|exact aC i0|exact aC i1|exact a4|exact b4|sizeOf_list_dec)
section
variable{Pg:List Fn}{d:Nat}
noncomputable def Has(Pg:List Fn)(f:Str)(fn:Fn):Prop:=(Pg.find? fun g=>decide (g.name=f))=some fn
theorem aU{fn:Fn}{f:Str}(h:Has Pg f fn)(us:List U):sem Pg (d+1) f us=bO (sem Pg d) fn us:=by
 show(match Pg.find? fun g=>decide (g.name=f) with|some fn=>bO (sem Pg d) fn us|none=>none)=_;rw[show _=some fn from h]
theorem yb(h:Has Pg "_law_mix" sj):vc (sem Pg (d+1)):=fun c k h0 h1=>by rw[aU h];exact xx h0 h1
theorem fU(h:Has Pg "_law_mix" sj)(h2:Has Pg "_law_cell" qS):fT (sem Pg (d+2)):=fun ns k hk=>⟨_,by rw[aU h2];exact vd (yb h) hk⟩
theorem drawnOk(h:Has Pg "_law_mix" sj)(h2:Has Pg "_law_drawn" mD):dU (sem Pg (d+2)):=fun c n hn=>by
 obtain⟨ds,a,b,e⟩:=so (yb (d:=d) h) (c:=c) hn;exact⟨ds,a,b,by rw[aU h2];exact e⟩
theorem zQ{md:E}(hmd:xy md)(h:Has Pg "_law_name" (mE md)):vg (sem Pg (d+1)):=fun ds names a b c e=>by
 obtain⟨x,p,q,r⟩:=vf (Γ:=sem Pg d) hmd a b c e;exact⟨x,p,q,by rw[aU h];exact r⟩
theorem zR(h:Has Pg "_law_told" ir):vj (sem Pg (d+1)):=fun ds names a b c=>by
 obtain⟨x,p,q,r,s⟩:=vh (Γ:=sem Pg d) a b c;exact⟨x,p,q,r,by rw[aU h];exact s⟩
structure cj(md:E)(Pg:List Fn):Prop where
 mix:Has Pg "_law_mix" sj
 cell:Has Pg "_law_cell" qS
 drawn:Has Pg "_law_drawn" mD
 name:Has Pg "_law_name" (mE md)
 names:Has Pg "_law_names" fNames
 told:Has Pg "_law_told" ir
 book:Has Pg "_law_book" vi
theorem cj.fU{md:E}(M:cj md Pg):fT (sem Pg (d+2)):=TM.fU M.mix M.cell
theorem cj.drawnOk{md:E}(M:cj md Pg):dU (sem Pg (d+2)):=TM.drawnOk M.mix M.drawn
theorem cj.vo{md:E}(hmd:xy md)(M:cj md Pg):iO (sem Pg (d+3)):=fun ns b m hb hm=>by
 obtain⟨names,p,q,r,s⟩:=sv (Γ:=sem Pg (d+2)) M.fU M.drawnOk (TM.zQ hmd M.name) (ns:=ns) hb hm;exact⟨names,p,q,r,by rw[aU M.names];exact s⟩
noncomputable abbrev vp(Pg:List Fn):Prop:=cj Bi Pg
theorem cj.namesOk(M:vp Pg):iO (sem Pg (d+3)):=cj.vo xA M
theorem cj.vq{md:E}(M:cj md Pg):pV (sem Pg (d+3)):=fun ns names b m hn hb hm=>by
 obtain⟨rows,p,q,r,s⟩:=vk (Γ:=sem Pg (d+2)) M.fU M.drawnOk (TM.zR M.told) (ns:=ns) hn hb hm;exact⟨rows,p,q,r,by rw[aU M.book];exact s⟩
end
end TM
namespace TM
open PySem L2 W01
section
variable{Γ:Tab}{st st1 st2 st3 st4:aj}
theorem k_{a ss:List S}{f:Fl}(h:Run (execs Γ (a++ss)) st f st2):(∃s1,Run (execs Γ a) st .nx s1/\Run (execs Γ ss) s1 f st2)\/(Run (execs Γ a) st f st2/\f≠.nx):=by
 induction a generalizing st with
 |nil=>exact .inl ⟨st,au,h⟩
 |cons s a ih =>
  have h':M.bind (exec Γ s) (fun f=>match f with|.nx=>execs Γ (a++ss)|f=>pure f) st=some (.ok f,st2):=h;unfold M.bind at h';cases e:exec Γ s st with
  |none=>rw[e]at h';cases h'
  |some p =>
   obtain⟨x,s1⟩:=p;rw[e]at h';cases x with
   |exc c=>cases h'
   |ok g =>
    cases g with
    |nx =>
     rcases ih h' with⟨s2,h1,h2⟩|⟨h1,h2⟩
     ·exact .inl ⟨s2,g_ e h1,h2⟩
     ·exact .inr ⟨g_ e h1,h2⟩
    |rt k u=>cases h';exact .inr ⟨si e,fun z=>nomatch z⟩
    |bk=>cases h';exact .inr ⟨ae (show Run (exec Γ s) st Fl.bk _ from e) bf,fun z=>nomatch z⟩
    |ct=>cases h';exact .inr ⟨ae (show Run (exec Γ s) st Fl.ct _ from e) bf,fun z=>nomatch z⟩
theorem Bk{s:S}{ss:List S}{f:Fl}(h1:Run (exec Γ s) st f st1)(hf:f≠.nx):Run (execs Γ (s::ss)) st f st1:=by
 cases f with
 |nx=>exact absurd rfl hf
 |rt k u=>exact si h1
 |bk=>exact ae h1 bf
 |ct=>exact ae h1 bf
theorem n9{c:E}{a b ss:List S}{p:Bool}{f:Fl}(h1:Run (tst Γ c) st p st1)(hT:p=true->Run (execs Γ (a++ss)) st1 f st2)(hF:p=false->Run (execs Γ (b++ss)) st1 f st2):Run (execs Γ (.ite c a b::ss)) st f st2:=by
 cases p with
 |true =>
  rcases k_ (hT rfl) with⟨s1,h2,h3⟩|⟨h2,h3⟩
  ·exact g_ (mC h1 h2) h3
  ·exact Bk (mC h1 h2) h3
 |false =>
  rcases k_ (hF rfl) with⟨s1,h2,h3⟩|⟨h2,h3⟩
  ·exact g_ (pQ h1 h2) h3
  ·exact Bk (pQ h1 h2) h3
theorem zS{e e2:E}{es:List E}{k:Kd}{p q:Bool}(h:Run (ev Γ e) st (k,.bl p) st)(h2:p=true->Run (gx Γ (e2::es)) st (.loc,.bl q) st):Run (gx Γ (e::e2::es)) st (.loc,.bl (p&&q)) st:=by
 refine zN h ?_;cases p with
 |true=>rw[if_pos rfl];exact h2 rfl
 |false=>rw[if_neg Bool.false_ne_true];exact⟨rfl,rfl⟩
theorem n_{e e2:E}{es:List E}{p q:Bool}(h:Run (tst Γ e) st p st)(h2:p=false->Run (eQ Γ (e2::es)) st q st):Run (eQ Γ (e::e2::es)) st (p||q) st:=by
 cases p with
 |true=>exact Bc h
 |false=>exact u4 h (h2 rfl)
theorem vt{e e2:E}{es:List E}{p q:Bool}(h:Run (tst Γ e) st p st)(h2:p=true->Run (aM Γ (e2::es)) st q st):Run (aM Γ (e::e2::es)) st (p&&q) st:=by
 cases p with
 |true=>exact pP h (h2 rfl)
 |false=>exact u3 h
theorem fV{α:Type}{cond:M Bool}{elt:M (Kd×U)}{src:List (Kd×U)}(h:aZ src st)(k:Kd)(hk:k=.loc\/k=.any)(enc g:α->U)(kd:Kd)(hc:∀y,Run cond (some (k,enc y)::st) true (some (k,enc y)::st)):∀(ys:List α) (acc:List U),acc.length+ys.length<=sizeLine ->
  (∀y∈ys,Run elt (some (k,enc y)::st) (kd,g y) (some (k,enc y)::st)/\Run (lift (kd,g y)) (some (k,enc y)::st) (g y) (some (k,enc y)::st))->Run (bC 1 false cond elt src (ys.map fun y=>(k,enc y)) acc) st (acc++ys.map g) st
 |[],acc,_,_=>by rw[List.map_nil,List.map_nil,List.append_nil];exact nW h
 |y::ys,acc,hl,hx=>by
  obtain⟨h2,h3⟩:=hx y (by simp);rw[List.length_cons]at hl;refine jK (s1:=some (k,enc y)::st) (s2:=some (k,enc y)::st) (s3:=some (k,enc y)::st) (s4:=some (k,enc y)::st) h ?_ (hc y) h2 h3 (by omega) ?_
  ·rcases hk with rfl|rfl
   ·exact cG aQ
   ·exact cG jJ
  ·have:=fV h k hk enc g kd hc ys (acc++[g y]) (by simp;omega) fun z hz=>hx z (by simp[hz]);rw[List.map_cons];simpa using this
theorem dm{α:Type}{cond:M Bool}{elt:M (Kd×U)}{src:List (Kd×U)}(h:aZ src st)(k:Kd)(hk:k=.loc\/k=.any)(enc g:α->U)(p:α->Bool)(kd:Kd):∀(ys:List α) (acc:List U),acc.length+ys.length<=sizeLine ->
  (∀y∈ys,Run cond (some (k,enc y)::st) (p y) (some (k,enc y)::st)/\(p y=true->Run elt (some (k,enc y)::st) (kd,g y) (some (k,enc y)::st)/\Run (lift (kd,g y)) (some (k,enc y)::st) (g y) (some (k,enc y)::st)))->Run (bC 1 false cond elt src (ys.map fun y=>(k,enc y)) acc) st (acc++(ys.filter p).map g) st
 |[],acc,_,_=>by rw[List.map_nil,List.filter_nil,List.map_nil,List.append_nil];exact nW h
 |y::ys,acc,hl,hx=>by
  obtain⟨h1,h23⟩:=hx y (by simp);rw[List.length_cons]at hl;have ht:Run (cy false (List.range 1) (k,enc y)) (List.replicate 1 none++st) () (some (k,enc y)::st):=by
   rcases hk with rfl|rfl
   ·exact cG aQ
   ·exact cG jJ
  cases hp:p y with
  |true =>
   rw[hp]at h1;obtain⟨h2,h3⟩:=h23 hp;refine jK (s1:=some (k,enc y)::st) (s2:=some (k,enc y)::st) (s3:=some (k,enc y)::st) (s4:=some (k,enc y)::st) h ht h1 h2 h3 (by omega) ?_;have:=dm h k hk enc g p kd ys (acc++[g y]) (by simp;omega) fun z hz=>hx z (by simp[hz]);rw[List.filter_cons,if_pos hp,List.map_cons];simpa using this
  |false =>
   rw[hp]at h1;refine pR (s1:=some (k,enc y)::st) (s2:=some (k,enc y)::st) h ht h1 ?_;have:=dm h k hk enc g p kd ys acc (by omega) fun z hz=>hx z (by simp[hz]);rw[List.filter_cons,if_neg (by simp[hp])];exact this
theorem dW{α:Type}{t:Bool}{is:List Nat}{body:M Fl}{rs:List (Kd×U)}(it:α->Kd×U)(I:List α->List α->aj->Prop)(hs:∀d r st,I d r st->aZ rs st)
  (step:∀d y r st,I d (y::r) st->∃st1 st2,Run (cy t is (it y)) st () st1/\Run body st1 .nx st2/\I (d++[y]) r st2):∀(r d:List α) (st:aj),I d r st->∃st',Run (forM t is body rs (r.map it)) st .nx st'/\I (d++r) [] st'
 |[],d,st,h=>⟨st,qQ (hs _ _ _ h),by rw[List.append_nil];exact h⟩
 |y::r,d,st,h=>by
  obtain⟨s1,s2,h1,h2,h3⟩:=step d y r st h;obtain⟨s3,h4,h5⟩:=dW it I hs step r (d++[y]) s2 h3;exact⟨s3,u_ (hs _ _ _ h) h1 h2 h4,by simpa using h5⟩
theorem zT{f:Str}{es:List E}{rs:List (Kd×U)}{r:Kd×U}{b:Bool}(h1:Run (bB Γ es) st rs st1)(h2:aZ rs st1)(h3:Γ f (rs.map (·.2))=some (.ok r))(h4:kl r.2=some b)(hr:isAny r.1=false:=by exact rfl):Run (tst Γ (.call f es)) st b st1:=ae h1 (ae (a9 h2) (ae (qP h3 hr) (cM h4)))
theorem zU{f:Bf}{es:List E}{k:Kd}{b:Bool}(h:Run (ev Γ (.bi f es)) st (k,.bl b) st1):Run (tst Γ (.bi f es)) st b st1:=by
 have h':(bB Γ es >>= fun rs=>ay rs >>= fun _=>M.ofO (biU f rs)) st=some (.ok (k,.bl b),st1):=h;obtain⟨rs,s1,e1,e2,s2,e3,r,s3,e4,e5⟩:∃rs s1,bB Γ es st=some (.ok rs,s1)/\∃(a:Unit) (s2:aj),ay rs s1=some (.ok a,s2)/\∃r s3,M.ofO (biU f rs) s2=some (.ok r,s3)/\(r,s3)=((k,U.bl b),st1):=by
  have w:W (bB Γ es >>= fun rs=>ay rs >>= fun _=>M.ofO (biU f rs)) st fun r s=>(r,s)=((k,U.bl b),st1):=⟨_,_,h',rfl⟩
  rw[ah]at w;obtain⟨rs,s1,e1,w⟩:=w;rw[ah]at w;obtain⟨a,s2,e2,w⟩:=w;obtain⟨r,s3,e3,w⟩:=w;exact⟨rs,s1,e1,a,s2,e2,r,s3,e3,w⟩
 cases e5;exact ae e1 (ae (a:=e2) e3 (ae e4 (cM rfl)))
theorem vv{i:Nat}{e:E}{ss:List S}{k k':Kd}{r:Kd×U}{us us' zs:List U}{f:Fl}(h0:st[i]?=some (some (k',.lst us')))(h1:Run (ev Γ e) st r st1)(h3:st1[i]?=some (some (k,.lst us)))(hk:k.root=true)(hr:km r (.lst us)=some (.lst zs))
  (h4:Run (execs Γ ss) (st1.set i (some (k,.lst zs))) f st3) (hn:k'≠.ownD:=by intro z;cases z):Run (execs Γ (.ext i e::ss)) st f st3:=by
 refine g_ (ae (jH h0 hn) (ae (a:=()) (st1:=st) rfl (ae h1 (ae (a:=()) (st1:=st1.set i (some (k,.lst zs))) ?_ bf)))) h4;show modS i (km r) st1=_;unfold modS;rw[h3];simp only[hk,if_true];rw[hr]
end
theorem mG{k:Kd}{xs ys:List U}(h:xs.length+ys.length<=sizeLine)(hs:eN k ys=true):km (k,.tup ys) (.lst xs)=some (.lst (xs++ys)):=by
 show(if xs.length+ys.length<=sizeLine/\eN k ys=true then _ else _)=_;rw[if_pos ⟨h,hs⟩]
end TM
namespace TM
open PySem L2 W01
theorem la:∀ss:List Str,fu (ss.map U.str)=true
 |[]=>by simp[fu]
 |s::ss=>by simp[fu,imm,la ss]
theorem iP(r:Row):imm (rwU r)=true:=by simp[rwU,imm,fu,la]
theorem bc:∀rs:List Row,fu (rs.map rwU)=true
 |[]=>by simp[fu]
 |r::rs=>by simp[fu,iP,bc rs]
theorem fW:∀(a b:List Str),bM (a.map U.str) (b.map U.str)=decide (a=b)
 |[],[]=>by simp[bM]
 |[],_::_=>by simp[bM]
 |_::_,[]=>by simp[bM]
 |x::a,y::b=>by
  rw[List.map_cons,List.map_cons,bM,fW a b];simp only[bj];by_cases h:x=y
  ·subst h;simp
  ·simp[h]
theorem sx(a b:Row):bj (rwU a) (rwU b)=decide (a=b):=by
 obtain⟨a1,a2⟩:=a;obtain⟨b1,b2⟩:=b;simp only[rwU,bj,bM,Bool.and_true,fW];by_cases h:a1=b1
 ·subst h;simp
 ·simp[h]
theorem qV(r:Row):eqD 50 (rwU r)=true:=by
 simp[rwU,eqD,b9,dE]
theorem fX(ss:List Str)(n:Nat):eqD (n+1) (.lst (ss.map U.str))=true:=by simp[eqD,dE]
theorem vz{a b:List Str}:bo .eq (.lst (a.map U.str)) (.lst (b.map U.str))=some (decide (a=b)):=by
 simp only[bo];rw[if_pos ⟨fX a 49,fX b 49⟩];simp only[bj,fW]
theorem gF{a b:Str}:bo .eq (.str a) (.str b)=some (decide (a=b)):=by
 simp only[bo];rw[if_pos ⟨rfl,rfl⟩];simp only[bj];by_cases h:a=b
 ·subst h;simp
 ·simp[h]
theorem mH{α β:Type}(f:α->β)(xs:List α)(lo hi:Option Int):cut (xs.map f) lo hi=(cut xs lo hi).map f:=by simp[cut,List.map_take,List.map_drop]
theorem mI{α:Type}(xs:List α)(lo hi:Option Int):(cut xs lo hi).length<=xs.length:=by simp[cut];omega
theorem xC{α:Type}{xs:List α}{lo hi:Option Int}{x:α}(h:x∈cut xs lo hi):x∈xs:=List.mem_of_mem_drop (List.mem_of_mem_take h)
theorem vA{k:Kd}{ds:List Int}{lo hi:Option Int}(h:eN k (ds.map U.int)=true):gU (k,.lst (ds.map .int)) lo hi=some (.own,.lst ((cut ds lo hi).map .int)):=by
 simp only[gU];rw[if_pos h,mH]
theorem qW(b:Bool):bo .ne (.str (if b then "True" else "False")) (.str (if b then "True" else "False"))=some false:=by
 cases b<;>decide +kernel
end TM
namespace TM
open PySem L2 W01
theorem lb:∀rs:List Row,b9 50 (rs.map rwU)=true
 |[]=>by simp[b9]
 |r::rs=>by rw[List.map_cons,b9,qV,lb rs];rfl
theorem xD(r:Row)(rows:List Row):inU (rwU r) (rows.map rwU)=some (decide (r∈rows)):=by
 unfold inU;rw[if_pos ⟨qV r,lb rows⟩];congr 1
 rw[List.any_map,Bool.eq_iff_iff,List.any_eq_true];simp only[Function.comp,sx,decide_eq_true_eq];exact⟨fun⟨x,h1,h2⟩=>h2▸h1,fun h=>⟨r,h,rfl⟩⟩
theorem sy{r:Row}{rows:List Row}:bo .notin (rwU r) (.tup (rows.map rwU))=some (decide (r∉rows)):=by
 show(iD (rwU r) (.tup (rows.map rwU))).map (!·)=_;rw[show iD (rwU r) (.tup (rows.map rwU))=some (decide (r∈rows)) from xD r rows];simp
theorem fc{k:Kd}{acc:List Str}(h:acc.length<4000)(h2:(ak acc).length<64):pd .sset [(k,.lst (acc.map .str))]=some (.own,.lst ((aH (ak acc)).map .str)):=by
 have e:fw (.lst (acc.map U.str))=some (ak acc):=by
  show(strsOf (acc.map U.str)).bind _=_;rw[cO];show(if acc.length+1<scanBound then _ else _)=_;rw[if_pos (by show acc.length+1<4096;omega)]
 show(fw (.lst (acc.map U.str))).bind _=_;rw[e];show(if (ak acc).length<64 then _ else _)=_;rw[if_pos h2]
noncomputable def dX(rows:List Row):List Str:=rows.map (·.1)++(rows.map (·.2)).flatten
theorem gG{rows:List Row}{names:List Str}(h:∀r∈rows,fb names r):∀x∈dX rows,x∈names:=by
 intro x hx;rcases List.mem_append.mp hx with hx|hx
 ·obtain⟨r,hr,rfl⟩:=List.mem_map.mp hx;exact(h r hr).word
 ·obtain⟨l,hl,hx⟩:=List.mem_flatten.mp hx;obtain⟨r,hr,rfl⟩:=List.mem_map.mp hl;exact(h r hr).told x hx
theorem gH{rows:List Row}{n:Nat}(h:∀r∈rows,r.2.length<=n):(rows.map (·.2)).flatten.length<=n * rows.length:=by
 induction rows with
 |nil=>simp
 |cons r rows ih =>
  have h1:=h r (by simp);have h2:=ih fun s hs=>h s (by simp[hs]);simp only[List.map_cons,List.flatten_cons,List.length_append,List.length_cons,Nat.mul_add];omega
theorem iu{α β:Type}{f:α->β}:∀{l:List α},(∀x∈l,∀y∈l,f x=f y->x=y)->l.Nodup->(l.map f).Nodup
 |[],_,_=>List.nodup_nil
 |a::l,h,n=>by
  rw[List.nodup_cons]at n;rw[List.map_cons,List.nodup_cons];refine⟨fun z=>?_,iu (fun x hx y hy=>h x (by simp[hx]) y (by simp[hy])) n.2⟩;obtain⟨b,hb,e⟩:=List.mem_map.mp z;exact n.1 (h b (by simp[hb]) a (by simp) e▸hb)
theorem lh{α:Type}:∀{l:List α}{i j:Nat}{x:α},l.Nodup->l[i]?=some x->l[j]?=some x->i=j
 |[],_,_,_,_,h,_=>by simp at h
 |a::l,0,0,_,_,_,_=>rfl
 |a::l,0,j+1,x,n,h1,h2=>by
  simp at h1 h2;subst h1;exact absurd (List.mem_of_getElem? h2) (List.nodup_cons.mp n).1
 |a::l,i+1,0,x,n,h1,h2=>by
  simp at h1 h2;subst h2;exact absurd (List.mem_of_getElem? h1) (List.nodup_cons.mp n).1
 |a::l,i+1,j+1,x,n,h1,h2=>by
  simp at h1 h2;rw[lh (List.nodup_cons.mp n).2 h1 h2]
theorem gI(l:List Str):(aH (ak l)).Nodup:=(bW _).nodup_iff.mpr (bS l)
theorem vB(l:List Str)(x:Str):x∈aH (ak l)↔x∈l:=by rw[(bW _).mem_iff,bY]
theorem jO{l names:List Str}(h:∀x∈l,x∈names):(ak l).length<=names.length:=jG (bS l) fun x hx=>h x ((bY l x).mp hx)
section
variable{Γ:Tab}
theorem lj{st:aj}{rows:List Row}{i:Nat}(hl:rows.length<=1000)(h:st[i]?=some (some (.loc,.tup (rows.map rwU)))):Run (ev Γ (.comp 1 false .seq [.var i] [] (.idx (.var 0) (.cst (.int 0))))) st (.own,.lst ((rows.map (·.1)).map .str)) st:=by
 have hsz:(1000:Nat)<=sizeLine:=by decide
 have hx:=fV (cond:=aM Γ []) (elt:=ev Γ (.idx (.var 0) (.cst (.int 0)))) (src:=[(.loc,.tup (rows.map rwU))]) (st:=st) trivial .loc (.inl rfl) rwU (fun r=>.str r.1) .loc (fun _=>gE) rows [] (by simp;omega)
  (fun r _=>⟨aP (x:=(.loc,rwU r)) (af rfl) av trivial rfl,aV⟩)
 rw[List.nil_append]at hx;have e:(rows.map rwU).map (fun u=>(kE .loc,u))=rows.map fun r=>(Kd.loc,rwU r):=by rw[List.map_map];rfl
 rw[List.map_map];exact bG (rs:=[(.loc,.tup (rows.map rwU))]) (aa (af h) ag) trivial (by show some _=_;rw[e]) hx
end
noncomputable def jP:Fn:=⟨"_law_widened",2,5,[.set 2 (.call "_law_drawn" [.call "_law_cell" [.var 0,.cst (.int 0)],.cst (.int 5)]),.ite (.cmp .gt (.bin .mod (.idx (.var 2) (.cst (.int 2))) (.cst (.int 4))) (.cst (.int 0))) [.ret (.var 1)] [],.set 1 (.call "_law_book" [.var 0,.cst (.int 20),.call "_law_names" [.var 0,.cst (.int 1),.bin .add (.cst (.int 1)) (.bin .mod (.idx (.var 2) (.cst (.int 0))) (.cst (.int 14)))],.cst (.int 60)]),.set 3 (.comp 1 false .seq [.var 1] [] (.idx (.var 0) (.cst (.int 0)))),.for_ false [4] .seq [.var 1] [.ext 3 (.idx (.var 4) (.cst (.int 1)))],.set 3 (.comp 1 false .seq [.bi2 .sset [.var 3]] [.cmp .notin (.tup [.var 0,.tup []]) (.var 2)] (.var 0)),.ret (.bin .add (.var 1) (.bi .tuple [.comp 1 false .rng1 [.bi .len [.var 3]] [.or [.cmp .eq (.bin .mod (.idx (.var 3) (.cst (.int 3))) (.cst (.int 2))) (.cst (.int 0)),.cmp .eq (.bin .mod (.var 0) (.cst (.int 2))) (.bin .mod (.idx (.var 3) (.cst (.int 4))) (.cst (.int 2)))]] (.tup [.idx (.var 4) (.var 0),.tup []])]))]⟩
structure yc(names:List Str)(rows:List Row)(n:Nat):Prop where
 pos:0<names.length
 few:names.length<=14
 once:names.Nodup
 word:∀x∈names,b8 x.cps.toList
 len:rows.length<=n
 keys:(rows.map keyOf).Nodup
 ok:∀r∈rows,fb names r
theorem og{Γ:Tab}(hc:fT Γ)(hd:dU Γ)(hn:iO Γ)(hb:pV Γ){ns:List Int}{names0:List Str}{rows0:List Row}(B0:yc names0 rows0 40):
  ∃names rows,yc names rows 74/\bO Γ jP [.lst (ns.map .int),.tup (rows0.map rwU)]=some (.ok (.loc,.tup (rows.map rwU))):=by
 have hsz:(4000:Nat)<=sizeLine:=by decide
 obtain⟨z,hz⟩:=hc ns 0 (by omega);obtain⟨ds,d1,d2,d3⟩:=hd z 5 (by omega);have i0:atI (ds.map U.int) 0=some (.int (dd ds 0)):=bb (i:=0) (by omega);have i2:atI (ds.map U.int) 2=some (.int (dd ds 2)):=bb (i:=2) (by omega);have i3:atI (ds.map U.int) 3=some (.int (dd ds 3)):=bb (i:=3) (by omega);have i4:atI (ds.map U.int) 4=some (.int (dd ds 4)):=bb (i:=4) (by omega);have n0:=c_ d2 0;obtain⟨names,a1,a2,a3,a4⟩:=hn ns 1 (1+dd ds 0 % 14).toNat (by omega) (by omega);rw[Int.toNat_of_nonneg (by omega)]at a4;obtain⟨rows,b1,b2,b3,b4⟩:=hb ns names 20 60 (by omega) (by omega) (by omega);have hst:TM.start [.lst (ns.map .int),.tup (rows0.map rwU)] 5=[some (.any,.lst (ns.map .int)),some (.loc,.tup (rows0.map rwU)),none,none,none]:=by simp[TM.start,imm,bc]
 let i5:Option (Kd×U):=some (.own,.lst (ds.map .int));have g2:∀{o1 o2 o3 o4:Option (Kd×U)},Run (ev Γ (.call "_law_drawn" [.call "_law_cell" [.var 0,.cst (.int 0)],.cst (.int 5)])) [some (.any,.lst (ns.map .int)),o1,o2,o3,o4] (.own,.lst (ds.map .int)) [some (.any,.lst (ns.map .int)),o1,o2,o3,o4]:=by
  intro o1 o2 o3 o4
  repeat' (first|exact hz|exact d3|sizeOf_list_dec)
 have gt:∀{o1 o3 o4:Option (Kd×U)},Run (tst Γ (.cmp .gt (.bin .mod (.idx (.var 2) (.cst (.int 2))) (.cst (.int 4))) (.cst (.int 0)))) [some (.any,.lst (ns.map .int)),o1,i5,o3,o4] (decide (0<dd ds 2 % 4)) [some (.any,.lst (ns.map .int)),o1,i5,o3,o4]:=by
  intro o1 o3 o4
  repeat' (first|exact aC i2|exact kZ rfl|sizeOf_list_dec)
 by_cases hq:0<dd ds 2 % 4
 ·refine⟨names0,rows0,⟨B0.pos,B0.few,B0.once,B0.word,by have:=B0.len;omega,B0.keys,B0.ok⟩,?_⟩;refine aE rfl (.inr rfl) hst (aA g2 aY (n9 gt (fun _=>bp (af rfl) cW) fun h=>?_));simp[hq]at h
 ·
  let acc:=dX rows;have hacc:∀x∈acc,x∈names:=gG b3;have htl:(rows.map (·.2)).flatten.length<=8 * rows.length:=gH fun r hr=>(b3 r hr).few;have hal:acc.length<=540:=by show(dX rows).length<=540;unfold dX;rw[List.length_append,List.length_map];omega
  have hdl:(ak acc).length<=14:=Nat.le_trans (jO hacc) (by omega);let words:=(aH (ak acc)).filter fun x=>decide (((x,[]):Row)∉rows);have hwl:words.length<=14:=Nat.le_trans (List.length_filter_le _ _) (by rw[a5];exact hdl);let pk:Nat->Bool:=fun i=>(dd ds 3 % 2==0)||((0+(i:Int)) % 2==dd ds 4 % 2)
  let pw:Nat->Row:=fun i=>((words[i]?).getD "",[])
  let pics:=((List.range words.length).filter pk).map pw;have hpm:∀r∈pics,r.2=[]/\r.1∈words:=fun r hr=>by
   obtain⟨i,hi,rfl⟩:=List.mem_map.mp hr;have:=List.mem_range.mp (List.mem_filter.mp hi).1;exact⟨rfl,by simp[pw,this]⟩
  have hpl:pics.length<=14:=by
   show(((List.range words.length).filter pk).map pw).length<=14;rw[List.length_map];exact Nat.le_trans (List.length_filter_le _ _) (by rw[List.length_range];exact hwl)
  have hpn:(pics.map keyOf).Nodup:=by
   have e:pics.map keyOf=((List.range words.length).filter pk).map fun i=>(((words[i]?).getD ("":Str),aH []):Row):=by
    show(((List.range words.length).filter pk).map pw).map keyOf=_;rw[List.map_map];rfl
   rw[e];have hnd:words.Nodup:=(gI acc).filter _;refine iu (fun i hi j hj e=>?_) (List.nodup_range.filter _);have hi':i<words.length:=List.mem_range.mp (List.mem_filter.mp hi).1;have hj':j<words.length:=List.mem_range.mp (List.mem_filter.mp hj).1;have e':(words[i]?).getD ("":Str)=(words[j]?).getD ("":Str):=congrArg Prod.fst e;rw[List.getElem?_eq_getElem hi',List.getElem?_eq_getElem hj',Option.getD_some,Option.getD_some]at e';exact lh hnd (List.getElem?_eq_getElem hi') (by rw[e'];exact List.getElem?_eq_getElem hj')
  refine⟨names,rows++pics,⟨by omega,by omega,a2,a3,by rw[List.length_append];omega,?_,fun r hr=>?_⟩,?_⟩
  ·rw[List.map_append,List.nodup_append];refine⟨b2,hpn,fun k hk k' hk' e=>?_⟩;subst e;obtain⟨r,hr,rfl⟩:=List.mem_map.mp hk;obtain⟨r',hr',e⟩:=List.mem_map.mp hk';obtain⟨e1,e2⟩:=hpm r' hr';have e3:r'.1=r.1:=by have:=congrArg Prod.fst e;exact this
   have e4:aH r'.2=aH r.2:=by have:=congrArg Prod.snd e;exact this
   rw[e1]at e4;have e5:r.2=[]:=by
    have h1:=a5 r.2;rw[<-e4,a5]at h1;exact List.eq_nil_of_length_eq_zero h1.symm
   have hw:=(List.mem_filter.mp e2).2;simp only[decide_eq_true_eq]at hw;exact hw (by rw[e3,<-e5];exact hr)
  ·rcases List.mem_append.mp hr with hr|hr
   ·exact b3 r hr
   ·obtain⟨e1,e2⟩:=hpm r hr;obtain⟨w,t⟩:=r;simp only at e1 e2;subst e1;exact⟨hacc _ ((vB acc w).mp (List.mem_filter.mp e2).1),by simp,by simp,by simp⟩
  ·let S:=fun(o3 o4:Option (Kd×U))=>([some (.any,.lst (ns.map .int)),some (.loc,.tup (rows.map rwU)),i5,o3,o4]:aj)
   have g1:Run (ev Γ (.call "_law_book" [.var 0,.cst (.int 20),.call "_law_names" [.var 0,.cst (.int 1),.bin .add (.cst (.int 1)) (.bin .mod (.idx (.var 2) (.cst (.int 0))) (.cst (.int 14)))],.cst (.int 60)])) [some (.any,.lst (ns.map .int)),some (.loc,.tup (rows0.map rwU)),i5,none,none] (.loc,.tup (rows.map rwU)) [some (.any,.lst (ns.map .int)),some (.loc,.tup (rows0.map rwU)),i5,none,none]:=by
    repeat' (first|exact aC i0|exact a4|exact b4|sizeOf_list_dec)
   have loop:=dW (t:=false) (is:=[4]) (body:=execs Γ [.ext 3 (.idx (.var 4) (.cst (.int 1)))]) (rs:=[(.loc,.tup (rows.map rwU))]) (fun r:Row=>(Kd.loc,rwU r))
    (fun d r st=>d++r=rows/\∃o4,st=S (some (.own,.lst ((rows.map (·.1)++(d.map (·.2)).flatten).map .str))) o4) (fun _ _ _ _=>trivial) (fun d y r st hIx=>by
     obtain⟨hdr,o4,e⟩:=hIx;subst e;have hy:y∈rows:=by rw[<-hdr];simp
     have hd8:(d.map (·.2)).flatten.length<=8 * d.length:=gH fun s hs=>(b3 s (by rw[<-hdr];simp[hs])).few;have hdl2:d.length<=rows.length:=by rw[<-hdr];simp
     have hy8:=(b3 y hy).few;refine⟨S (some (.own,.lst ((rows.map (·.1)++(d.map (·.2)).flatten).map .str))) (some (.loc,rwU y)),S (some (.own,.lst (((rows.map (·.1)++(d.map (·.2)).flatten).map .str)++y.2.map .str))) (some (.loc,rwU y)),cG aQ,?_,⟨by rw[<-hdr];simp,some (.loc,rwU y),?_⟩⟩
     ·exact vv (k:=.own) rfl (aP (x:=(.loc,rwU y)) (af rfl) av trivial rfl) rfl rfl (mG (by rw[List.length_map,List.length_append,List.length_map,List.length_map];omega) rfl) au
     ·simp[List.map_append]) rows [] (S (some (.own,.lst ((rows.map (·.1)).map .str))) none) ⟨rfl,none,by simp⟩
   obtain⟨st',hrun,_,o4,e⟩:=loop;subst e;have g3:Run (ev Γ (.comp 1 false .seq [.bi2 .sset [.var 3]] [.cmp .notin (.tup [.var 0,.tup []]) (.var 2)] (.var 0))) (S (some (.own,.lst (acc.map .str))) o4) (.own,.lst (words.map .str)) (S (some (.own,.lst (acc.map .str))) o4):=by
    have hx:=dm (cond:=aM Γ [.cmp .notin (.tup [.var 0,.tup []]) (.var 2)]) (elt:=ev Γ (.var 0)) (src:=[(.own,.lst ((aH (ak acc)).map .str))]) (st:=S (some (.own,.lst (acc.map .str))) o4) trivial .loc (.inl rfl) U.str U.str (fun x=>decide (((x,[]):Row)∉rows)) .loc (aH (ak acc)) [] (by rw[a5];simp;omega)
     (fun y _=>⟨cf (ba (x:=(.loc,rwU (y,[]))) (by repeat' (first|exact(by decide:(2:Nat)<=sizeLine)|exact(by decide:(0:Nat)<=sizeLine)|sizeOf_list_dec)) (af rfl) trivial sy),fun _=>⟨af rfl,aV⟩⟩)
    rw[List.nil_append]at hx;have e:((aH (ak acc)).map U.str).map (fun u=>(kE .own,u))=(aH (ak acc)).map fun r=>(Kd.loc,U.str r):=by rw[List.map_map];rfl
    exact bG (rs:=[(.own,.lst ((aH (ak acc)).map .str))]) (aa (nR (aa (ax rfl) ag) ⟨⟨.own,rfl,rfl⟩,trivial⟩ (fc (by omega) (by omega))) ag) trivial (by show some _=_;rw[e]) hx
   have g4:Run (ev Γ (.bi .tuple [.comp 1 false .rng1 [.bi .len [.var 3]] [.or [.cmp .eq (.bin .mod (.idx (.var 3) (.cst (.int 3))) (.cst (.int 2))) (.cst (.int 0)),.cmp .eq (.bin .mod (.var 0) (.cst (.int 2))) (.bin .mod (.idx (.var 3) (.cst (.int 4))) (.cst (.int 2)))]] (.tup [.idx (.var 4) (.var 0),.tup []])])) (S (some (.own,.lst (words.map .str))) o4) (.loc,.tup (pics.map rwU)) (S (some (.own,.lst (words.map .str))) o4):=by
    have hx:=dm (cond:=aM Γ [.or [.cmp .eq (.bin .mod (.idx (.var 3) (.cst (.int 3))) (.cst (.int 2))) (.cst (.int 0)),.cmp .eq (.bin .mod (.var 0) (.cst (.int 2))) (.bin .mod (.idx (.var 3) (.cst (.int 4))) (.cst (.int 2)))]]) (elt:=ev Γ (.tup [.idx (.var 4) (.var 0),.tup []])) (src:=[(.loc,.int ((words.map U.str).length:Nat))]) (st:=S (some (.own,.lst (words.map .str))) o4) trivial .loc (.inl rfl) (fun i:Nat=>U.int (0+(i:Int))) (fun i=>rwU (pw i)) pk .loc (List.range words.length) [] (by simp;omega)
     (fun i hi=>by
      have hi':i<words.length:=List.mem_range.mp hi;have ha:atI (words.map U.str) (0+(i:Int))=some (.str ((words[i]?).getD "")):=by rw[Int.zero_add];exact bq (by simp[hi'])
      refine⟨cf (uZ (n_ (p:=dd ds 3 % 2==0) (q:=(0+(i:Int)) % 2==dd ds 4 % 2) ?_ fun _=>nU ?_)),fun _=>⟨?_,aV⟩⟩
      ·repeat' (first|exact aC i3|exact dS rfl|sizeOf_list_dec)
      ·repeat' (first|exact aC i4|exact dS rfl|sizeOf_list_dec)
      ·repeat' (first|exact aC ha|exact(by decide:(2:Nat)<=sizeLine)|exact(by decide:(0:Nat)<=sizeLine)|sizeOf_list_dec))
    rw[List.nil_append]at hx;have e:itU .rng1 [(.loc,.int ((words.map U.str).length:Nat))]=some ((List.range words.length).map fun i:Nat=>(Kd.loc,U.int (0+(i:Int)))):=by rw[List.length_map];exact e_ (by omega)
    refine bK (rs:=[(.own,.lst (pics.map rwU))]) (aa (bG (rs:=[(.loc,.int ((words.map U.str).length:Nat))]) (aa (bK (aa (ax rfl) ag) ⟨⟨.own,rfl,rfl⟩,trivial⟩ rfl) ag) trivial e ?_) ag) trivial rfl;show Run _ _ ((((List.range words.length).filter pk).map pw).map rwU) _;rw[List.map_map];exact hx
   have e5:(rows.map rwU).map (fun u=>(kE .loc,u))=rows.map fun r=>(Kd.loc,rwU r):=by rw[List.map_map];rfl
   refine aE rfl (.inr rfl) hst (aA g2 aY (n9 gt (fun h=>by simp[hq]at h) fun _=>aA g1 aQ (aA (lj (by omega) rfl) aY (c9 (rs:=[(.loc,.tup (rows.map rwU))]) (aa (af rfl) ag) trivial rfl rfl (by rw[e5];exact hrun) (aA g3 aY (bp (a_ (af rfl) g4 trivial (r:=(.loc,.tup ((rows++pics).map rwU))) ?_) cW))))));rw[List.map_append];show(if _ then _ else _)=_;rw[if_pos (by simp;omega)];rfl
end TM
namespace TM
open PySem L2 W01
section
variable{Γ:Tab}{st st1 st2:aj}
end
theorem fe{k k':Kd}{xs ys:List U}(h:xs.length+ys.length<=sizeLine)(h1:eN k xs=true)(h2:eN k' ys=true):opU .add (k,.lst xs) (k',.lst ys)=some (.own,.lst (xs++ys)):=by
 simp only[opU,rW];rw[if_pos ⟨h,h1,h2⟩]
theorem lO{x y:Str}(h:x.cps.toList=y.cps.toList):x=y:=by
 obtain⟨a⟩:=x;obtain⟨b⟩:=y;have:a=b:=Array.toList_inj.mp h;rw[this]
noncomputable def cm(rows:List Row):List Str:=(rows.map fun r=>r.1::r.2).flatten
noncomputable def aF(rows:List Row):List Str:=aH (ak (cm rows))
theorem oh(d:List Row)(y:Row):cm (d++[y])=cm d++[y.1]++y.2:=by simp[cm]
theorem jQ{rows:List Row}{x:Str}:x∈cm rows↔∃r∈rows,x=r.1\/x∈r.2:=by
 simp only[cm,List.mem_flatten,List.mem_map];constructor
 ·rintro⟨l,⟨r,hr,rfl⟩,hx⟩;exact⟨r,hr,List.mem_cons.mp hx⟩
 ·rintro⟨r,hr,hx⟩;exact⟨_,⟨r,hr,rfl⟩,List.mem_cons.mpr hx⟩
theorem gJ{rows:List Row}{names:List Str}(h:∀r∈rows,fb names r):∀x∈cm rows,x∈names:=by
 intro x hx;obtain⟨r,hr,hx⟩:=jQ.mp hx;rcases hx with rfl|hx
 ·exact(h r hr).word
 ·exact(h r hr).told x hx
theorem jR{rows:List Row}(h:∀r∈rows,r.2.length<=8):(cm rows).length<=9 * rows.length:=by
 induction rows with
 |nil=>simp[cm]
 |cons r rows ih =>
  have h1:=h r (by simp);have h2:=ih fun s hs=>h s (by simp[hs]);simp only[cm,List.map_cons,List.flatten_cons,List.length_append,List.length_cons]at h2 ⊢;omega
theorem pW{rows:List Row}{names:List Str}(h:∀r∈rows,fb names r):(aF rows).length<=names.length:=by
 show(aH (ak (cm rows))).length<=_;rw[a5];exact jO (gJ h)
noncomputable def pX:Fn:=⟨"words_of",1,3,[.set 1 (.lst []),.for_ false [2] .seq [.var 0] [.app 1 (.idx (.var 2) (.cst (.int 0))),.ext 1 (.idx (.var 2) (.cst (.int 1)))],.ret (.bi2 .sset [.var 1])]⟩
theorem mJ{Γ:Tab}{rows:List Row}{names:List Str}(hl:rows.length<=100)(hr:∀r∈rows,fb names r)(hn:names.length<64):bO Γ pX [.tup (rows.map rwU)]=some (.ok (.own,.lst ((aF rows).map .str))):=by
 have hsz:(4000:Nat)<=sizeLine:=by decide
 have hst:TM.start [.tup (rows.map rwU)] 3=[some (.loc,.tup (rows.map rwU)),none,none]:=by simp[TM.start,imm,bc]
 have h8:∀r∈rows,r.2.length<=8:=fun r h=>(hr r h).few;obtain⟨st',hrun,_,o2,e⟩:=dW (t:=false) (is:=[2]) (body:=execs Γ [.app 1 (.idx (.var 2) (.cst (.int 0))),.ext 1 (.idx (.var 2) (.cst (.int 1)))]) (rs:=[(.loc,.tup (rows.map rwU))]) (fun r:Row=>(Kd.loc,rwU r))
  (fun d r st=>d++r=rows/\∃o2,st=[some (.loc,.tup (rows.map rwU)),some (.own,.lst ((cm d).map .str)),o2]) (fun _ _ _ _=>trivial) (fun d y r st hIx=>by
   obtain⟨hdr,o2,e⟩:=hIx;subst e;have hy:y∈rows:=by rw[<-hdr];simp
   have hd8:=jR (rows:=d) fun s hs=>h8 s (by rw[<-hdr];simp[hs]);have hdl:d.length<=100:=by have:=congrArg List.length hdr;simp at this;omega
   have hy8:=h8 y hy;refine⟨[some (.loc,.tup (rows.map rwU)),some (.own,.lst ((cm d).map .str)),some (.loc,rwU y)],[some (.loc,.tup (rows.map rwU)),some (.own,.lst ((cm d).map .str++[.str y.1]++y.2.map .str)),some (.loc,rwU y)],cG aQ,?_,by rw[<-hdr];simp,some (.loc,rwU y),?_⟩
   ·exact iq (k:=.own) (k':=.own) (r:=(.loc,.str y.1)) rfl (aP (x:=(.loc,rwU y)) (af rfl) av trivial rfl) aV rfl rfl (by rw[List.length_map];omega)
     (vv (k:=.own) rfl (aP (x:=(.loc,rwU y)) (af rfl) av trivial rfl) rfl rfl (mG (by simp;omega) rfl) au)
   ·rw[oh];simp) rows [] [some (.loc,.tup (rows.map rwU)),some (.own,.lst []),none] ⟨rfl,none,rfl⟩
 subst e;have e5:(rows.map rwU).map (fun u=>(kE .loc,u))=rows.map fun r=>(Kd.loc,rwU r):=by rw[List.map_map];rfl
 have hwl:=jR h8;have hdl:=jO (gJ hr);exact aE rfl (.inl rfl) hst (aA (r:=(.own,.lst [])) (cU ag trivial aX (Nat.zero_le _)) aY (c9 (rs:=[(.loc,.tup (rows.map rwU))]) (aa (af rfl) ag) trivial rfl rfl (by rw[e5];exact hrun) (bp (nR (aa (ax rfl) ag) ⟨⟨.own,rfl,rfl⟩,trivial⟩ (fc (by omega) (by omega))) cV)))
end TM
namespace TM
open PySem L2 W01
section
variable{Γ:Tab}{st st1 st2 st3 st4 st5:aj}
theorem Bl{j:Nat}{u u0:U}(h:st[j]?=some (some (.own,u))):Run (lift (.bor j,u0)) st u (st.set j (some (.loc,u))):=by
 show(match st[j]? with|some (some (.own,u))=>some (Ex.ok u,st.set j (some (.loc,u)))|_=>none)=_;rw[h]
theorem yd{c:M Bool}{body:M Fl}{n:Nat}(h:Run c st false st1):Run (gy c body (n+1)) st .nx st1:=ae h bf
theorem zV{c:M Bool}{body:M Fl}{n:Nat}{f:Fl}(h:Run c st true st1)(h2:Run body st1 .nx st2)(h3:Run (gy c body n) st2 f st3):Run (gy c body (n+1)) st f st3:=ae h (ae h2 h3)
theorem Bm{c:E}{body ss:List S}{f:Fl}(h:Run (gy (tst Γ c) (execs Γ body) fuel) st .nx st1)(h2:Run (execs Γ ss) st1 f st2):Run (execs Γ (.whl c body::ss)) st f st2:=g_ h h2
theorem oi{i j:Nat}{k:Kd}{a b:U}(hk:k=.loc\/k=.any):Run (cy true [i,j] (k,.tup [a,b])) st () ((st.set i (some (k,a))).set j (some (k,b))):=by
 rcases hk with rfl|rfl<;>rfl
theorem vC{is:List Nat}{e:E}{ss:List S}{r:Kd×U}{f:Fl}(h1:Run (ev Γ e) st r st1)(h2:Run (cy true is r) st1 () st2)(h3:Run (execs Γ ss) st2 f st3):Run (execs Γ (.setT is e::ss)) st f st3:=g_ (ae h1 (ae h2 bf)) h3
end
theorem jS{x:Str}{ss:List Str}:bo .isin (.str x) (.lst (ss.map U.str))=some (decide (x∈ss)):=by
 have h:=@jN x ss;have e:bo .notin (.str x) (.lst (ss.map U.str))=(bo .isin (.str x) (.lst (ss.map U.str))).map (!·):=rfl;rw[e,Option.map_eq_some_iff]at h;obtain⟨b,h1,h2⟩:=h;rw[h1];congr 1
 cases b<;>simp_all
theorem mK{k:Kd}(bs:List Bool):biU .all [(k,.lst (bs.map .bl))]=some (.loc,.bl (bs.all id)):=by
 show(eO (bs.map U.bl)).map _=_;have:∀bs:List Bool,eO (bs.map U.bl)=some bs:=fun bs=>by
  induction bs with
  |nil=>rfl
  |cons b bs ih=>show(eO (bs.map U.bl)).map _=_;rw[ih];rfl
 rw[this];rfl
mutual
theorem ll:∀(n:Nat) (u:U),eqD n u=true->bj u u=true
 |_,.non,_=>rfl
 |_,.bl b,_=>by simp[bj]
 |_,.int i,_=>by simp[bj]
 |_,.str x,_=>by simp[bj]
 |0,.tup xs,h=>by simp[eqD]at h
 |0,.lst xs,h=>by simp[eqD]at h
 |n+1,.tup xs,h=>by rw[bj];exact fY n xs (by simpa[eqD] using h)
 |n+1,.lst xs,h=>by rw[bj];exact fY n xs (by simpa[eqD] using h)
 |_,.dic _ _,h=>by simp[eqD]at h
 |_,.rdc _,h=>by simp[eqD]at h
theorem fY:∀(n:Nat) (us:List U),b9 n us=true->bM us us=true
 |_,[],_=>rfl
 |n,u::us,h=>by
  have h':eqD n u=true/\b9 n us=true:=by simpa[b9] using h
  rw[bM,ll n u h'.1,fY n us h'.2];rfl
end
theorem sA{u:U}(h:eqD 50 u=true):bo .ne u u=some false:=by
 simp only[bo];rw[if_pos ⟨h,h⟩,ll 50 u h];rfl
section
variable{Γ:Tab}
end
theorem mL{α:Type}{st:aj}{cond:M Bool}{elt:M (Kd×U)}{src:List (Kd×U)}(h:aZ src st)(a b g:α->U)(p:α->Bool):∀(ys:List α) (acc:List U),acc.length+ys.length<=sizeLine ->
  (∀y∈ys,Run cond (some (.loc,a y)::some (.loc,b y)::st) (p y) (some (.loc,a y)::some (.loc,b y)::st)/\Run elt (some (.loc,a y)::some (.loc,b y)::st) (.loc,g y) (some (.loc,a y)::some (.loc,b y)::st)) ->
  Run (bC 2 true cond elt src (ys.map fun y=>(Kd.loc,U.tup [a y,b y])) acc) st (acc++(ys.filter p).map g) st
 |[],acc,_,_=>by rw[List.map_nil,List.filter_nil,List.map_nil,List.append_nil];exact nW h
 |y::ys,acc,hl,hx=>by
  obtain⟨h1,h2⟩:=hx y (by simp);rw[List.length_cons]at hl;have ht:Run (cy true (List.range 2) (.loc,.tup [a y,b y])) (List.replicate 2 none++st) () (some (.loc,a y)::some (.loc,b y)::st):=oi (.inl rfl);cases hp:p y with
  |true =>
   rw[hp]at h1;refine jK (s1:=some (.loc,a y)::some (.loc,b y)::st) (s2:=some (.loc,a y)::some (.loc,b y)::st) (s3:=some (.loc,a y)::some (.loc,b y)::st) (s4:=some (.loc,a y)::some (.loc,b y)::st) h ht h1 h2 aV (by omega) ?_;have:=mL h a b g p ys (acc++[g y]) (by simp;omega) fun z hz=>hx z (by simp[hz]);rw[List.filter_cons,if_pos hp,List.map_cons];simpa using this
  |false =>
   rw[hp]at h1;refine pR (s1:=some (.loc,a y)::some (.loc,b y)::st) (s2:=some (.loc,a y)::some (.loc,b y)::st) h ht h1 ?_;have:=mL h a b g p ys acc (by omega) fun z hz=>hx z (by simp[hz]);rw[List.filter_cons,if_neg (by simp[hp])];exact this
end TM
namespace TM
open PySem L2 W01
section
variable{Γ:Tab}{st st1 st2:aj}
theorem Bn{ln:Bool}{a b:E}{x y r:Kd×U}{d1 d2:List Str}(h1:Run (ev Γ a) st x st1)(h2:fw x.2=some d1)(h3:Run (ev Γ b) st1 y st2)(h4:fw y.2=some d2)(h5:wQ ln d1 d2=some r):Run (ev Γ (.sdf ln a b)) st r st2 :=
 ae h1 (ae (cM h2) (ae h3 (ae (cM h4) (cM h5))))
end
theorem lp{ss:List Str}(h:ss.length<4000):fw (.lst (ss.map .str))=some (ak ss):=by
 show(strsOf (ss.map U.str)).bind _=_;rw[cO];show(if ss.length+1<scanBound then _ else _)=_;rw[if_pos (by show ss.length+1<4096;omega)]
theorem oj{l m:List Str}(hp:l.Perm m)(hs:m.Pairwise (fun a b=>leS a b=true)):aH l=m:=fg ((bW l).trans hp) (dv l) hs
theorem vD{a b:List Str}(h:∀x,x∈a↔x∈b):aH (ak a)=aH (ak b) :=
 ia ((List.perm_ext_iff_of_nodup (bS a) (bS b)).mpr fun x=>by rw[bY,bY,h x])
end TM
namespace K
open PySem L2 TM
noncomputable def top(i:Nat):Stmt:=PySem.Challenge.pw_primer_k15_what_is_a_knot.main.body.getD i (.Pass ⟨0,0,0,0⟩)
noncomputable def jT:Fn:=TM.pX
noncomputable def fm:Fn:=⟨"rows_of",2,2,[.ret (.comp 2 true .enm [.var 0] [.cmp .eq (.idx (.var 1) (.cst (.int 0))) (.var 3)] (.var 0))]⟩
noncomputable def cN:Fn:=⟨"is_blocked",3,4,[.set 3 (.call "rows_of" [.var 0,.idx (.var 1) (.cst (.int 0))]),.ite (.cmp .ne (.bi .len [.idx (.var 1) (.cst (.int 1))]) (.bi .len [.var 3])) [.ret (.cst (.bl false))] [],.ret (.bi .all [.comp 2 true .zip [.var 3,.idx (.var 1) (.cst (.int 1))] [] (.and [.cmp .isin (.var 1) (.idx (.idx (.var 2) (.var 0)) (.cst (.int 1))),.cmp .isin (.var 1) (.var 4)])])]⟩
noncomputable def fq:Fn:=⟨"is_knot",2,3,[.set 2 (.comp 1 false .seq [.var 1] [] (.idx (.var 0) (.cst (.int 0)))),.ite (.or [.cmp .ne (.var 2) (.bi2 .sset [.var 2]),.cmp .gt (.sdf true (.var 2) (.call "words_of" [.var 0])) (.cst (.int 0))]) [.ret (.cst (.bl false))] [],.ret (.bi .all [.comp 1 false .seq [.var 1] [] (.call "is_blocked" [.var 1,.var 0,.var 3])])]⟩
noncomputable def lq:Fn:=TM.sj
noncomputable def jU:Fn:=TM.qS
noncomputable def iw:Fn:=TM.mD
noncomputable def jV:Fn:=⟨"_law_name",2,6,[.set 2 (.cst (.str "abcdefghijklmnopqrstuvwxyz")),.set 3 (.mth .join (.cst (.str "")) [.comp 1 false .rng1 [.bin .add (.cst (.int 1)) (.bin .mod (.idx (.var 0) (.cst (.int 0))) (.cst (.int 8)))] [] (.idx (.var 3) (.bin .mod (.idx (.var 1) (.bin .add (.cst (.int 4)) (.var 0))) (.cst (.int 26))))]),.ite (.cmp .gt (.bi .len [.var 1]) (.cst (.int 0))) [.set 4 (.idx (.mth .split (.idx (.var 1) (.bin .mod (.idx (.var 0) (.cst (.int 1))) (.bi .len [.var 1]))) [.cst (.str "/")]) (.cst (.int 0))),.ite (.cmp .eq (.bin .mod (.idx (.var 0) (.cst (.int 2))) (.cst (.int 4))) (.cst (.int 1))) [.set 3 (.slc (.bin .add (.var 4) (.var 3)) [] [.cst (.int 8)])] [],.ite (.cmp .eq (.bin .mod (.idx (.var 0) (.cst (.int 2))) (.cst (.int 4))) (.cst (.int 2))) [.set 3 (.bin .add (.bin .add (.var 4) (.cst (.str "/"))) (.bi .str [.bin .add (.cst (.int 2)) (.bin .mod (.idx (.var 0) (.cst (.int 3))) (.cst (.int 98)))]))] []] [],.set 5 (.bin .add (.lst [.var 3]) (.comp 1 false .rng1 [.cst (.int 40)] [] (.bin .add (.idx (.var 3) (.bin .fdv (.var 0) (.cst (.int 26)))) (.idx (.var 3) (.bin .mod (.var 0) (.cst (.int 26))))))),.ret (.idx (.comp 1 false .seq [.var 5] [.cmp .notin (.var 0) (.var 2)] (.var 0)) (.cst (.int 0)))]⟩
noncomputable def ix:Fn:=TM.fNames
noncomputable def jW:Fn:=TM.ir
noncomputable def jX:Fn:=TM.vi
noncomputable def jY:Fn:=TM.vm
noncomputable def fH:Fn:=TM.jP
noncomputable def dY:Fn:=⟨"_law_held",2,6,[.set 2 (.bi2 .sset [.var 1]),.set 3 (.cst (.bl true)),.whl (.var 3) [.set 4 (.lst []),.for_ false [5] .seq [.var 2] [.ite (.bi .all [.comp 1 false .seq [.var 0] [.cmp .eq (.idx (.var 0) (.cst (.int 0))) (.var 6)] (.bi .any [.comp 1 false .seq [.idx (.var 0) (.cst (.int 1))] [] (.cmp .isin (.var 0) (.var 4))])]) [.app 4 (.var 5)] []],.set 3 (.cmp .lt (.bi .len [.var 4]) (.bi .len [.var 2])),.set 2 (.var 4)],.ret (.var 2)]⟩
noncomputable def da:Fn:=⟨"_law_words",1,3,[.set 1 (.comp 1 false .seq [.var 0] [] (.idx (.var 0) (.cst (.int 0)))),.for_ false [2] .seq [.var 0] [.ext 1 (.idx (.var 2) (.cst (.int 1)))],.ret (.bi2 .sset [.var 1])]⟩
noncomputable def dZ:Fn:=⟨"_law_walk",2,10,[.set 2 (.comp 1 false .seq [.var 1] [] (.idx (.var 0) (.cst (.int 0)))),.set 3 (.call "_law_words" [.var 0]),.for_ false [4] .rng1 [.bi .len [.var 1]] [.setT [5,6] (.idx (.var 1) (.var 4)),.set 7 (.comp 1 false .seq [.var 0] [.cmp .eq (.idx (.var 0) (.cst (.int 0))) (.var 6)] (.idx (.var 0) (.cst (.int 1)))),.ite (.or [.cmp .notin (.var 5) (.var 3),.and [.cmp .gt (.var 4) (.cst (.int 0)),.cmp .ge (.idx (.var 2) (.bin .sub (.var 4) (.cst (.int 1)))) (.var 5)],.cmp .ne (.bi .len [.var 6]) (.bi .len [.var 7])]) [.ret (.cst (.bl false))] [],.for_ true [8,9] .zip [.var 7,.var 6] [.ite (.or [.cmp .notin (.var 9) (.var 8),.cmp .notin (.var 9) (.var 2)]) [.ret (.cst (.bl false))] []]],.ret (.cst (.bl true))]⟩
noncomputable def dc:Fn:=⟨"_law_pairs",2,9,[.set 2 (.call "_law_words" [.var 1]),.set 3 (.call "_law_held" [.var 1,.comp 1 false .rng1 [.bi .len [.var 2]] [.cmp .gt (.bin .mod (.bin .fdv (.idx (.var 1) (.bin .mod (.var 0) (.cst (.int 16)))) (.cst (.int 2))) (.cst (.int 4))) (.cst (.int 0))] (.idx (.var 3) (.var 0))]),.set 4 (.lst []),.for_ false [5] .seq [.var 3] [.set 6 (.lst []),.for_ false [7] .seq [.var 1] [.ite (.cmp .eq (.idx (.var 7) (.cst (.int 0))) (.var 5)) [.set 8 (.comp 1 false .seq [.idx (.var 7) (.cst (.int 1))] [.cmp .isin (.var 0) (.var 4)] (.var 0)),.app 6 (.idx (.var 8) (.bin .mod (.idx (.var 0) (.bin .add (.cst (.int 16)) (.bin .mod (.bi .len [.var 6]) (.cst (.int 4))))) (.bi .len [.var 8])))] []],.app 4 (.tup [.var 5,.bi .tuple [.var 6]])],.ret (.var 4)]⟩
noncomputable def cn:Fn:=⟨"_law_pictured",3,9,[.set 3 (.comp 1 false .seq [.var 2] [.cmp .eq (.idx (.var 0) (.cst (.int 1))) (.tup [])] (.idx (.var 0) (.cst (.int 0)))),.ite (.cmp .eq (.bi .len [.var 3]) (.cst (.int 0))) [.ret (.var 1)] [],.set 4 (.idx (.var 3) (.bin .mod (.idx (.var 0) (.cst (.int 1))) (.bi .len [.var 3]))),.set 5 (.bin .add (.comp 1 false .seq [.var 1] [] (.idx (.var 0) (.cst (.int 0)))) (.lst [.var 4])),.set 6 (.lst []),.for_ true [7,8] .seq [.var 2] [.ite (.and [.cmp .eq (.var 7) (.var 4),.cmp .gt (.bi .len [.var 8]) (.cst (.int 0))]) [.app 6 (.idx (.bin .add (.comp 1 false .seq [.var 8] [.cmp .isin (.var 0) (.var 6)] (.var 0)) (.bi .list [.var 8])) (.cst (.int 0)))] []],.ret (.bi .sorted [.bin .add (.var 1) (.lst [.tup [.var 4,.bi .tuple [.var 6]]])])]⟩
noncomputable def d0:Fn:=⟨"_law_bent",3,10,[.set 3 (.bin .add (.call "_law_words" [.var 2]) (.lst [.cst (.str "a/99")])),.set 4 (.bin .mod (.idx (.var 0) (.cst (.int 0))) (.cst (.int 10))),.ite (.cmp .gt (.var 4) (.cst (.int 7))) [.ret (.calA "_law_pictured" [.var 0,.var 1,.var 2])] [],.ite (.cmp .eq (.bi .len [.var 1]) (.cst (.int 0))) [.ret (.lst [.tup [.idx (.var 3) (.bin .mod (.idx (.var 0) (.cst (.int 1))) (.bi .len [.var 3])),.tup []]])] [],.set 5 (.bin .mod (.idx (.var 0) (.cst (.int 1))) (.bi .len [.var 1])),.setT [6,7] (.idx (.var 1) (.var 5)),.ite (.cmp .eq (.var 4) (.cst (.int 0))) [.ret (.bin .add (.slc (.var 1) [] [.var 5]) (.slc (.var 1) [.bin .add (.var 5) (.cst (.int 1))] []))] [],.ite (.cmp .eq (.var 4) (.cst (.int 1))) [.ret (.bin .add (.bin .add (.slc (.var 1) [] [.var 5]) (.lst [.idx (.var 1) (.var 5)])) (.slc (.var 1) [.var 5] []))] [],.ite (.cmp .eq (.var 4) (.cst (.int 2))) [.ret (.bin .add (.slc (.var 1) [.var 5] []) (.slc (.var 1) [] [.var 5]))] [],.ite (.cmp .eq (.var 4) (.cst (.int 3))) [.ret (.bin .add (.var 1) (.lst [.tup [.cst (.str "zzzzzzzz/99"),.tup []]]))] [],.ite (.cmp .eq (.var 4) (.cst (.int 4))) [.ret (.bin .add (.bin .add (.slc (.var 1) [] [.var 5]) (.lst [.tup [.var 6,.slc (.var 7) [.cst (.int 1)] []]])) (.slc (.var 1) [.bin .add (.var 5) (.cst (.int 1))] []))] [],.ite (.cmp .eq (.var 4) (.cst (.int 5))) [.ret (.bin .add (.bin .add (.slc (.var 1) [] [.var 5]) (.lst [.tup [.var 6,.bin .add (.var 7) (.tup [.var 6])]])) (.slc (.var 1) [.bin .add (.var 5) (.cst (.int 1))] []))] [],.set 8 (.bin .mod (.idx (.var 0) (.cst (.int 2))) (.bi .max [.cst (.int 1),.bi .len [.var 7]])),.set 9 (.idx (.var 3) (.bin .mod (.idx (.var 0) (.cst (.int 3))) (.bi .len [.var 3]))),.ret (.bin .add (.bin .add (.slc (.var 1) [] [.var 5]) (.lst [.tup [.var 6,.bin .add (.bin .add (.slc (.var 7) [] [.var 8]) (.tup [.var 9])) (.slc (.var 7) [.bin .add (.var 8) (.cst (.int 1))] [])]])) (.slc (.var 1) [.bin .add (.var 5) (.cst (.int 1))] []))]⟩
noncomputable def qX:Fn:=⟨"law",1,6,[.set 1 (.call "_law_widened" [.var 0,.call "_law_made" [.var 0]]),.ite (.cmp .isnt (.call "is_knot" [.var 1,.lst []]) (.cst (.bl true))) [.ret (.cst (.bl false))] [],.for_ false [2] .rng1 [.cst (.int 6)] [.set 3 (.call "_law_pairs" [.call "_law_drawn" [.call "_law_cell" [.var 0,.bin .add (.cst (.int 56)) (.var 2)],.cst (.int 20)],.var 1]),.set 4 (.bi .list [.var 3]),.ite (.or [.cmp .isnt (.call "is_knot" [.var 1,.var 4]) (.cst (.bl true)),.cmp .ne (.var 4) (.var 3),.not (.call "_law_walk" [.var 1,.var 3])]) [.ret (.cst (.bl false))] [],.ite (.cmp .isnt (.call "is_knot" [.var 1,.bi .tuple [.var 3]]) (.cst (.bl true))) [.ret (.cst (.bl false))] [],.set 5 (.calA "_law_bent" [.frz (.slc (.call "_law_drawn" [.call "_law_cell" [.var 0,.bin .add (.cst (.int 50)) (.var 2)],.cst (.int 15)]) [.cst (.int 11)] []),.frz (.var 3),.var 1]),.ite (.cmp .ne (.bi .repr [.call "is_knot" [.var 1,.var 5]]) (.bi .repr [.call "_law_walk" [.var 1,.var 5]])) [.ret (.cst (.bl false))] []],.ret (.cst (.bl true))]⟩
noncomputable def prog:List Fn:=[jT,fm,cN,fq,lq,jU,iw,jV,ix,jW,jX,jY,fH,dY,da,dZ,dc,cn,d0,qX]
noncomputable def ck:Ck:=⟨prog.map (·.name),[]⟩
end K
namespace TM
open PySem L2 W01
noncomputable def hdA(rows:List Row)(k:Nat):Str:=(rows.getD k ("",[])).1
noncomputable def plc(rows:List Row)(w:Str):List Nat:=(List.range rows.length).filter fun k=>decide (hdA rows k=w)
noncomputable def cq(rows:List Row)(w:Str):List (List Str):=(rows.filter fun r=>decide (r.1=w)).map (·.2)
theorem qY(rows:List Row)(w:Str):(plc rows w).length<=rows.length:=by
 have:=List.length_filter_le (fun k=>decide (hdA rows k=w)) (List.range rows.length);rw[List.length_range]at this;exact this
theorem zW{rows:List Row}{w:Str}{i:Nat}(h:i∈plc rows w):i<rows.length:=List.mem_range.mp (List.mem_filter.mp h).1
theorem om(rows:List Row)(w:Str):(plc rows w).map (fun p=>(rows.getD p ("",[])).2)=cq rows w:=by
 have e:rows=(List.range rows.length).map fun p=>rows.getD p ("",[]):=by
  apply List.ext_getElem
  ·simp
  ·intro i h1 h2;simp[List.getD,h1]
 have h:cq rows w=(((List.range rows.length).map fun p=>rows.getD p ("",[])).filter fun r=>decide (r.1=w)).map (·.2):=by rw[<-e];rfl
 rw[h,List.filter_map,List.map_map];rfl
theorem lr(rows:List Row)(w:Str):(cq rows w).length=(plc rows w).length:=by rw[<-om,List.length_map]
noncomputable def okB(rows:List Row)(ins:List Str)(r:Row):Bool:=decide (r.2.length=(cq rows r.1).length)&&((cq rows r.1).zip r.2).all fun p=>decide (p.2∈p.1)&&decide (p.2∈ins)
noncomputable def isK(rows prs:List Row):Bool:=(decide (prs.map (·.1)=aH (ak (prs.map (·.1))))&&(prs.map (·.1)).all fun w=>decide (w∈aF rows))&&prs.all (okB rows (prs.map (·.1)))
theorem vE{x:Str}{ss:List Str}:bo .isin (.str x) (.tup (ss.map U.str))=some (decide (x∈ss)):=by
 have h:=@jS x ss;exact h
theorem zX{a b:List Str}:bo .ne (.lst (a.map U.str)) (.lst (b.map U.str))=some (!decide (a=b)):=by
 have h:=@vz a b;simp only[bo]at h ⊢;split at h
 ·rename_i hh;rw[if_pos hh,Option.some.inj h]
 ·cases h
theorem vF{i j:Int}:bo .ne (.int i) (.int j)=some (!decide (i=j)):=by
 simp only[bo];rw[if_pos ⟨rfl,rfl⟩];congr 1
end TM
namespace K
open PySem L2 TM W01
section
variable{Γ:Tab}{rows:List Row}
theorem oo(hr:rows.length<=100)(w:Str):bO Γ fm [.tup (rows.map rwU),.str w]=some (.ok (.own,.lst ((plc rows w).map fun n:Nat=>.int (n:Nat)))):=by
 have hsz:(2000:Nat)<=sizeLine:=by decide
 have hst:TM.start [.tup (rows.map rwU),.str w] 2=[some (.loc,.tup (rows.map rwU)),some (.loc,.str w)]:=by simp[TM.start,imm,bc]
 have hx:=mL (st:=[some (.loc,.tup (rows.map rwU)),some (.loc,.str w)]) (cond:=aM Γ [.cmp .eq (.idx (.var 1) (.cst (.int 0))) (.var 3)]) (elt:=ev Γ (.var 0)) (src:=[(.loc,.tup (rows.map rwU))]) trivial (fun p:Nat=>U.int (p:Nat)) (fun p:Nat=>rwU (rows.getD p ("",[]))) (fun p:Nat=>U.int (p:Nat)) (fun p=>decide (hdA rows p=w)) (List.range rows.length) [] (by simp;omega)
  (fun y _=>⟨cf (ba (aP (x:=(.loc,rwU (rows.getD y ("",[])))) (af rfl) av trivial rfl) (af rfl) trivial gF),af rfl⟩)
 rw[List.nil_append]at hx;have e:((rows.map rwU).zipIdx.map fun p=>(kE .loc,U.tup [.int p.2,p.1]))=(List.range rows.length).map fun p:Nat=>(Kd.loc,U.tup [.int (p:Nat),rwU (rows.getD p ("",[]))]):=by
  apply List.ext_getElem
  ·simp
  ·intro i h1 h2;have hi:i<rows.length:=by simpa using h1
   simp[kE,List.getD,hi]
 exact aE rfl (.inl rfl) hst (bp (bG (rs:=[(.loc,.tup (rows.map rwU))]) (aa (af rfl) ag) trivial (by show some _=_;rw[e]) hx) cV)
theorem oq(hr:rows.length<=100)(hro:∀w:Str,Γ "rows_of" [.tup (rows.map rwU),.str w]=some (.ok (.own,.lst ((plc rows w).map fun n:Nat=>.int (n:Nat)))))(r:Row)(ins:List Str):bO Γ cN [.tup (rows.map rwU),rwU r,.lst (ins.map .str)]=some (.ok (.loc,.bl (okB rows ins r))):=by
 have hsz:(2000:Nat)<=sizeLine:=by decide
 let P:=plc rows r.1;have hPl:P.length<=100:=Nat.le_trans (qY rows r.1) hr;let S:=fun(o3:Option (Kd×U))=>([some (.loc,.tup (rows.map rwU)),some (.loc,rwU r),some (.any,.lst (ins.map .str)),o3]:aj)
 have hst:TM.start [.tup (rows.map rwU),rwU r,.lst (ins.map .str)] 4=S none:=by simp[TM.start,imm,bc,iP,S]
 let i3:Option (Kd×U):=some (.own,.lst (P.map fun n:Nat=>.int (n:Nat)));have g3:Run (ev Γ (.call "rows_of" [.var 0,.idx (.var 1) (.cst (.int 0))])) (S none) (.own,.lst (P.map fun n:Nat=>.int (n:Nat))) (S none):=bF (aa (af rfl) (aa (aP (x:=(.loc,rwU r)) (af rfl) av trivial rfl) ag)) trivial (hro r.1);have j1:Run (ev Γ (.idx (.var 1) (.cst (.int 1)))) (S i3) (.loc,.tup (r.2.map .str)) (S i3):=aP (x:=(.loc,rwU r)) (af rfl) av trivial rfl;have tc:Run (tst Γ (.cmp .ne (.bi .len [.idx (.var 1) (.cst (.int 1))]) (.bi .len [.var 3]))) (S i3) (!decide (((r.2.map U.str).length:Int)=((P.map fun n:Nat=>U.int (n:Nat)).length:Nat))) (S i3) :=
  ba (bK (aa j1 ag) trivial iM) (bK (aa (ax rfl) ag) ⟨⟨.own,rfl,rfl⟩,trivial⟩ bH) trivial vF
 have hlen:(decide (((r.2.map U.str).length:Int)=((P.map fun n:Nat=>U.int (n:Nat)).length:Nat)))=decide (r.2.length=(cq rows r.1).length):=by
  rw[lr,Bool.eq_iff_iff];simp only[decide_eq_true_eq,List.length_map];show((r.2.length:Nat):Int)=((plc rows r.1).length:Nat)↔_;omega
 rw[hlen]at tc;let f:Nat×Str->Bool:=fun q=>decide (q.2∈(rows.getD q.1 ("",[])).2)&&decide (q.2∈ins);have hx:=mL (st:=S i3) (cond:=aM Γ []) (elt:=ev Γ (.and [.cmp .isin (.var 1) (.idx (.idx (.var 2) (.var 0)) (.cst (.int 1))),.cmp .isin (.var 1) (.var 4)])) (src:=[(.bor 3,.lst (P.map fun n:Nat=>.int (n:Nat))),(.loc,.tup (r.2.map .str))]) ⟨⟨.own,rfl,rfl⟩,trivial⟩ (fun q:Nat×Str=>U.int (q.1:Nat)) (fun q=>U.str q.2) (fun q=>U.bl (f q)) (fun _=>true) (P.zip r.2) [] (by simp;omega)
  (fun q hq=>⟨gE,by
   have hq1:q.1<rows.length:=zW (List.of_mem_zip hq).1;have ha:atI (rows.map rwU) (q.1:Int)=some (rwU (rows.getD q.1 ("",[]))):=bq (by simp[List.getD,hq1]);exact Ba (zS (jI (af rfl) (aP (x:=(.loc,rwU (rows.getD q.1 ("",[])))) (aP (af rfl) (af rfl) trivial (oK ha)) av trivial rfl) trivial vE) fun _=>zM (jI (af rfl) (aq rfl) trivial jS))⟩)
 rw[List.nil_append,List.filter_eq_self.mpr (fun _ _=>rfl)]at hx;have e:itU .zip [(.bor 3,.lst (P.map fun n:Nat=>.int (n:Nat))),(.loc,.tup (r.2.map .str))]=some ((P.zip r.2).map fun q=>(Kd.loc,U.tup [.int (q.1:Nat),.str q.2])):=by
  show some (((P.map fun n:Nat=>U.int (n:Nat)).zip (r.2.map U.str)).map fun p=>(kT (.bor 3) .loc,U.tup [p.1,p.2]))=_;rw[List.zip_map,List.map_map];rfl
 have hc:=bG (Γ:=Γ) (st:=S i3) (st1:=S i3) (rs:=[(.bor 3,.lst (P.map fun n:Nat=>.int (n:Nat))),(.loc,.tup (r.2.map .str))]) (aa (ax rfl) (aa j1 ag)) ⟨⟨.own,rfl,rfl⟩,trivial⟩ e hx;have e2:((P.zip r.2).map fun q=>U.bl (f q))=((P.zip r.2).map f).map U.bl:=by rw[List.map_map];rfl
 rw[e2]at hc;have e3:(((P.zip r.2).map f).all id)=((cq rows r.1).zip r.2).all fun p=>decide (p.2∈p.1)&&decide (p.2∈ins):=by
  rw[<-om,List.all_map];have:(((plc rows r.1).map fun p=>(rows.getD p ("",[])).2).zip r.2)=((plc rows r.1).zip r.2).map fun q=>((rows.getD q.1 ("",[])).2,q.2):=by
   have:=List.zip_map (f:=fun p=>(rows.getD p ("",[])).2) (g:=(id:Str->Str)) (l₁:=plc rows r.1) (l₂:=r.2);rw[List.map_id]at this;rw[this];rfl
  rw[this,List.all_map];rfl
 have ra:=bK (aa hc ag) trivial (mK ((P.zip r.2).map f));rw[e3]at ra;cases hb:decide (r.2.length=(cq rows r.1).length) with
 |false =>
  rw[hb]at tc;have:okB rows ins r=false:=by unfold okB;rw[hb];rfl
  rw[this];exact aE rfl (.inr rfl) hst (aA g3 aY (b0 tc (bp av cW)))
 |true =>
  rw[hb]at tc;have:okB rows ins r=((cq rows r.1).zip r.2).all fun p=>decide (p.2∈p.1)&&decide (p.2∈ins):=by unfold okB;rw[hb];rfl
  rw[this];exact aE rfl (.inr rfl) hst (aA g3 aY (aB tc au (bp ra cW)))
end
end K
namespace TM
open PySem L2 W01
noncomputable def asc(W:List Str)(k:Nat):Bool:=!(decide (0<k)&&!ltS (W.getD (k - 1) "") (W.getD k ""))
theorem iQ{a b:Str}:ltS a b=true↔leS a b=true/\a≠b:=by
 unfold ltS;rw[decide_eq_true_iff,gk];constructor
 ·intro h;refine⟨Std.le_of_lt h,fun e=>?_⟩;subst e;exact List.lt_irrefl _ h
 ·rintro⟨h,ne⟩;by_cases z:a.cps.toList<b.cps.toList
  ·exact z
  ·exact absurd (lO (Std.le_antisymm h (Std.not_lt.mp z))) ne
theorem zY{W:List Str}(h:∀k,k<W.length->asc W k=true):W.Pairwise fun a b=>ltS a b=true:=by
 rw[List.pairwise_iff_getElem];have step:∀k (h1:k+1<W.length),ltS W[k] W[k+1]=true:=fun k h1=>by
  have:=h (k+1) h1;unfold asc at this;simp[List.getD,h1,Nat.lt_of_succ_lt h1]at this;exact this
 intro i j hi hj hij;obtain⟨d,rfl⟩:∃d,j=i+1+d:=⟨j - (i+1),by omega⟩
 induction d with
 |zero=>exact step i hj
 |succ d ih =>
  have h1:=ih (by omega) (by omega);have h2:=step (i+1+d) (by omega);rw[iQ]at h1 h2 ⊢;refine⟨gP _ _ _ h1.1 h2.1,fun e=>h1.2 (gm h1.1 ?_)⟩;rw[e];exact h2.1
theorem zZ(W:List Str):decide (W=aH (ak W))=(List.range W.length).all (asc W):=by
 rw[Bool.eq_iff_iff];simp only[decide_eq_true_eq,List.all_eq_true,List.mem_range];constructor
 ·intro e k hk;unfold asc;rw[Bool.not_eq_true',Bool.and_eq_false_iff];by_cases h0:0<k
  ·refine .inr ?_;have pw:W.Pairwise fun a b=>leS a b=true:=by rw[e];exact dv _
   have nd:W.Nodup:=by rw[e];exact gI _
   have h1:=List.pairwise_iff_getElem.mp pw (k - 1) k (by omega) hk (by omega);have h2:W[k - 1]≠W[k]:=fun z=>by
    have:=(List.getElem_inj nd).mp z;omega
   have:=iQ.mpr ⟨h1,h2⟩;simp[List.getD,hk,show k - 1<W.length by omega,this]
  ·exact .inl (decide_eq_false h0)
 ·intro h;have pw:=zY h;have nd:W.Nodup:=pw.imp fun z=>(iQ.mp z).2;refine(oj ?_ (pw.imp fun z=>(iQ.mp z).1)).symm;exact(List.perm_ext_iff_of_nodup (bS _) nd).mpr fun x=>bY _ _
noncomputable def stepOk(rows prs:List Row)(k:Nat):Bool:=decide ((prs.getD k ("",[])).1∈aF rows)&&asc (prs.map (·.1)) k&&okB rows (prs.map (·.1)) (prs.getD k ("",[]))
theorem lu(rows prs:List Row):isK rows prs=(List.range prs.length).all (stepOk rows prs):=by
 unfold isK;rw[zZ,Bool.eq_iff_iff];simp only[Bool.and_eq_true,List.all_eq_true,List.mem_range,List.length_map,stepOk,decide_eq_true_eq];have at_:∀k,k<prs.length->prs.getD k ("",[])∈prs:=fun k hk=>by simp[List.getD,hk]
 constructor
 ·rintro⟨⟨h1,h2⟩,h3⟩ k hk;exact⟨⟨h2 _ (List.mem_map.mpr ⟨_,at_ k hk,rfl⟩),h1 k hk⟩,h3 _ (at_ k hk)⟩
 ·intro h;refine⟨⟨fun k hk=>(h k hk).1.2,fun w hw=>?_⟩,fun r hr=>?_⟩
  ·obtain⟨r,hr,rfl⟩:=List.mem_map.mp hw;obtain⟨k,hk,rfl⟩:=List.mem_iff_getElem.mp hr;have:=(h k hk).1.1;simpa[List.getD,hk] using this
  ·obtain⟨k,hk,rfl⟩:=List.mem_iff_getElem.mp hr;have:=(h k hk).2;simpa[List.getD,hk] using this
noncomputable def iF(t:Bool)(prs:List Row):U:=if t=true then .tup (prs.map rwU) else .lst (prs.map rwU)
noncomputable def dF(t:Bool):Kd:=if t=true then .loc else .any
theorem z_{x y:Str}:bo .ge (.str x) (.str y)=some (!ltS x y):=rfl
theorem Aa{k:Kd}(r:Row):gw (k,rwU r) (.int 0)=some (kE k,.str r.1):=rfl
end TM
namespace K
open PySem L2 TM W01
section
variable{Γ:Tab}{rows:List Row}
theorem ot{prs:List Row}(t:Bool)(hl:prs.length<=60)(hwl:(aF rows).length<64)(hw:Γ "words_of" [.tup (rows.map rwU)]=some (.ok (.own,.lst ((aF rows).map .str))))(hbl:∀(r:Row) (ins:List Str),Γ "is_blocked" [.tup (rows.map rwU),rwU r,.lst (ins.map .str)]=some (.ok (.loc,.bl (okB rows ins r)))):
  bO Γ fq [.tup (rows.map rwU),iF t prs]=some (.ok (.loc,.bl (isK rows prs))):=by
 have hsz:(2000:Nat)<=sizeLine:=by decide
 let W:=prs.map (·.1);have hWl:W.length<=60:=by show(prs.map (·.1)).length<=60;rw[List.length_map];exact hl
 let S:=fun(o2:Option (Kd×U))=>([some (.loc,.tup (rows.map rwU)),some (dF t,iF t prs),o2]:aj)
 have hst:TM.start [.tup (rows.map rwU),iF t prs] 3=S none:=by cases t<;>simp[TM.start,imm,bc,iF,dF,S]
 have v1:∀o2,Run (ev Γ (.var 1)) (S o2) (dF t,iF t prs) (S o2):=fun o2=>by
  cases t
  ·exact aq rfl
  ·exact af rfl
 have s1:∀st,aZ [(dF t,iF t prs)] st:=fun st=>by cases t<;>trivial
 have it1:itU .seq [(dF t,iF t prs)]=some (prs.map fun r=>(dF t,rwU r)):=by cases t<;>(show some ((prs.map rwU).map _)=_;rw[List.map_map];rfl)
 have kk:dF t=.loc\/dF t=.any:=by cases t<;>simp[dF]
 have v0:∀(r:Row) (st:aj),Run (ev Γ (.var 0)) (some (dF t,rwU r)::st) (dF t,rwU r) (some (dF t,rwU r)::st):=fun r st=>by
  cases t
  ·exact aq rfl
  ·exact af rfl
 have sk:∀(r:Row) (u:U) (st:aj),aZ [(dF t,rwU r),(.loc,u)] st:=fun r u st=>by cases t<;>trivial
 have g2:Run (ev Γ (.comp 1 false .seq [.var 1] [] (.idx (.var 0) (.cst (.int 0))))) (S none) (.own,.lst (W.map .str)) (S none):=by
  have hx:=fV (cond:=aM Γ []) (elt:=ev Γ (.idx (.var 0) (.cst (.int 0)))) (src:=[(dF t,iF t prs)]) (st:=S none) (s1 _) (dF t) kk rwU (fun r=>.str r.1) (kE (dF t)) (fun _=>gE) prs [] (by simp;omega)
   (fun r _=>⟨aP (v0 r _) av (sk r _ _) (Aa r),by cases t;exact dB rfl;exact aV⟩)
  rw[List.nil_append]at hx;have e:W.map U.str=prs.map fun r=>U.str r.1:=by show(prs.map (·.1)).map U.str=_;rw[List.map_map];rfl
  rw[e];exact bG (rs:=[(dF t,iF t prs)]) (aa (v1 none) ag) (s1 _) it1 hx
 let i2:Option (Kd×U):=some (.own,.lst (W.map .str));have hd1:(ak W).length<64:=Nat.lt_of_le_of_lt (cP _) (by omega);have hd2:(ak (aF rows)).length<64:=Nat.lt_of_le_of_lt (cP _) hwl;let n:=((ak W).filter fun x=>decide (x∉ak (aF rows))).length;have t2:Run (tst Γ (.cmp .gt (.sdf true (.var 2) (.call "words_of" [.var 0])) (.cst (.int 0)))) (S i2) (decide ((0:Int)<(n:Nat))) (S i2):=by
  refine ba (Bn (r:=(.loc,.int (n:Nat))) (ax rfl) (lp (by omega)) (bF (aa (af rfl) ag) trivial hw) (lp (by omega)) ?_) av trivial rfl;show(if _/\_ then _ else _)=_;rw[if_pos ⟨hd1,hd2⟩,if_pos rfl]
 have en:decide ((0:Int)<(n:Nat))=!(W.all fun w=>decide (w∈aF rows)):=by
  rw[Bool.eq_iff_iff,Bool.not_eq_true',<-Bool.not_eq_true,decide_eq_true_eq,List.all_eq_true];have:(0:Int)<(n:Nat)↔∃x,x∈(ak W).filter fun x=>decide (x∉ak (aF rows)):=by
   show(0:Int)<(((ak W).filter fun x=>decide (x∉ak (aF rows))).length:Nat)↔_;rw[<-List.length_pos_iff_exists_mem];omega
  rw[this];simp only[List.mem_filter,decide_eq_true_eq,bY];constructor
  ·rintro⟨x,h1,h2⟩ h;exact h2 (h x h1)
  ·intro h;by_cases z:∃x,x∈W/\x∉aF rows
   ·exact z
   ·exact absurd (fun x hx=>by by_cases y:x∈aF rows;exact y;exact absurd ⟨x,hx,y⟩ z) h
 rw[en]at t2;have tc:Run (tst Γ (.or [.cmp .ne (.var 2) (.bi2 .sset [.var 2]),.cmp .gt (.sdf true (.var 2) (.call "words_of" [.var 0])) (.cst (.int 0))])) (S i2) (!(decide (W=aH (ak W))&&W.all fun w=>decide (w∈aF rows))) (S i2):=by
  rw[Bool.not_and];exact uZ (n_ (ba (ax rfl) (nR (aa (ax rfl) ag) ⟨⟨.own,rfl,rfl⟩,trivial⟩ (fc (by omega) hd1)) ⟨⟨.own,rfl,rfl⟩,trivial⟩ zX) fun _=>nU t2)
 have hx:=fV (cond:=aM Γ []) (elt:=ev Γ (.call "is_blocked" [.var 1,.var 0,.var 3])) (src:=[(dF t,iF t prs)]) (st:=S i2) (s1 _) (dF t) kk rwU (fun r=>.bl (okB rows W r)) .loc (fun _=>gE) prs [] (by simp;omega)
  (fun r _=>⟨bF (aa (af rfl) (aa (v0 r _) (aa (ax rfl) ag))) (by cases t<;>exact⟨⟨.own,rfl,rfl⟩,trivial⟩) (hbl r W),aV⟩)
 rw[List.nil_append]at hx;have hc:=bG (Γ:=Γ) (st:=S i2) (st1:=S i2) (rs:=[(dF t,iF t prs)]) (aa (v1 i2) ag) (s1 _) it1 hx;have e2:(prs.map fun r=>U.bl (okB rows W r))=(prs.map (okB rows W)).map U.bl:=by rw[List.map_map];rfl
 rw[e2]at hc;have ra:=bK (aa hc ag) trivial (mK (prs.map (okB rows W)));have e3:(prs.map (okB rows W)).all id=prs.all (okB rows W):=by rw[List.all_map];rfl
 rw[e3]at ra;have eK:isK rows prs=((decide (W=aH (ak W))&&W.all fun w=>decide (w∈aF rows))&&prs.all (okB rows W)):=rfl;rw[eK];cases hb:(decide (W=aH (ak W))&&W.all fun w=>decide (w∈aF rows)) with
 |false=>rw[hb]at tc;exact aE rfl (.inr rfl) hst (aA g2 aY (b0 tc (bp av cW)))
 |true=>rw[hb]at tc;exact aE rfl (.inr rfl) hst (aA g2 aY (aB tc au (bp ra cW)))
end
end K
namespace K
open PySem L2 TM W01
section
variable{Γ:Tab}{rows:List Row}{names:List Str}
theorem pY(hr:rows.length<=100)(hR:∀r∈rows,fb names r)(hn:names.length<64):bO Γ da [.tup (rows.map rwU)]=some (.ok (.own,.lst ((aF rows).map .str))):=by
 have hsz:(4000:Nat)<=sizeLine:=by decide
 let R0:Option (Kd×U):=some (.loc,.tup (rows.map rwU));have hst:TM.start [.tup (rows.map rwU)] 3=[R0,none,none]:=by simp[TM.start,imm,bc,R0]
 let S:=fun(ws:List Str) (o2:Option (Kd×U))=>([R0,some (.own,.lst (ws.map .str)),o2]:aj)
 let H:=rows.map (·.1);have hH:H.length<=100:=by show(rows.map (·.1)).length<=100;simpa using hr
 have h8:∀r∈rows,r.2.length<=8:=fun r h=>(hR r h).few;obtain⟨st',hrun,_,o2,e⟩:=dW (t:=false) (is:=[2]) (body:=execs Γ [.ext 1 (.idx (.var 2) (.cst (.int 1)))]) (rs:=[(.loc,.tup (rows.map rwU))]) (fun r:Row=>(Kd.loc,rwU r))
  (fun d r st=>d++r=rows/\∃o2,st=S (H++(d.map (·.2)).flatten) o2) (fun _ _ _ _=>trivial) (fun d y r st hIx=>by
   obtain⟨hdr,o2,e⟩:=hIx;subst e;have hy:y∈rows:=by rw[<-hdr];simp
   have hd8:=gH (rows:=d) (n:=8) fun s hs=>h8 s (by rw[<-hdr];simp[hs]);have hdl:d.length<=100:=by have:=congrArg List.length hdr;simp at this;omega
   have hy8:=h8 y hy;refine⟨S (H++(d.map (·.2)).flatten) (some (.loc,rwU y)),S (H++((d++[y]).map (·.2)).flatten) (some (.loc,rwU y)),cG aQ,?_,by rw[<-hdr];simp,some (.loc,rwU y),rfl⟩;have e1:(H++((d++[y]).map (·.2)).flatten).map U.str=(H++(d.map (·.2)).flatten).map U.str++y.2.map U.str:=by simp
   show Run _ _ _ [R0,some (.own,.lst ((H++((d++[y]).map (·.2)).flatten).map .str)),some (.loc,rwU y)];rw[e1];exact vv (k:=.own) (k':=.own) rfl (aP (x:=(.loc,rwU y)) (af rfl) av trivial rfl) rfl rfl (mG (by rw[List.length_map,List.length_map,List.length_append];omega) rfl) au) rows [] (S H none) ⟨rfl,none,by simp⟩
 subst e;rw[List.nil_append]at hrun;have hL:H++(rows.map (·.2)).flatten=dX rows:=rfl;rw[hL]at hrun;have hll:(dX rows).length<4000:=by
  have:=gH h8;show(H++(rows.map (·.2)).flatten).length<4000;rw[List.length_append];omega
 have hdd:(ak (dX rows)).length<64:=by have:=jO (gG hR);omega
 have eW:aH (ak (dX rows))=aF rows:=vD fun x=>by
  rw[jQ];simp only[dX,List.mem_append,List.mem_map,List.mem_flatten];constructor
  ·rintro(⟨r,hr,rfl⟩|⟨l,⟨r,hr,rfl⟩,hx⟩)
   ·exact⟨r,hr,.inl rfl⟩
   ·exact⟨r,hr,.inr hx⟩
  ·rintro⟨r,hr,rfl|hx⟩
   ·exact .inl ⟨r,hr,rfl⟩
   ·exact .inr ⟨_,⟨r,hr,rfl⟩,hx⟩
 have e5:(rows.map rwU).map (fun u=>(kE .loc,u))=rows.map fun r=>(Kd.loc,rwU r):=by rw[List.map_map];rfl
 have hset:=fc (k:=.bor 1) hll hdd;rw[eW]at hset;exact aE rfl (.inl rfl) hst (aA (lj (by omega) rfl) aY (c9 (rs:=[(.loc,.tup (rows.map rwU))]) (aa (af rfl) ag) trivial rfl rfl (by rw[e5];exact hrun) (bp (nR (aa (ax rfl) ag) ⟨⟨.own,rfl,rfl⟩,trivial⟩ hset) cV)))
noncomputable def mM:List TM.S:=[.ite (.or [.cmp .notin (.var 9) (.var 8),.cmp .notin (.var 9) (.var 2)]) [.ret (.cst (.bl false))] []]
noncomputable abbrev wS(bk pu:Option (Kd×U))(W words:List Str)(o4 o5 o6 o7 o8 o9:Option (Kd×U)):aj:=[bk,pu,some (.own,.lst (W.map .str)),some (.own,.lst (words.map .str)),o4,o5,o6,o7,o8,o9]
noncomputable abbrev tU(T:List (List Str)):U:=.lst (T.map fun t=>.tup (t.map .str))
theorem ou{W words:List Str}{T:List (List Str)}{u6:U}{bk pu:Option (Kd×U)}{o4 o5:Option (Kd×U)}:
  ∀(qs:List (List Str×Str)) (o8 o9:Option (Kd×U)),
  (qs.all (fun p=>decide (p.2∈p.1)&&decide (p.2∈W))=true->∃o8' o9',Run (forM true [8,9] (execs Γ mM) [(.bor 7,.lst (T.map fun t=>.tup (t.map .str))),(.any,u6)] (qs.map fun p=>(Kd.any,U.tup [.tup (p.1.map .str),.str p.2]))) (wS bk pu W words o4 o5 (some (.any,u6)) (some (.own,tU T)) o8 o9) .nx (wS bk pu W words o4 o5 (some (.any,u6)) (some (.own,tU T)) o8' o9')) /\
  (qs.all (fun p=>decide (p.2∈p.1)&&decide (p.2∈W))=false->∃st',Run (forM true [8,9] (execs Γ mM) [(.bor 7,.lst (T.map fun t=>.tup (t.map .str))),(.any,u6)] (qs.map fun p=>(Kd.any,U.tup [.tup (p.1.map .str),.str p.2]))) (wS bk pu W words o4 o5 (some (.any,u6)) (some (.own,tU T)) o8 o9) (.rt .loc (.bl false)) st')
 |[],o8,o9=>⟨fun _=>⟨o8,o9,qQ ⟨⟨.own,rfl,rfl⟩,trivial⟩⟩,fun h=>by cases h⟩
 |p::qs,o8,o9=>by
  let S:=wS bk pu W words o4 o5 (some (.any,u6)) (some (.own,tU T));have ih:=ou (W:=W) (words:=words) (T:=T) (u6:=u6) (bk:=bk) (pu:=pu) (o4:=o4) (o5:=o5) qs (some (.any,.tup (p.1.map .str))) (some (.any,.str p.2));have htg:Run (cy true [8,9] (.any,.tup [.tup (p.1.map .str),.str p.2])) (S o8 o9) () (S (some (.any,.tup (p.1.map .str))) (some (.any,.str p.2))):=oi (.inr rfl);have hst:aZ [(.bor 7,.lst (T.map fun t=>.tup (t.map .str))),(.any,u6)] (S o8 o9):=⟨⟨.own,rfl,rfl⟩,trivial⟩
  have nt:bo .notin (.str p.2) (.tup (p.1.map U.str))=some (!decide (p.2∈p.1)):=by
   have h:=@vE p.2 p.1;show(iD _ _).map (!·)=_;rw[show iD (.str p.2) (.tup (p.1.map U.str))=_ from h];rfl
  have nl:bo .notin (.str p.2) (.lst (W.map U.str))=some (!decide (p.2∈W)):=by
   have h:=@jS p.2 W;show(iD _ _).map (!·)=_;rw[show iD (.str p.2) (.lst (W.map U.str))=_ from h];rfl
  have tc:Run (tst Γ (.or [.cmp .notin (.var 9) (.var 8),.cmp .notin (.var 9) (.var 2)])) (S (some (.any,.tup (p.1.map .str))) (some (.any,.str p.2))) (!(decide (p.2∈p.1)&&decide (p.2∈W))) (S (some (.any,.tup (p.1.map .str))) (some (.any,.str p.2))):=by
   rw[Bool.not_and];exact uZ (n_ (ba (aq rfl) (aq rfl) trivial nt) fun _=>nU (ba (aq rfl) (ax rfl) ⟨⟨.own,rfl,rfl⟩,trivial⟩ nl))
  rw[List.all_cons];cases hb:(decide (p.2∈p.1)&&decide (p.2∈W)) with
  |true =>
   rw[hb]at tc;rw[Bool.true_and];refine⟨fun h=>?_,fun h=>?_⟩
   ·obtain⟨a,b,hr⟩:=ih.1 h;exact⟨a,b,u_ hst htg (aB tc au au) hr⟩
   ·obtain⟨st',hr⟩:=ih.2 h;exact⟨st',u_ hst htg (aB tc au au) hr⟩
  |false =>
   rw[hb]at tc;exact⟨fun h=>(by cases h),fun _=>⟨_,zO hst htg (b0 tc (bp av cW))⟩⟩
noncomputable def vG:List TM.S:=[.setT [5,6] (.idx (.var 1) (.var 4)),.set 7 (.comp 1 false .seq [.var 0] [.cmp .eq (.idx (.var 0) (.cst (.int 0))) (.var 6)] (.idx (.var 0) (.cst (.int 1)))),.ite (.or [.cmp .notin (.var 5) (.var 3),.and [.cmp .gt (.var 4) (.cst (.int 0)),.cmp .ge (.idx (.var 2) (.bin .sub (.var 4) (.cst (.int 1)))) (.var 5)],.cmp .ne (.bi .len [.var 6]) (.bi .len [.var 7])]) [.ret (.cst (.bl false))] [],.for_ true [8,9] .zip [.var 7,.var 6] mM]
theorem sC{prs:List Row}(hr:rows.length<=100)(hl:prs.length<=60){rs:List (Kd×U)}(hrs:∀st,aZ rs st):
  let bk:Option (Kd×U):=some (.loc,.tup (rows.map rwU));let pu:Option (Kd×U):=some (.any,.lst (prs.map rwU));let W:=prs.map (·.1)
  ∀(is:List Nat) (o4 o5 o6 o7 o8 o9:Option (Kd×U)),(∀i∈is,i<prs.length) ->
  ∃st',Run (forM false [4] (execs Γ vG) rs (is.map fun i:Nat=>(Kd.loc,U.int (0+(i:Int))))) (wS bk pu W (aF rows) o4 o5 o6 o7 o8 o9) (if is.all (stepOk rows prs)=true then .nx else .rt .loc (.bl false)) st':=by
 intro bk pu W is;have hsz:(2000:Nat)<=sizeLine:=by decide
 induction is with
 |nil=>exact fun o4 o5 o6 o7 o8 o9 _=>⟨_,qQ (hrs _)⟩
 |cons i is ih =>
  intro o4 o5 o6 o7 o8 o9 hi;have hip:i<prs.length:=hi i (by simp);let r:=prs.getD i ("",[]);let T:=cq rows r.1;let i4:Option (Kd×U):=some (.loc,.int (0+(i:Int)));let i5:Option (Kd×U):=some (.any,.str r.1);let i6:Option (Kd×U):=some (.any,.tup (r.2.map .str));let i7:Option (Kd×U):=some (.own,tU T);let S:=wS bk pu W (aF rows);have hri:prs[i]?=some r:=by simp[r,List.getD,hip]
  have ha:atI (prs.map rwU) (0+(i:Int))=some (rwU r):=by rw[Int.zero_add];exact bq (by simp[hri])
  have gT:Run (ev Γ (.idx (.var 1) (.var 4))) (S i4 o5 o6 o7 o8 o9) (.any,rwU r) (S i4 o5 o6 o7 o8 o9):=aP (aq rfl) (af rfl) trivial (aC ha);have tT:Run (cy true [5,6] (.any,rwU r)) (S i4 o5 o6 o7 o8 o9) () (S i4 i5 i6 o7 o8 o9):=oi (.inr rfl);have g7:Run (ev Γ (.comp 1 false .seq [.var 0] [.cmp .eq (.idx (.var 0) (.cst (.int 0))) (.var 6)] (.idx (.var 0) (.cst (.int 1))))) (S i4 i5 i6 o7 o8 o9) (.own,tU T) (S i4 i5 i6 o7 o8 o9):=by
   have hx:=dm (cond:=aM Γ [.cmp .eq (.idx (.var 0) (.cst (.int 0))) (.var 6)]) (elt:=ev Γ (.idx (.var 0) (.cst (.int 1)))) (src:=[(.loc,.tup (rows.map rwU))]) (st:=S i4 i5 i6 o7 o8 o9) trivial .loc (.inl rfl) rwU (fun s=>.tup (s.2.map .str)) (fun s=>decide (s.1=r.1)) .loc rows [] (by simp;omega)
    (fun s _=>⟨cf (ba (aP (x:=(.loc,rwU s)) (af rfl) av trivial rfl) (aq rfl) trivial gF),fun _=>⟨aP (x:=(.loc,rwU s)) (af rfl) av trivial rfl,aV⟩⟩)
   rw[List.nil_append]at hx;have e:tU T=.lst ((rows.filter fun s=>decide (s.1=r.1)).map fun s=>.tup (s.2.map .str)):=by
    show U.lst ((cq rows r.1).map _)=_;unfold cq;rw[List.map_map];rfl
   rw[e];exact bG (rs:=[(.loc,.tup (rows.map rwU))]) (aa (af rfl) ag) trivial (by show some _=_;rw[List.map_map];rfl) hx
  let b1:=!decide (r.1∈aF rows);let b2:=decide (0<i)&&!ltS (W.getD (i - 1) "") r.1;let b3:=!decide (r.2.length=T.length);have hW:W.getD i ""=r.1:=by
   show(prs.map fun r:Row=>r.1).getD i ("":Str)=_;simp[List.getD,hri]
  have c1:bo .notin (.str r.1) (.lst ((aF rows).map U.str))=some b1:=by
   have h:=@jS r.1 (aF rows);show(iD _ _).map (!·)=_;rw[show iD (.str r.1) (.lst ((aF rows).map U.str))=_ from h];rfl
  have c3:bo .ne (.int ((r.2.map U.str).length:Nat)) (.int ((T.map fun t=>U.tup (t.map .str)).length:Nat))=some b3:=by
   rw[vF];show some (!decide (((r.2.map U.str).length:Int)=((T.map fun t=>U.tup (t.map .str)).length:Nat)))=some (!decide (r.2.length=T.length));congr 2
   rw[Bool.eq_iff_iff];simp only[decide_eq_true_eq,List.length_map];omega
  have tc:Run (tst Γ (.or [.cmp .notin (.var 5) (.var 3),.and [.cmp .gt (.var 4) (.cst (.int 0)),.cmp .ge (.idx (.var 2) (.bin .sub (.var 4) (.cst (.int 1)))) (.var 5)],.cmp .ne (.bi .len [.var 6]) (.bi .len [.var 7])])) (S i4 i5 i6 i7 o8 o9) (b1||(b2||b3)) (S i4 i5 i6 i7 o8 o9):=by
   refine uZ (n_ (ba (aq rfl) (ax rfl) ⟨⟨.own,rfl,rfl⟩,trivial⟩ c1) fun _=>n_ (nS (vt (ba (af rfl) av trivial ?_) fun h=>cf ?_)) fun _=>nU (ba (bK (aa (aq rfl) ag) trivial iM) (bK (aa (ax rfl) ag) ⟨⟨.own,rfl,rfl⟩,trivial⟩ bH) trivial c3))
   ·show some (decide ((0:Int)<0+(i:Int)))=some (decide (0<i));congr 1
    rw[Bool.eq_iff_iff];simp only[decide_eq_true_eq];omega
   ·have h0:0<i:=by simpa using h
    have hp:atI (W.map U.str) (0+(i:Int) - 1)=some (.str (W.getD (i - 1) "")):=by
     rw[show 0+(i:Int) - 1=((i - 1:Nat):Int) by omega];refine bq ?_;show((prs.map fun r:Row=>r.1).map U.str)[i - 1]?=some (.str ((prs.map fun r:Row=>r.1).getD (i - 1) ("":Str)));have:i - 1<prs.length:=by omega
     simp[List.getD,this]
    exact ba (aP (ax rfl) (a_ (af rfl) av trivial iX) ⟨⟨.own,rfl,rfl⟩,trivial⟩ (aC hp)) (aq rfl) trivial z_
  have eS:stepOk rows prs i=(!(b1||(b2||b3))&&(T.zip r.2).all fun p=>decide (p.2∈p.1)&&decide (p.2∈W)):=by
   show(decide (r.1∈aF rows)&&!(decide (0<i)&&!ltS (W.getD (i - 1) "") (W.getD i ""))&&(decide (r.2.length=T.length)&&(T.zip r.2).all fun p=>decide (p.2∈p.1)&&decide (p.2∈W)))=_;rw[hW];show _=(!(!decide (r.1∈aF rows)||((decide (0<i)&&!ltS (W.getD (i - 1) "") r.1)||!decide (r.2.length=T.length)))&&_)
   cases decide (r.1∈aF rows)<;>cases(decide (0<i)&&!ltS (W.getD (i - 1) "") r.1)<;>cases decide (r.2.length=T.length)<;>simp
  have pre:∀{rest:List TM.S} {f:Fl} {st':aj},Run (execs Γ rest) (S i4 i5 i6 i7 o8 o9) f st'->Run (execs Γ (.setT [5,6] (.idx (.var 1) (.var 4))::.set 7 (.comp 1 false .seq [.var 0] [.cmp .eq (.idx (.var 0) (.cst (.int 0))) (.var 6)] (.idx (.var 0) (.cst (.int 1))))::rest)) (S i4 o5 o6 o7 o8 o9) f st':=fun h=>vC gT tT (aA g7 aY h);have htg:Run (cy false [4] (.loc,.int (0+(i:Int)))) (S o4 o5 o6 o7 o8 o9) () (S i4 o5 o6 o7 o8 o9):=cG aQ;rw[List.all_cons,eS];cases hb:(b1||(b2||b3)) with
  |true =>
   rw[hb]at tc;exact⟨_,zO (hrs _) htg (pre (b0 tc (bp av cW)))⟩
  |false =>
   rw[hb]at tc;have ez:itU .zip [(.bor 7,tU T),(.any,.tup (r.2.map .str))]=some ((T.zip r.2).map fun p=>(Kd.any,U.tup [.tup (p.1.map .str),.str p.2])):=by
    show some (((T.map fun t=>U.tup (t.map .str)).zip (r.2.map U.str)).map fun p=>(kT (.bor 7) .any,U.tup [p.1,p.2]))=_;rw[List.zip_map,List.map_map];rfl
   have hz:=ou (Γ:=Γ) (W:=W) (words:=aF rows) (T:=T) (u6:=.tup (r.2.map .str)) (bk:=bk) (pu:=pu) (o4:=i4) (o5:=i5) (T.zip r.2) o8 o9;cases hq:((T.zip r.2).all fun p=>decide (p.2∈p.1)&&decide (p.2∈W)) with
   |false =>
    obtain⟨st',hr'⟩:=hz.2 hq;exact⟨st',zO (hrs _) htg (pre (aB tc au (si (u9 (rs:=[(.bor 7,tU T),(.any,.tup (r.2.map .str))]) (aa (ax rfl) (aa (aq rfl) ag)) ⟨⟨.own,rfl,rfl⟩,trivial⟩ ez rfl hr'))))⟩
   |true =>
    obtain⟨o8',o9',hr'⟩:=hz.1 hq;obtain⟨st',hr2⟩:=ih i4 i5 i6 i7 o8' o9' fun j hj=>hi j (by simp[hj]);exact⟨st',u_ (hrs _) htg (pre (aB tc au (c9 (rs:=[(.bor 7,tU T),(.any,.tup (r.2.map .str))]) (aa (ax rfl) (aa (aq rfl) ag)) ⟨⟨.own,rfl,rfl⟩,trivial⟩ ez rfl hr' au))) hr2⟩
theorem vH{prs:List Row}(hr:rows.length<=100)(hl:prs.length<=60)(hw:Γ "_law_words" [.tup (rows.map rwU)]=some (.ok (.own,.lst ((aF rows).map .str)))):bO Γ dZ [.tup (rows.map rwU),.lst (prs.map rwU)]=some (.ok (.loc,.bl (isK rows prs))):=by
 have hsz:(2000:Nat)<=sizeLine:=by decide
 let bk:Option (Kd×U):=some (.loc,.tup (rows.map rwU));let pu:Option (Kd×U):=some (.any,.lst (prs.map rwU));let W:=prs.map (·.1);have hst:TM.start [.tup (rows.map rwU),.lst (prs.map rwU)] 10=[bk,pu,none,none,none,none,none,none,none,none]:=by simp[TM.start,imm,bc,bk,pu]
 have g2:Run (ev Γ (.comp 1 false .seq [.var 1] [] (.idx (.var 0) (.cst (.int 0))))) [bk,pu,none,none,none,none,none,none,none,none] (.own,.lst (W.map .str)) [bk,pu,none,none,none,none,none,none,none,none]:=by
  have hx:=fV (cond:=aM Γ []) (elt:=ev Γ (.idx (.var 0) (.cst (.int 0)))) (src:=[(.any,.lst (prs.map rwU))]) (st:=[bk,pu,none,none,none,none,none,none,none,none]) trivial .any (.inr rfl) rwU (fun r=>.str r.1) .any (fun _=>gE) prs [] (by simp;omega)
   (fun r _=>⟨aP (x:=(.any,rwU r)) (aq rfl) av trivial rfl,dB rfl⟩)
  rw[List.nil_append]at hx;have e:W.map U.str=prs.map fun r=>U.str r.1:=by show(prs.map (·.1)).map U.str=_;rw[List.map_map];rfl
  rw[e];exact bG (rs:=[(.any,.lst (prs.map rwU))]) (aa (aq rfl) ag) trivial (by show some _=_;rw[List.map_map];rfl) hx
 have ei:itU .rng1 [(.loc,.int ((prs.map rwU).length:Nat))]=some ((List.range prs.length).map fun i:Nat=>(Kd.loc,U.int (0+(i:Int)))):=by rw[List.length_map];exact e_ (by omega)
 obtain⟨st',hrun⟩:=sC (Γ:=Γ) hr hl (rs:=[(.loc,.int ((prs.map rwU).length:Nat))]) (fun _=>trivial) (List.range prs.length) none none none none none none fun i hi=>List.mem_range.mp hi;rw[lu];cases hb:(List.range prs.length).all (stepOk rows prs) with
 |true =>
  rw[hb,if_pos rfl]at hrun;exact aE rfl (.inr rfl) hst (aA g2 aY (aA (bF (aa (af rfl) ag) trivial hw) aY (c9 (aa (bK (aa (aq rfl) ag) trivial bH) ag) trivial ei rfl hrun (bp av cW))))
 |false =>
  rw[hb,if_neg Bool.false_ne_true]at hrun;exact aE rfl (.inr rfl) hst (aA g2 aY (aA (bF (aa (af rfl) ag) trivial hw) aY (si (u9 (aa (bK (aa (aq rfl) ag) trivial bH) ag) trivial ei rfl hrun))))
end
end K
namespace TM
open PySem L2 W01
theorem xE{k:Kd}(bs:List Bool):biU .any [(k,.lst (bs.map .bl))]=some (.loc,.bl (bs.any id)):=by
 show(eO (bs.map U.bl)).map _=_;have:∀bs:List Bool,eO (bs.map U.bl)=some bs:=fun bs=>by
  induction bs with
  |nil=>rfl
  |cons b bs ih=>show(eO (bs.map U.bl)).map _=_;rw[ih];rfl
 rw[this];rfl
section
variable{Γ:Tab}{st:aj}
theorem Bo{i j:Nat}{u u0:U}(h:st[j]?=some (some (.own,u))):Run (dz i (.bor j,u0)) st () ((st.set j (some (.loc,u))).set i (some (.loc,u))):=by
 show(match st[j]? with|some (some (.own,u))=>some (Ex.ok (),(st.set j (some (.loc,u))).set i (some (.loc,u)))|_=>none)=_;rw[h]
theorem ox{i:Nat}{b:Bool}(h:st[i]?=some (some (.loc,.bl b))):Run (tst Γ (.var i)) st b st:=ae (jH h) (cM rfl)
theorem sD{src:E}{j:Nat}{told known:List Str}{w:U}(hl:told.length<=1000)(hs:Run (ev Γ src) st (.loc,.tup (told.map .str)) st)(hj:st[j]?=some (some (.loc,w))\/st[j]?=some (some (.own,w)))(hw:∀x:Str,bo .isin (.str x) w=some (decide (x∈known))):
  Run (ev Γ (.bi .any [.comp 1 false .seq [src] [] (.cmp .isin (.var 0) (.var (j+1)))])) st (.loc,.bl (told.any fun x=>decide (x∈known))) st:=by
 have hsz:(1000:Nat)<=sizeLine:=by decide
 have hx:=fV (cond:=aM Γ []) (elt:=ev Γ (.cmp .isin (.var 0) (.var (j+1)))) (src:=[(.loc,.tup (told.map .str))]) (st:=st) trivial .loc (.inl rfl) U.str (fun x=>.bl (decide (x∈known))) .loc (fun _=>gE) told [] (by simp;omega)
  (fun y _=>⟨by
   rcases hj with hj|hj
   ·exact jI (af rfl) (af (by simpa using hj)) trivial (hw y)
   ·exact jI (af rfl) (ax (by simpa using hj)) ⟨⟨.own,rfl,by simpa using hj⟩,trivial⟩ (hw y),aV⟩)
 rw[List.nil_append]at hx;have e:(told.map U.str).map (fun u=>(kE .loc,u))=told.map fun r=>(Kd.loc,U.str r):=by rw[List.map_map];rfl
 have e2:(told.map fun x=>U.bl (decide (x∈known)))=(told.map fun x=>decide (x∈known)).map U.bl:=by rw[List.map_map];rfl
 rw[e2]at hx;have e3:(told.any fun x=>decide (x∈known))=((told.map fun x=>decide (x∈known)).any id):=by rw[List.any_map];rfl
 rw[e3];exact bK (aa (bG (rs:=[(.loc,.tup (told.map .str))]) (aa hs ag) trivial (by show some _=_;rw[e]) hx) ag) trivial (xE _)
end
noncomputable def de(rows:List Row)(H:List Str)(w:Str):Bool:=(rows.filter fun r=>decide (r.1=w)).all fun r=>r.2.any fun x=>decide (x∈H)
noncomputable def hst(rows:List Row)(H:List Str):List Str:=H.filter (de rows H)
end TM
namespace K
open PySem L2 TM W01
section
variable{Γ:Tab}{rows:List Row}
noncomputable def gK:E:=.bi .all [.comp 1 false .seq [.var 0] [.cmp .eq (.idx (.var 0) (.cst (.int 0))) (.var 6)] (.bi .any [.comp 1 false .seq [.idx (.var 0) (.cst (.int 1))] [] (.cmp .isin (.var 0) (.var 4))])]
noncomputable def oy:List TM.S:=[.set 4 (.lst []),.for_ false [5] .seq [.var 2] [.ite gK [.app 4 (.var 5)] []],.set 3 (.cmp .lt (.bi .len [.var 4]) (.bi .len [.var 2])),.set 2 (.var 4)]
noncomputable abbrev hS(bk pu:Option (Kd×U))(k2:Kd)(H:List Str)(g:Bool)(o4 o5:Option (Kd×U)):aj:=[bk,pu,some (k2,.lst (H.map .str)),some (.loc,.bl g),o4,o5]
noncomputable def kv2(k2:Kd):Kd:=if k2.root=true then .bor 2 else k2
theorem jZ(hr:rows.length<=100)(h8:∀r∈rows,r.2.length<=8){pu:Option (Kd×U)}{k2:Kd}(hk:k2=.own\/k2=.loc){H:List Str}(hH:H.length<=100){g:Bool}{o4 o5:Option (Kd×U)}:
  ∃o5',Run (execs Γ oy) (hS (some (.loc,.tup (rows.map rwU))) pu k2 H g o4 o5) .nx (hS (some (.loc,.tup (rows.map rwU))) pu .loc (hst rows H) (decide ((hst rows H).length<H.length)) (some (.loc,.lst ((hst rows H).map .str))) o5'):=by
 have hsz:(2000:Nat)<=sizeLine:=by decide
 let bk:Option (Kd×U):=some (.loc,.tup (rows.map rwU));let S:=fun(L:List Str) (o5:Option (Kd×U))=>hS bk pu k2 H g (some (.own,.lst (L.map .str))) o5;have v2:∀L o5,Run (ev Γ (.var 2)) (S L o5) (kv2 k2,.lst (H.map .str)) (S L o5):=fun L o5=>by
  rcases hk with rfl|rfl
  ·exact ax rfl
  ·exact af rfl
 have s2:∀L o5,aZ [(kv2 k2,.lst (H.map .str))] (S L o5):=fun L o5=>by
  rcases hk with rfl|rfl
  ·exact⟨⟨.own,rfl,rfl⟩,trivial⟩
  ·trivial
 have ek:kE (kv2 k2)=.loc:=by rcases hk with rfl|rfl<;>rfl
 have tc:∀(L:List Str) (w:Str),Run (tst Γ gK) (S L (some (.loc,.str w))) (de rows H w) (S L (some (.loc,.str w))):=fun L w=>by
  have hx:=dm (cond:=aM Γ [.cmp .eq (.idx (.var 0) (.cst (.int 0))) (.var 6)]) (elt:=ev Γ (.bi .any [.comp 1 false .seq [.idx (.var 0) (.cst (.int 1))] [] (.cmp .isin (.var 0) (.var (3+1)))])) (src:=[(.loc,.tup (rows.map rwU))]) (st:=S L (some (.loc,.str w))) trivial .loc (.inl rfl) rwU (fun r=>.bl (r.2.any fun x=>decide (x∈H))) (fun r=>decide (r.1=w)) .loc rows [] (by simp;omega)
   (fun r hr'=>⟨cf (ba (aP (x:=(.loc,rwU r)) (af rfl) av trivial rfl) (af rfl) trivial gF),fun _=>⟨sD (by have:=h8 r hr';omega) (aP (x:=(.loc,rwU r)) (af rfl) av trivial rfl) (by
    rcases hk with rfl|rfl
    ·exact .inr rfl
    ·exact .inl rfl) fun x=>jS,aV⟩⟩)
  rw[List.nil_append]at hx;have e2:((rows.filter fun r=>decide (r.1=w)).map fun r=>U.bl (r.2.any fun x=>decide (x∈H)))=((rows.filter fun r=>decide (r.1=w)).map fun r=>r.2.any fun x=>decide (x∈H)).map U.bl:=by rw[List.map_map];rfl
  rw[e2]at hx;have hc:=bG (Γ:=Γ) (k:=1) (t:=false) (ik:=.seq) (src:=[.var 0]) (st:=S L (some (.loc,.str w))) (st1:=S L (some (.loc,.str w))) (rs:=[(.loc,.tup (rows.map rwU))]) (aa (af rfl) ag) trivial (by show some _=_;rw[List.map_map];rfl) hx;have ra:=bK (aa hc ag) trivial (mK _);have e3:(((rows.filter fun r=>decide (r.1=w)).map fun r=>r.2.any fun x=>decide (x∈H)).all id)=de rows H w:=by rw[List.all_map];rfl
  rw[e3]at ra;exact zU ra
 obtain⟨st',hrun,_,o5',e⟩:=dW (t:=false) (is:=[5]) (body:=execs Γ [.ite gK [.app 4 (.var 5)] []]) (rs:=[(kv2 k2,.lst (H.map .str))]) (fun w:Str=>(Kd.loc,U.str w))
  (fun d r st=>d++r=H/\∃o5,st=S (d.filter (de rows H)) o5) (fun d r st ⟨_,o5,e⟩=>by subst e;exact s2 _ _) (fun d w r st hIx=>by
   obtain⟨hdr,o5,e⟩:=hIx;subst e;have hdl:d.length<H.length:=by have:=congrArg List.length hdr;simp at this;omega
   have hfl:=List.length_filter_le (de rows H) d;refine⟨S (d.filter (de rows H)) (some (.loc,.str w)),S ((d++[w]).filter (de rows H)) (some (.loc,.str w)),cG aQ,n9 (tc _ w) (fun h=>?_) fun h=>?_,by rw[<-hdr];simp,some (.loc,.str w),rfl⟩
   ·have e1:((d++[w]).filter (de rows H)).map U.str=(d.filter (de rows H)).map U.str++[.str w]:=by rw[List.filter_append];simp[h]
    show Run _ _ _ (hS bk pu k2 H g (some (.own,.lst (((d++[w]).filter (de rows H)).map .str))) (some (.loc,.str w)));rw[e1];exact iq (k:=.own) (k':=.own) (r:=(.loc,.str w)) (us:=(d.filter (de rows H)).map U.str) rfl (af rfl) aV rfl rfl (by rw[List.length_map];omega) au
   ·have e1:(d++[w]).filter (de rows H)=d.filter (de rows H):=by rw[List.filter_append];simp[h]
    rw[e1];exact au) H [] (S [] o5) ⟨rfl,o5,rfl⟩
 subst e;rw[List.nil_append]at hrun;have ei:itU .seq [(kv2 k2,.lst (H.map .str))]=some (H.map fun w=>(Kd.loc,U.str w)):=by
  show some ((H.map U.str).map fun u=>(kE (kv2 k2),u))=_;rw[ek,List.map_map];rfl
 have ok:nI [(kv2 k2,.lst (H.map .str))] [5] [.ite gK [.app 4 (.var 5)] []]=true:=by rcases hk with rfl|rfl<;>rfl
 let L:=hst rows H;have g3:Run (ev Γ (.cmp .lt (.bi .len [.var 4]) (.bi .len [.var 2]))) (S L o5') (.loc,.bl (decide (L.length<H.length))) (S L o5'):=by
  refine jI (bK (aa (ax rfl) ag) ⟨⟨.own,rfl,rfl⟩,trivial⟩ bH) (bK (aa (v2 L o5') ag) (s2 _ _) bH) trivial ?_;show some (decide (((L.map U.str).length:Int)<((H.map U.str).length:Nat)))=_;congr 1
  rw[Bool.eq_iff_iff];simp only[decide_eq_true_eq,List.length_map];omega
 exact⟨o5',aA (r:=(.own,.lst [])) (cU ag trivial aX (Nat.zero_le _)) aY (c9 (rs:=[(kv2 k2,.lst (H.map .str))]) (aa (v2 [] o5) ag) (s2 [] o5) ei ok hrun
  (aA g3 aQ (aA (st1:=hS bk pu k2 H (decide (L.length<H.length)) (some (.own,.lst (L.map .str))) o5') (ax rfl) (Bo rfl) au)))⟩
theorem pZ(hr:rows.length<=100)(h8:∀r∈rows,r.2.length<=8){pu:Option (Kd×U)}:∀(m n:Nat) (H:List Str) (k2:Kd) (o4 o5:Option (Kd×U)),H.length<=m->H.length<=100->(k2=.own\/k2=.loc)->m+2<=n ->
  ∃F o4' o5',F.Sublist H/\hst rows F=F/\Run (gy (tst Γ (.var 3)) (execs Γ oy) n) (hS (some (.loc,.tup (rows.map rwU))) pu k2 H true o4 o5) .nx (hS (some (.loc,.tup (rows.map rwU))) pu .loc F false o4' o5'):=by
 intro m;induction m with
 |zero =>
  intro n H k2 o4 o5 hm h1 hk hn;obtain⟨n,rfl⟩:∃k,n=k+2:=⟨n - 2,by omega⟩
  have:H=[]:=List.length_eq_zero_iff.mp (by omega);subst this;obtain⟨o5',hb⟩:=jZ (Γ:=Γ) hr h8 (pu:=pu) hk (H:=[]) (by simp) (g:=true) (o4:=o4) (o5:=o5);exact⟨[],_,o5',List.Sublist.refl _,rfl,zV (ox rfl) hb (yd (ox rfl))⟩
 |succ m ih =>
  intro n H k2 o4 o5 hm h1 hk hn;obtain⟨n,rfl⟩:∃k,n=k+2:=⟨n - 2,by omega⟩
  obtain⟨o5',hb⟩:=jZ (Γ:=Γ) hr h8 (pu:=pu) hk (H:=H) h1 (g:=true) (o4:=o4) (o5:=o5);have hsub:(hst rows H).Sublist H:=List.filter_sublist;have hle:=hsub.length_le;by_cases hlt:(hst rows H).length<H.length
  ·rw[decide_eq_true hlt]at hb;obtain⟨F,a,b,h2,h3,h4⟩:=ih (n+1) (hst rows H) .loc _ o5' (by omega) (by omega) (.inr rfl) (by omega);exact⟨F,a,b,h2.trans hsub,h3,zV (ox rfl) hb h4⟩
  ·rw[decide_eq_false hlt]at hb;have he:hst rows H=H:=hsub.eq_of_length (by omega);exact⟨hst rows H,_,o5',hsub,by rw[he,he],zV (ox rfl) hb (yd (ox rfl))⟩
theorem vI(hr:rows.length<=100)(h8:∀r∈rows,r.2.length<=8){ws:List Str}(hw:ws.length<=60):∃F:List Str,F.Sublist (aH (ak ws))/\hst rows F=F/\bO Γ dY [.tup (rows.map rwU),.lst (ws.map .str)]=some (.ok (.loc,.lst (F.map .str))):=by
 have hd:(ak ws).length<=60:=Nat.le_trans (cP _) hw;have hH:(aH (ak ws)).length<=60:=by rw[a5];exact hd
 obtain⟨F,o4,o5,h1,h2,h3⟩:=pZ (Γ:=Γ) hr h8 (pu:=some (.any,.lst (ws.map .str))) 60 fuel (aH (ak ws)) .own none none hH (by omega) (.inl rfl) (by decide);have hst':TM.start [.tup (rows.map rwU),.lst (ws.map .str)] 6=[some (.loc,.tup (rows.map rwU)),some (.any,.lst (ws.map .str)),none,none,none,none]:=by simp[TM.start,imm,bc]
 exact⟨F,h1,h2,aE rfl (.inr rfl) hst' (aA (nR (aa (aq rfl) ag) trivial (fc (by omega) (by omega))) aY (aA av aQ (Bm h3 (bp (af rfl) cW))))⟩
end
end K
namespace TM
open PySem L2 W01
theorem d4(d:List Row)(y:Row)(w:Str):cq (d++[y]) w=cq d w++(if y.1=w then [y.2] else []):=by
 unfold cq;rw[List.filter_append,List.map_append];congr 1
 by_cases h:y.1=w
 ·simp[h]
 ·simp[h]
theorem oz{rows:List Row}{F:List Str}(h:hst rows F=F){w:Str}(hw:w∈F){r:Row}(hr:r∈rows)(e:r.1=w):∃x∈r.2,x∈F:=by
 have:w∈hst rows F:=by rw[h];exact hw
 have hb:=(List.mem_filter.mp this).2;unfold de at hb;rw[List.all_eq_true]at hb;have:=hb r (List.mem_filter.mpr ⟨hr,by simpa using e⟩);rw[List.any_eq_true]at this;obtain⟨x,h1,h2⟩:=this;exact⟨x,h1,by simpa using h2⟩
theorem gL(rows:List Row)(w:Str):(cq rows w).length<=rows.length:=by rw[lr];exact qY rows w
theorem p6{F L:List Str}(h:F.Sublist (aH (ak L))):F=aH (ak F):=by
 have nd:F.Nodup:=h.nodup (gI L);refine(oj ?_ ((dv _).sublist h)).symm;exact(List.perm_ext_iff_of_nodup (bS _) nd).mpr fun x=>bY _ _
theorem Ab{rows prs:List Row}{F L:List Str}(hF:prs.map (·.1)=F)(hs:F.Sublist (aH (ak L)))(hL:∀x∈L,x∈aF rows)(ho:∀p∈prs,okB rows F p=true):isK rows prs=true:=by
 unfold isK;rw[hF];simp only[Bool.and_eq_true,decide_eq_true_eq,List.all_eq_true];exact⟨⟨p6 hs,fun w hw=>hL w ((vB L w).mp (hs.subset hw))⟩,ho⟩
end TM
namespace K
open PySem L2 TM W01
section
variable{Γ:Tab}{rows:List Row}
noncomputable def mN:List TM.S:=[.ite (.cmp .eq (.idx (.var 7) (.cst (.int 0))) (.var 5)) [.set 8 (.comp 1 false .seq [.idx (.var 7) (.cst (.int 1))] [.cmp .isin (.var 0) (.var 4)] (.var 0)),.app 6 (.idx (.var 8) (.bin .mod (.idx (.var 0) (.bin .add (.cst (.int 16)) (.bin .mod (.bi .len [.var 6]) (.cst (.int 4))))) (.bi .len [.var 8])))] []]
noncomputable def xF:List TM.S:=[.set 6 (.lst []),.for_ false [7] .seq [.var 1] mN,.app 4 (.tup [.var 5,.bi .tuple [.var 6]])]
noncomputable abbrev pS(ds:List Int)(rows:List Row)(o2:Option (Kd×U))(F:List Str)(prs:List Row)(o5 o6 o7 o8:Option (Kd×U)):aj:=[some (.any,.lst (ds.map .int)),some (.loc,.tup (rows.map rwU)),o2,some (.loc,.lst (F.map .str)),some (.own,.lst (prs.map rwU)),o5,o6,o7,o8]
theorem vJ(hr:rows.length<=100)(h8:∀r∈rows,r.2.length<=8){ds:List Int}(hd:ds.length=20)(h0:∀d∈ds,0<=d){F:List Str}(hF:hst rows F=F){w:Str}(hw:w∈F){o2 o7 o8:Option (Kd×U)}{prs:List Row}:
  ∃(bs:List Str) (o7' o8':Option (Kd×U)),okB rows F (w,bs)=true/\Run (forM false [7] (execs Γ mN) [(.loc,.tup (rows.map rwU))] (rows.map fun r=>(Kd.loc,rwU r))) (pS ds rows o2 F prs (some (.loc,.str w)) (some (.own,.lst [])) o7 o8) .nx (pS ds rows o2 F prs (some (.loc,.str w)) (some (.own,.lst (bs.map .str))) o7' o8'):=by
 have hsz:(2000:Nat)<=sizeLine:=by decide
 let S:=fun(bs:List Str) (o7 o8:Option (Kd×U))=>pS ds rows o2 F prs (some (.loc,.str w)) (some (.own,.lst (bs.map .str))) o7 o8;obtain⟨st',hrun,_,bs,o7',o8',hl,ha,e⟩:=dW (t:=false) (is:=[7]) (body:=execs Γ mN) (rs:=[(.loc,.tup (rows.map rwU))]) (fun r:Row=>(Kd.loc,rwU r))
  (fun d r st=>d++r=rows/\∃bs o7 o8,bs.length=(cq d w).length/\((cq d w).zip bs).all (fun p=>decide (p.2∈p.1)&&decide (p.2∈F))=true/\st=S bs o7 o8) (fun _ _ _ _=>trivial) (fun d y r st hIx=>by
   obtain⟨hdr,bs,o7,o8,hl,ha,e⟩:=hIx;subst e;have hy:y∈rows:=by rw[<-hdr];simp
   have hy8:=h8 y hy;have hbl:bs.length<=100:=by
    have h1:=gL d w;have h2:d.length<=rows.length:=by have:=congrArg List.length hdr;simp at this;omega
    omega
   let i7:Option (Kd×U):=some (.loc,rwU y);have tc:Run (tst Γ (.cmp .eq (.idx (.var 7) (.cst (.int 0))) (.var 5))) (S bs i7 o8) (decide (y.1=w)) (S bs i7 o8):=ba (aP (x:=(.loc,rwU y)) (af rfl) av trivial rfl) (af rfl) trivial gF;by_cases hyw:y.1=w
   ·rw[decide_eq_true hyw]at tc;let sm:=y.2.filter fun x=>decide (x∈F);have hsm:0<sm.length:=by
     obtain⟨x,h1,h2⟩:=oz hF hw hy hyw;exact List.length_pos_of_mem (List.mem_filter.mpr ⟨h1,by simpa using h2⟩)
    have g8:Run (ev Γ (.comp 1 false .seq [.idx (.var 7) (.cst (.int 1))] [.cmp .isin (.var 0) (.var 4)] (.var 0))) (S bs i7 o8) (.own,.lst (sm.map .str)) (S bs i7 o8):=by
     have hx:=dm (cond:=aM Γ [.cmp .isin (.var 0) (.var 4)]) (elt:=ev Γ (.var 0)) (src:=[(.loc,.tup (y.2.map .str))]) (st:=S bs i7 o8) trivial .loc (.inl rfl) U.str U.str (fun x=>decide (x∈F)) .loc y.2 [] (by simp;omega)
      (fun x _=>⟨cf (ba (af rfl) (af rfl) trivial jS),fun _=>⟨af rfl,aV⟩⟩)
     rw[List.nil_append]at hx;exact bG (rs:=[(.loc,.tup (y.2.map .str))]) (aa (aP (x:=(.loc,rwU y)) (af rfl) av trivial rfl) ag) trivial (by show some _=_;rw[List.map_map];rfl) hx
    let i8:Option (Kd×U):=some (.own,.lst (sm.map .str));let q:Nat:=16+bs.length % 4;have hq:atI (ds.map U.int) (16+((bs.map U.str).length:Nat) % 4)=some (.int (dd ds q)):=by
     rw[List.length_map,show(16+((bs.length:Nat):Int) % 4)=((q:Nat):Int) by show _=(((16+bs.length % 4:Nat)):Int);omega];exact bb (by show 16+bs.length % 4<ds.length;omega)
    have hp:(0:Int)<((sm.map U.str).length:Nat):=by rw[List.length_map];omega
    let j:=(dd ds q % ((sm.map U.str).length:Nat)).toNat;have hj:dd ds q % ((sm.map U.str).length:Nat)=(j:Int):=(Int.toNat_of_nonneg (Int.emod_nonneg _ (by omega))).symm;have hjl:j<sm.length:=by
     have:=Int.emod_lt_of_pos (dd ds q) hp;rw[hj,List.length_map]at this;omega
    let b:=sm[j];have hb:=List.mem_filter.mp (List.getElem_mem hjl);have hb2:b∈F:=by simpa using hb.2
    have hx:atI (sm.map U.str) (dd ds q % ((sm.map U.str).length:Nat))=some (.str b):=by
     rw[hj];exact bq (by simp[hjl,b])
    refine⟨S bs i7 o8,S (bs++[b]) i7 i8,cG aQ,n9 tc (fun _=>aA g8 aY ?_) (fun h=>by cases h),by rw[<-hdr];simp,bs++[b],i7,i8,?_,?_,rfl⟩
    ·have e1:(bs++[b]).map U.str=bs.map U.str++[.str b]:=by simp
     show Run _ _ _ (pS ds rows o2 F prs (some (.loc,.str w)) (some (.own,.lst ((bs++[b]).map .str))) i7 i8);rw[e1];exact iq (k:=.own) (k':=.own) (us:=bs.map U.str) (st1:=pS ds rows o2 F prs (some (.loc,.str w)) (some (.own,.lst (bs.map .str))) i7 i8) rfl (aP (ax rfl) (a_ (aP (aq rfl) (a_ av (a_ (bK (aa (ax rfl) ag) ⟨⟨.own,rfl,rfl⟩,trivial⟩ bH) av trivial (br (by decide))) trivial ef) trivial (aC hq)) (bK (aa (ax rfl) ag) ⟨⟨.own,rfl,rfl⟩,trivial⟩ bH) trivial (br hp)) ⟨⟨.own,rfl,rfl⟩,trivial⟩ (aC hx)) aV rfl rfl (by rw[List.length_map];omega) au
    ·rw[d4,if_pos hyw];simp[hl]
    ·rw[d4,if_pos hyw,List.zip_append hl.symm,List.all_append,ha];simp[hb.1,hb2,b]
   ·rw[decide_eq_false hyw]at tc;exact⟨S bs i7 o8,S bs i7 o8,cG aQ,n9 tc (fun h=>by cases h) fun _=>au,by rw[<-hdr];simp,bs,i7,o8,by rw[d4,if_neg hyw,List.append_nil];exact hl,by rw[d4,if_neg hyw,List.append_nil];exact ha,rfl⟩) rows [] (S [] o7 o8) ⟨rfl,[],o7,o8,rfl,rfl,rfl⟩
 subst e;rw[List.nil_append]at hl ha;refine⟨bs,o7',o8',?_,hrun⟩;unfold okB;rw[decide_eq_true hl,Bool.true_and];exact ha
theorem sE(hr:rows.length<=100)(h8:∀r∈rows,r.2.length<=8){ds:List Int}(hd:ds.length=20)(h0:∀d∈ds,0<=d)(hwl:(aF rows).length<=60)(hw:Γ "_law_words" [.tup (rows.map rwU)]=some (.ok (.own,.lst ((aF rows).map .str))))
  (hh:∀ws:List Str,ws.length<=60->∃F:List Str,F.Sublist (aH (ak ws))/\hst rows F=F/\Γ "_law_held" [.tup (rows.map rwU),.lst (ws.map .str)]=some (.ok (.loc,.lst (F.map .str)))) :
  ∃prs:List Row,isK rows prs=true/\prs.length<=60/\(∀p∈prs,p.2.length<=100)/\hst rows (prs.map (·.1))=prs.map (·.1)/\bO Γ dc [.lst (ds.map .int),.tup (rows.map rwU)]=some (.ok (.own,.lst (prs.map rwU))):=by
 have hsz:(2000:Nat)<=sizeLine:=by decide
 let i0:Option (Kd×U):=some (.any,.lst (ds.map .int));let i1:Option (Kd×U):=some (.loc,.tup (rows.map rwU));let Ws:=aF rows;let i2:Option (Kd×U):=some (.own,.lst (Ws.map .str));have hst':TM.start [.lst (ds.map .int),.tup (rows.map rwU)] 9=[i0,i1,none,none,none,none,none,none,none]:=by simp[TM.start,imm,bc,i0,i1]
 let pk:Nat->Bool:=fun i=>decide ((0:Int)<dd ds (i % 16) / 2 % 4);let pw:Nat->Str:=fun i=>(Ws[i]?).getD "";let sel:List Str:=((List.range Ws.length).filter pk).map pw;have hsl:sel.length<=60:=by
  have h2:=List.length_filter_le pk (List.range Ws.length);show(((List.range Ws.length).filter pk).map pw).length<=60;rw[List.length_map];rw[List.length_range]at h2;exact Nat.le_trans h2 hwl
 have hsel:∀x∈sel,x∈Ws:=fun x hx=>by
  obtain⟨i,hi,rfl⟩:=List.mem_map.mp hx;have:=List.mem_range.mp (List.mem_filter.mp hi).1;simp[pw,this]
 have hWl:Ws.length<=60:=hwl;have gS:Run (ev Γ (.comp 1 false .rng1 [.bi .len [.var 2]] [.cmp .gt (.bin .mod (.bin .fdv (.idx (.var 1) (.bin .mod (.var 0) (.cst (.int 16)))) (.cst (.int 2))) (.cst (.int 4))) (.cst (.int 0))] (.idx (.var 3) (.var 0)))) [i0,i1,i2,none,none,none,none,none,none] (.own,.lst (sel.map .str)) [i0,i1,i2,none,none,none,none,none,none]:=by
  have hx:=dm (cond:=aM Γ [.cmp .gt (.bin .mod (.bin .fdv (.idx (.var 1) (.bin .mod (.var 0) (.cst (.int 16)))) (.cst (.int 2))) (.cst (.int 4))) (.cst (.int 0))]) (elt:=ev Γ (.idx (.var 3) (.var 0))) (src:=[(.loc,.int ((Ws.map U.str).length:Nat))]) (st:=[i0,i1,i2,none,none,none,none,none,none]) trivial .loc (.inl rfl) (fun i:Nat=>U.int (0+(i:Int))) (fun i=>.str (pw i)) pk .loc (List.range Ws.length) [] (by simp;omega)
   (fun i hi=>by
    have hi':i<Ws.length:=List.mem_range.mp hi;have h6:atI (ds.map U.int) ((0+(i:Int)) % 16)=some (.int (dd ds (i % 16))):=by
     rw[show(0+(i:Int)) % 16=((i % 16:Nat):Int) by omega];exact bb (by omega)
    have hn:atI (Ws.map U.str) (0+(i:Int))=some (.str (pw i)):=by
     rw[Int.zero_add];exact bq (by simp[pw,hi'])
    exact⟨cf (ba (a_ (a_ (aP (aq rfl) (a_ (af rfl) av trivial (br (by decide))) trivial (aC h6)) av trivial (pT (by decide))) av trivial (br (by decide))) av trivial rfl),fun _=>⟨aP (ax rfl) (af rfl) ⟨⟨.own,rfl,rfl⟩,trivial⟩ (aC hn),aV⟩⟩)
  rw[List.nil_append]at hx;have e:itU .rng1 [(.loc,.int ((Ws.map U.str).length:Nat))]=some ((List.range Ws.length).map fun i:Nat=>(Kd.loc,U.int (0+(i:Int)))):=by rw[List.length_map];exact e_ (by omega)
  have e0:sel.map U.str=((List.range Ws.length).filter pk).map (fun i=>U.str (pw i)):=by
   show(((List.range Ws.length).filter pk).map pw).map U.str=_;rw[List.map_map];rfl
  rw[e0];exact bG (rs:=[(.loc,.int ((Ws.map U.str).length:Nat))]) (aa (bK (aa (ax rfl) ag) ⟨⟨.own,rfl,rfl⟩,trivial⟩ bH) ag) trivial e hx
 obtain⟨F,f1,f2,f3⟩:=hh sel hsl;have hFl:F.length<=60:=by
  have h1:=f1.length_le;rw[a5]at h1;have:=cP sel;omega
 obtain⟨st',hrun,_,prs,o5,o6,o7,o8,hp1,hp2,e⟩:=dW (t:=false) (is:=[5]) (body:=execs Γ xF) (rs:=[(.loc,.lst (F.map .str))]) (fun w:Str=>(Kd.loc,U.str w))
  (fun d r st=>d++r=F/\∃prs o5 o6 o7 o8,prs.map (fun r:Row=>r.1)=d/\(∀p∈prs,okB rows F p=true)/\st=pS ds rows i2 F prs o5 o6 o7 o8) (fun _ _ _ _=>trivial) (fun d w r st hIx=>by
   obtain⟨hdr,prs,o5,o6,o7,o8,hp1,hp2,e⟩:=hIx;subst e;have hw':w∈F:=by rw[<-hdr];simp
   have hpl:prs.length<=60:=by
    have:=congrArg List.length hp1;have h2:=congrArg List.length hdr;simp at this h2;omega
   obtain⟨bs,o7',o8',hok,hl⟩:=vJ (Γ:=Γ) hr h8 hd h0 f2 hw' (o2:=i2) (o7:=o7) (o8:=o8) (prs:=prs);let j5:Option (Kd×U):=some (.loc,.str w);let j6:Option (Kd×U):=some (.own,.lst (bs.map .str));refine⟨pS ds rows i2 F prs j5 o6 o7 o8,pS ds rows i2 F (prs++[(w,bs)]) j5 j6 o7' o8',cG aQ,aA (r:=(.own,.lst [])) (cU ag trivial aX (Nat.zero_le _)) aY (c9 (rs:=[(.loc,.tup (rows.map rwU))]) (aa (af rfl) ag) trivial (by show some _=_;rw[List.map_map];rfl) rfl hl ?_),by rw[<-hdr];simp,prs++[(w,bs)],j5,j6,o7',o8',by rw[List.map_append,hp1];rfl,fun p hp=>?_,rfl⟩
   ·have e1:(prs++[(w,bs)]).map rwU=prs.map rwU++[rwU (w,bs)]:=by simp
    show Run _ _ _ [some (.any,.lst (ds.map .int)),some (.loc,.tup (rows.map rwU)),i2,some (.loc,.lst (F.map .str)),some (.own,.lst ((prs++[(w,bs)]).map rwU)),j5,j6,o7',o8'];rw[e1];exact iq (k:=.own) (k':=.own) (r:=(.loc,rwU (w,bs))) (us:=prs.map rwU) rfl (c8 (aa (af rfl) (aa (bK (aa (ax rfl) ag) ⟨⟨.own,rfl,rfl⟩,trivial⟩ rfl) ag)) trivial (aR aV (aR aV aX)) (by show 2<=sizeLine;omega)) aV rfl rfl (by rw[List.length_map];omega) au
   ·rcases List.mem_append.mp hp with hp|hp
    ·exact hp2 p hp
    ·rw[List.mem_singleton.mp hp];exact hok) F [] (pS ds rows i2 F [] none none none none) ⟨rfl,[],none,none,none,none,rfl,by simp,rfl⟩
 subst e;rw[List.nil_append]at hp1;have ei:itU .seq [(.loc,.lst (F.map .str))]=some (F.map fun w=>(Kd.loc,U.str w)):=by show some _=_;rw[List.map_map];rfl
 refine⟨prs,Ab hp1 f1 hsel hp2,?_,fun p hp=>?_,by rw[hp1];exact f2,?_⟩
 ·have:=congrArg List.length hp1;rw[List.length_map]at this;omega
 ·have:=hp2 p hp;unfold okB at this;rw[Bool.and_eq_true,decide_eq_true_eq]at this;rw[this.1];exact Nat.le_trans (gL rows p.1) hr
 ·exact aE rfl (.inl rfl) hst' (aA (bF (aa (af rfl) ag) trivial hw) aY (aA (r:=(.loc,.lst (F.map .str))) (bF (aa (af rfl) (aa gS ag)) trivial f3) aQ (aA (r:=(.own,.lst [])) (cU ag trivial aX (Nat.zero_le _)) aY
   (c9 (rs:=[(.loc,.lst (F.map .str))]) (aa (af rfl) ag) trivial ei rfl hrun (bp (ax rfl) (u7 rfl))))))
end
end K
namespace TM
open PySem L2 W01
theorem xG{ss:List Str}:bo .eq (.tup (ss.map U.str)) (.tup [])=some (decide (ss=[])):=by
 simp only[bo];rw[if_pos ⟨fX ss 49,rfl⟩];cases ss<;>simp[bj,bM]
theorem oA{Γ:Tab}{fn:Fn}{us:List U}{u:U}{st0 st:aj}(hn:us.length=fn.np)(hs:start us fn.ns=st0)(h:Run (execs Γ fn.body) st0 (.rt .any u) st):bO Γ fn us=some (.ok (.any,u)):=by
 subst hs;unfold bO;rw[if_pos hn,show execs Γ fn.body (start us fn.ns)=_ from h]
theorem oB:∀(rs:List Row),kP (rs.map rwU)=some (rs.map (·.1))
 |[]=>rfl
 |r::rs=>by
  show(kP (rs.map rwU)).map _=_;rw[oB rs];rfl
theorem vK{rs:List Row}(h0:0<rs.length)(hl:rs.length<64)(hd:(rs.map (·.1)).Nodup):∃rs':List Row,rs'.length=rs.length/\biU .sorted [(.own,.lst (rs.map rwU))]=some (.own,.lst (rs'.map rwU)):=by
 refine⟨(kh (rs.map (·.1))).map fun i=>rs.getD i ("",[]),?_,?_⟩
 ·rw[List.length_map,(dy _).length_eq,List.length_range,List.length_map]
 ·have e1:strsOf (rs.map rwU)=none:=by
   cases rs with
   |nil=>cases h0
   |cons r rs=>rfl
  show wN .own (rs.map rwU)=_;unfold wN;rw[e1];show wM .own (rs.map rwU)=_;unfold wM;rw[oB];show(if _ then _ else _)=_;rw[if_pos ⟨by rw[List.length_map];exact hl,hd,rfl⟩,List.map_map];congr 3
  apply List.map_congr_left;intro i hi;have hi':i<rs.length:=by
   have:=List.mem_range.mp ((dy _).mem_iff.mp hi)
   rwa [List.length_map]at this
  simp[List.getD,hi']
end TM
namespace K
open PySem L2 TM W01
section
variable{Γ:Tab}{rows prs:List Row}{ds:List Int}
noncomputable def qZ:List TM.S:=[.ite (.and [.cmp .eq (.var 7) (.var 4),.cmp .gt (.bi .len [.var 8]) (.cst (.int 0))]) [.app 6 (.idx (.bin .add (.comp 1 false .seq [.var 8] [.cmp .isin (.var 0) (.var 6)] (.var 0)) (.bi .list [.var 8])) (.cst (.int 0)))] []]
noncomputable abbrev cS(i0 i1:Option (Kd×U))(rows:List Row)(i3:Option (Kd×U))(w:Str)(F bs:List Str)(o7 o8:Option (Kd×U)):aj:=[i0,i1,some (.loc,.tup (rows.map rwU)),i3,some (.loc,.str w),some (.own,.lst (F.map .str)),some (.own,.lst (bs.map .str)),o7,o8]
theorem vL(hr:rows.length<=100)(h8:∀r∈rows,r.2.length<=8){i0 i1 i3:Option (Kd×U)}{w:Str}{F:List Str}:
  ∃(bs:List Str) (o7 o8:Option (Kd×U)),bs.length<=100/\Run (forM true [7,8] (execs Γ qZ) [(.loc,.tup (rows.map rwU))] (rows.map fun r=>(Kd.loc,rwU r))) (cS i0 i1 rows i3 w F [] none none) .nx (cS i0 i1 rows i3 w F bs o7 o8):=by
 have hsz:(2000:Nat)<=sizeLine:=by decide
 let S:=cS i0 i1 rows i3 w F;obtain⟨st',hrun,_,bs,o7,o8,hl,e⟩:=dW (t:=true) (is:=[7,8]) (body:=execs Γ qZ) (rs:=[(.loc,.tup (rows.map rwU))]) (fun r:Row=>(Kd.loc,rwU r))
  (fun d r st=>d++r=rows/\∃bs o7 o8,bs.length<=d.length/\st=S bs o7 o8) (fun _ _ _ _=>trivial) (fun d y r st hIx=>by
   obtain⟨hdr,bs,o7,o8,hl,e⟩:=hIx;subst e;have hy:y∈rows:=by rw[<-hdr];simp
   have hy8:=h8 y hy;have hdl:d.length<=100:=by have:=congrArg List.length hdr;simp at this;omega
   let i7:Option (Kd×U):=some (.loc,.str y.1);let i8:Option (Kd×U):=some (.loc,.tup (y.2.map .str));have tg:Run (cy true [7,8] (.loc,rwU y)) (S bs o7 o8) () (S bs i7 i8):=oi (.inl rfl);have tc:Run (tst Γ (.and [.cmp .eq (.var 7) (.var 4),.cmp .gt (.bi .len [.var 8]) (.cst (.int 0))])) (S bs i7 i8) (decide (y.1=w)&&decide ((0:Int)<((y.2.map U.str).length:Nat))) (S bs i7 i8) :=
    nS (vt (ba (af rfl) (af rfl) trivial gF) fun _=>cf (ba (bK (aa (af rfl) ag) trivial iM) av trivial rfl))
   cases hb:(decide (y.1=w)&&decide ((0:Int)<((y.2.map U.str).length:Nat))) with
   |false =>
    rw[hb]at tc;exact⟨S bs i7 i8,S bs i7 i8,tg,n9 tc (fun h=>by cases h) fun _=>au,by rw[<-hdr];simp,bs,i7,i8,by rw[List.length_append];exact Nat.le_trans hl (by omega),rfl⟩
   |true =>
    rw[hb]at tc;rw[Bool.and_eq_true,decide_eq_true_eq,decide_eq_true_eq,List.length_map]at hb;let sm:=y.2.filter fun x=>decide (x∈F);have hsl:sm.length<=8:=Nat.le_trans (List.length_filter_le _ _) hy8;have g8:Run (ev Γ (.comp 1 false .seq [.var 8] [.cmp .isin (.var 0) (.var 6)] (.var 0))) (S bs i7 i8) (.own,.lst (sm.map .str)) (S bs i7 i8):=by
     have hx:=dm (cond:=aM Γ [.cmp .isin (.var 0) (.var 6)]) (elt:=ev Γ (.var 0)) (src:=[(.loc,.tup (y.2.map .str))]) (st:=S bs i7 i8) trivial .loc (.inl rfl) U.str U.str (fun x=>decide (x∈F)) .loc y.2 [] (by simp;omega)
      (fun x _=>⟨cf (ba (af rfl) (ax rfl) ⟨⟨.own,rfl,rfl⟩,trivial⟩ jS),fun _=>⟨af rfl,aV⟩⟩)
     rw[List.nil_append]at hx;exact bG (rs:=[(.loc,.tup (y.2.map .str))]) (aa (af rfl) ag) trivial (by show some _=_;rw[List.map_map];rfl) hx
    obtain⟨b,hbx⟩:∃b,(sm++y.2)[0]?=some b:=by
     have:0<(sm++y.2).length:=by rw[List.length_append];omega
     exact⟨_,List.getElem?_eq_getElem this⟩
    have hx:atI (sm.map U.str++y.2.map U.str) 0=some (.str b):=by
     rw[<-List.map_append];exact bq (j:=0) (by rw[List.getElem?_map,hbx];rfl)
    refine⟨S bs i7 i8,S (bs++[b]) i7 i8,tg,n9 tc (fun _=>?_) (fun h=>by cases h),by rw[<-hdr];simp,bs++[b],i7,i8,by rw[List.length_append,List.length_append];simpa using hl,rfl⟩;have e1:(bs++[b]).map U.str=bs.map U.str++[.str b]:=by simp
    show Run _ _ _ [i0,i1,some (.loc,.tup (rows.map rwU)),i3,some (.loc,.str w),some (.own,.lst (F.map .str)),some (.own,.lst ((bs++[b]).map .str)),i7,i8];rw[e1];exact iq (k:=.own) (k':=.own) (us:=bs.map U.str) (st1:=S bs i7 i8) rfl (aP (a_ g8 (bK (aa (af rfl) ag) trivial rfl) trivial (fe (by rw[List.length_map,List.length_map];omega) rfl rfl)) av trivial (aC hx)) aV rfl rfl (by rw[List.length_map];omega) au) rows [] (S [] none none) ⟨rfl,[],none,none,Nat.zero_le _,rfl⟩
 subst e;exact⟨bs,o7,o8,Nat.le_trans hl (by simpa using hr),hrun⟩
theorem mO(hr:rows.length<=100)(h8:∀r∈rows,r.2.length<=8)(hd:ds.length=4)(h0:∀d∈ds,0<=d)(hl:prs.length<=50)(hk:isK rows prs=true)(hh:hst rows (prs.map (·.1))=prs.map (·.1)):
  ∃(k:Kd) (prs':List Row),(k=.own\/k=.any)/\prs'.length<=60/\bO Γ cn [.lst (ds.map .int),.lst (prs.map rwU),.tup (rows.map rwU)]=some (.ok (k,.lst (prs'.map rwU))):=by
 have hsz:(2000:Nat)<=sizeLine:=by decide
 let i0:Option (Kd×U):=some (.any,.lst (ds.map .int));let i1:Option (Kd×U):=some (.any,.lst (prs.map rwU));let i2:Option (Kd×U):=some (.loc,.tup (rows.map rwU));have hst':TM.start [.lst (ds.map .int),.lst (prs.map rwU),.tup (rows.map rwU)] 9=[i0,i1,i2,none,none,none,none,none,none]:=by simp[TM.start,imm,bc,i0,i1,i2]
 let hs:List Str:=(rows.filter fun r=>decide (r.2=[])).map (·.1);have hsl:hs.length<=100:=by
  show((rows.filter fun r=>decide (r.2=[])).map (·.1)).length<=100;rw[List.length_map];exact Nat.le_trans (List.length_filter_le _ _) hr
 have g3:Run (ev Γ (.comp 1 false .seq [.var 2] [.cmp .eq (.idx (.var 0) (.cst (.int 1))) (.tup [])] (.idx (.var 0) (.cst (.int 0))))) [i0,i1,i2,none,none,none,none,none,none] (.own,.lst (hs.map .str)) [i0,i1,i2,none,none,none,none,none,none]:=by
  have hx:=dm (cond:=aM Γ [.cmp .eq (.idx (.var 0) (.cst (.int 1))) (.tup [])]) (elt:=ev Γ (.idx (.var 0) (.cst (.int 0)))) (src:=[(.loc,.tup (rows.map rwU))]) (st:=[i0,i1,i2,none,none,none,none,none,none]) trivial .loc (.inl rfl) rwU (fun r=>.str r.1) (fun r=>decide (r.2=[])) .loc rows [] (by simp;omega)
   (fun r _=>⟨cf (ba (aP (x:=(.loc,rwU r)) (af rfl) av trivial rfl) (c8 ag trivial aX (Nat.zero_le _)) trivial xG),fun _=>⟨aP (x:=(.loc,rwU r)) (af rfl) av trivial rfl,aV⟩⟩)
  rw[List.nil_append]at hx;have e:hs.map U.str=(rows.filter fun r=>decide (r.2=[])).map fun r=>U.str r.1:=by show((rows.filter fun r=>decide (r.2=[])).map (·.1)).map U.str=_;rw[List.map_map];rfl
  rw[e];exact bG (rs:=[(.loc,.tup (rows.map rwU))]) (aa (af rfl) ag) trivial (by show some _=_;rw[List.map_map];rfl) hx
 let i3:Option (Kd×U):=some (.own,.lst (hs.map .str));have tc:Run (tst Γ (.cmp .eq (.bi .len [.var 3]) (.cst (.int 0)))) [i0,i1,i2,i3,none,none,none,none,none] (decide (((hs.map U.str).length:Int)=0)) [i0,i1,i2,i3,none,none,none,none,none]:=ba (bK (aa (ax rfl) ag) ⟨⟨.own,rfl,rfl⟩,trivial⟩ bH) av trivial (dS rfl);by_cases hz:hs.length=0
 ·rw[decide_eq_true (by rw[List.length_map];omega)]at tc;exact⟨.any,prs,.inr rfl,by omega,oA rfl hst' (aA g3 aY (b0 tc (bp (aq rfl) (u5 rfl))))⟩
 ·rw[decide_eq_false (by rw[List.length_map];omega)]at tc;have hp:(0:Int)<((hs.map U.str).length:Nat):=by rw[List.length_map];omega
  let j:=(dd ds 1 % ((hs.map U.str).length:Nat)).toNat;have hj:dd ds 1 % ((hs.map U.str).length:Nat)=(j:Int):=(Int.toNat_of_nonneg (Int.emod_nonneg _ (by omega))).symm;have hjl:j<hs.length:=by
   have:=Int.emod_lt_of_pos (dd ds 1) hp;rw[hj,List.length_map]at this;omega
  let w:=hs[j];have hw:w∈hs:=List.getElem_mem hjl;have hx:atI (hs.map U.str) (dd ds 1 % ((hs.map U.str).length:Nat))=some (.str w):=by
   rw[hj];exact bq (by simp[hjl,w])
  let F:=prs.map (·.1)++[w];have g5:Run (ev Γ (.bin .add (.comp 1 false .seq [.var 1] [] (.idx (.var 0) (.cst (.int 0)))) (.lst [.var 4]))) [i0,i1,i2,i3,some (.loc,.str w),none,none,none,none] (.own,.lst (F.map .str)) [i0,i1,i2,i3,some (.loc,.str w),none,none,none,none]:=by
   have hx:=fV (cond:=aM Γ []) (elt:=ev Γ (.idx (.var 0) (.cst (.int 0)))) (src:=[(.any,.lst (prs.map rwU))]) (st:=[i0,i1,i2,i3,some (.loc,.str w),none,none,none,none]) trivial .any (.inr rfl) rwU (fun r=>.str r.1) .any (fun _=>gE) prs [] (by simp;omega)
    (fun r _=>⟨aP (x:=(.any,rwU r)) (aq rfl) av trivial rfl,dB rfl⟩)
   rw[List.nil_append]at hx;have e:F.map U.str=(prs.map fun r=>U.str r.1)++[.str w]:=by show(prs.map (·.1)++[w]).map U.str=_;rw[List.map_append,List.map_map];rfl
   rw[e];exact a_ (bG (rs:=[(.any,.lst (prs.map rwU))]) (aa (aq rfl) ag) trivial (by show some _=_;rw[List.map_map];rfl) hx) (cU (aa (af rfl) ag) trivial (aR aV aX) (by show 1<=sizeLine;omega)) trivial (fe (by rw[List.length_map];show prs.length+1<=sizeLine;omega) rfl rfl)
  obtain⟨bs,o7,o8,hbl,hloop⟩:=vL (Γ:=Γ) hr h8 (i0:=i0) (i1:=i1) (i3:=i3) (w:=w) (F:=F);have hnd:((prs++[(w,bs)]).map (·.1)).Nodup:=by
   rw[List.map_append,List.nodup_append];unfold isK at hk;simp only[Bool.and_eq_true,decide_eq_true_eq]at hk;refine⟨by rw[hk.1.1];exact gI _,by simp,fun a ha b hb e=>?_⟩;have hb':b=w:=by simpa using hb
   subst e;rw[hb']at ha;obtain⟨r,hr1,hr2⟩:=List.mem_map.mp hw;have hr3:=List.mem_filter.mp hr1;obtain⟨x,hx1,_⟩:=oz hh ha hr3.1 hr2;rw[of_decide_eq_true hr3.2]at hx1;cases hx1
  obtain⟨prs',q1,q2⟩:=vK (rs:=prs++[(w,bs)]) (by simp) (by simp;omega) hnd;have eR:(prs++[(w,bs)]).map rwU=prs.map rwU++[rwU (w,bs)]:=by simp
  rw[eR]at q2;refine⟨.own,prs',.inl rfl,by rw[q1];simp;omega,aE rfl (.inl rfl) hst' (aA g3 aY (aB tc au (aA (r:=(.loc,.str w)) (aP (ax rfl) (a_ (aP (aq rfl) av trivial (aC (bb (by omega:1<ds.length)))) (bK (aa (ax rfl) ag) ⟨⟨.own,rfl,rfl⟩,trivial⟩ bH) trivial (br hp)) ⟨⟨.own,rfl,rfl⟩,trivial⟩ (aC hx)) aQ (aA g5 aY (aA (r:=(.own,.lst [])) (cU ag trivial aX (Nat.zero_le _)) aY (c9 (rs:=[(.loc,.tup (rows.map rwU))]) (aa (af rfl) ag) trivial (by show some _=_;rw[List.map_map];rfl) rfl hloop (bp (bK (aa (a_ (aq rfl) (cU (aa (r:=(.loc,rwU (w,bs))) (c8 (aa (af rfl) (aa (bK (aa (ax rfl) ag) ⟨⟨.own,rfl,rfl⟩,trivial⟩ rfl) ag)) trivial (aR aV (aR aV aX)) (by show 2<=sizeLine;omega)) ag) trivial (aR aV aX) (by show 1<=sizeLine;omega)) trivial (fe (by rw[List.length_map];show prs.length+1<=sizeLine;omega) (by show(!isAny .any||fu _)=true;rw[bc];rfl) rfl)) ag) trivial q2) cV)))))))⟩
end
end K
namespace TM
open PySem L2 W01
theorem j3(ss:List Str):imm (.tup (ss.map .str))=true:=by
 have h:=iP ("",ss);simpa[rwU,imm,fu] using h
theorem hJ{k:Kd}(rs:List Row):eN k (rs.map rwU)=true:=by
 unfold eN;rw[bc,Bool.or_true]
theorem j4{k:Kd}{rs:List Row}{lo hi:Option Int}:gU (k,.lst (rs.map rwU)) lo hi=some (.own,.lst ((cut rs lo hi).map rwU)):=by
 simp only[gU];rw[if_pos (hJ rs),mH]
theorem mP{k:Kd}{ss:List Str}{lo hi:Option Int}:gU (k,.tup (ss.map .str)) lo hi=some (kE k,.tup ((cut ss lo hi).map .str)):=by
 simp only[gU];rw[mH]
theorem j7{k k':Kd}{a b:List Str}(h:a.length+b.length<=sizeLine):opU .add (k,.tup (a.map .str)) (k',.tup (b.map .str))=some (kT k k',.tup ((a++b).map .str)):=by
 show(if _ then _ else _)=_;rw[if_pos (by rw[List.length_map,List.length_map];exact h),List.map_append]
theorem iR{k k':Kd}{a b:List Row}(h:a.length+b.length<=sizeLine):opU .add (k,.lst (a.map rwU)) (k',.lst (b.map rwU))=some (.own,.lst ((a++b).map rwU)):=by
 rw[fe (by rw[List.length_map,List.length_map];exact h) (hJ a) (hJ b),List.map_append]
section
variable{Γ:Tab}{st:aj}{prs:List Row}{a:Int}
theorem vM{e:E}{k:Kd}{r:Row}(hk:k=.loc\/k=.any)(h:Run (ev Γ e) st (k,rwU r) st):Run (ev Γ (.lst [e])) st (.own,.lst ([r].map rwU)) st :=
 cU (us:=[rwU r]) (aa h ag) (by rcases hk with rfl|rfl<;>trivial) (aR (by rcases hk with rfl|rfl;exact aV;exact dB (iP r)) aX) (by show 1<=sizeLine;decide)
theorem vN(h1:st[1]?=some (some (.any,.lst (prs.map rwU))))(h5:st[5]?=some (some (.loc,.int a))):Run (ev Γ (.slc (.var 1) [] [.var 5])) st (.own,.lst ((cut prs none (some a)).map rwU)) st:=ip (aq h1) ij (il (af h5)) trivial j4
theorem Ac(h1:st[1]?=some (some (.any,.lst (prs.map rwU))))(h5:st[5]?=some (some (.loc,.int a))):Run (ev Γ (.slc (.var 1) [.var 5] [])) st (.own,.lst ((cut prs (some a) none).map rwU)) st:=ip (aq h1) (il (af h5)) ij trivial j4
theorem vO(h1:st[1]?=some (some (.any,.lst (prs.map rwU))))(h5:st[5]?=some (some (.loc,.int a))):Run (ev Γ (.slc (.var 1) [.bin .add (.var 5) (.cst (.int 1))] [])) st (.own,.lst ((cut prs (some (a+1)) none).map rwU)) st:=ip (aq h1) (il (a_ (af h5) av trivial ef)) ij trivial j4
theorem Bp{x y:E}{p q:List Row}(hp:p.length<=20)(hq:q.length<=20)(hx:Run (ev Γ x) st (.own,.lst (p.map rwU)) st)(hy:Run (ev Γ y) st (.own,.lst (q.map rwU)) st):∃r:List Row,r.length<=60/\Run (ev Γ (.bin .add x y)) st (.own,.lst (r.map rwU)) st:=by
 have hsz:(2000:Nat)<=sizeLine:=by decide
 exact⟨p++q,by rw[List.length_append];omega,a_ hx hy trivial (iR (by omega))⟩
theorem xH{x y z:E}{p q:List Row}{r:Row}{k:Kd}(hp:p.length<=20)(hq:q.length<=20)(hx:Run (ev Γ x) st (.own,.lst (p.map rwU)) st)(hk:k=.loc\/k=.any)(hy:Run (ev Γ y) st (k,rwU r) st)(hz:Run (ev Γ z) st (.own,.lst (q.map rwU)) st):∃r:List Row,r.length<=60/\Run (ev Γ (.bin .add (.bin .add x (.lst [y])) z)) st (.own,.lst (r.map rwU)) st:=by
 have hsz:(2000:Nat)<=sizeLine:=by decide
 exact⟨(p++[r])++q,by rw[List.length_append,List.length_append,List.length_singleton];omega,a_ (a_ hx (vM hk hy) trivial (iR (by rw[List.length_singleton];omega))) hz trivial (iR (by rw[List.length_append,List.length_singleton];omega))⟩
end
end TM
namespace K
open PySem L2 TM W01
section
variable{Γ:Tab}{rows prs:List Row}{ds:List Int}
theorem vP(hr:rows.length<=100)(hd:ds.length=4)(h0:∀d∈ds,0<=d)(hl:prs.length<=20)(hb:∀p∈prs,p.2.length<=100)(hwl:(aF rows).length<=60)(hw:Γ "_law_words" [.tup (rows.map rwU)]=some (.ok (.own,.lst ((aF rows).map .str))))
  (hp:∃(k:Kd) (prs':List Row),(k=.own\/k=.any)/\prs'.length<=60/\Γ "_law_pictured" [.lst (ds.map .int),.lst (prs.map rwU),.tup (rows.map rwU)]=some (.ok (k,.lst (prs'.map rwU)))) :
  ∃(k:Kd) (prs':List Row),(k=.own\/k=.any)/\prs'.length<=60/\bO Γ d0 [.lst (ds.map .int),.lst (prs.map rwU),.tup (rows.map rwU)]=some (.ok (k,.lst (prs'.map rwU))):=by
 have hsz:(2000:Nat)<=sizeLine:=by decide
 let i0:Option (Kd×U):=some (.any,.lst (ds.map .int));let i1:Option (Kd×U):=some (.any,.lst (prs.map rwU));let i2:Option (Kd×U):=some (.loc,.tup (rows.map rwU));have hst':TM.start [.lst (ds.map .int),.lst (prs.map rwU),.tup (rows.map rwU)] 10=[i0,i1,i2,none,none,none,none,none,none,none]:=by simp[TM.start,imm,bc,i0,i1,i2]
 let ws:List Str:=aF rows++[("a/99":Str)];have hws:ws.length=(aF rows).length+1:=by show(aF rows++[("a/99":Str)]).length=_;rw[List.length_append];rfl
 have g3:Run (ev Γ (.bin .add (.call "_law_words" [.var 2]) (.lst [.cst (.str "a/99")]))) [i0,i1,i2,none,none,none,none,none,none,none] (.own,.lst (ws.map .str)) [i0,i1,i2,none,none,none,none,none,none,none]:=by
  have e:ws.map U.str=(aF rows).map U.str++[.str "a/99"]:=by show(aF rows++[("a/99":Str)]).map U.str=_;rw[List.map_append];rfl
  rw[e];exact a_ (bF (aa (af rfl) ag) trivial hw) (cU (aa av ag) trivial (aR aV aX) (by show 1<=sizeLine;omega)) trivial (fe (by rw[List.length_map];show(aF rows).length+1<=sizeLine;omega) rfl rfl)
 let i3:Option (Kd×U):=some (.own,.lst (ws.map .str));have at_:∀q:Nat,q<4->atI (ds.map U.int) (q:Int)=some (.int (dd ds q)):=fun q hq=>bb (by omega);let way:=dd ds 0 % 10;let i4:Option (Kd×U):=some (.loc,.int way);have g4:∀st:aj,st[0]?=some i0->Run (ev Γ (.bin .mod (.idx (.var 0) (.cst (.int 0))) (.cst (.int 10)))) st (.loc,.int way) st:=fun st h=>a_ (aP (aq h) av trivial (aC (at_ 0 (by omega)))) av trivial (br (by decide));have pre:∀{rest:List TM.S} {f:Fl} {st':aj},Run (execs Γ rest) [i0,i1,i2,i3,i4,none,none,none,none,none] f st'->Run (execs Γ (.set 3 (.bin .add (.call "_law_words" [.var 2]) (.lst [.cst (.str "a/99")]))::.set 4 (.bin .mod (.idx (.var 0) (.cst (.int 0))) (.cst (.int 10)))::rest)) [i0,i1,i2,none,none,none,none,none,none,none] f st':=fun h=>aA g3 aY (aA (g4 _ rfl) aQ h);have t7:Run (tst Γ (.cmp .gt (.var 4) (.cst (.int 7)))) [i0,i1,i2,i3,i4,none,none,none,none,none] (decide ((7:Int)<way)) [i0,i1,i2,i3,i4,none,none,none,none,none]:=ba (af rfl) av trivial rfl;by_cases hy:(7:Int)<way
 ·rw[decide_eq_true hy]at t7;obtain⟨k,prs',hk,q1,q2⟩:=hp;have rc:Run (ev Γ (.calA "_law_pictured" [.var 0,.var 1,.var 2])) [i0,i1,i2,i3,i4,none,none,none,none,none] (k,.lst (prs'.map rwU)) [i0,i1,i2,i3,i4,none,none,none,none,none]:=uX (aa (aq rfl) (aa (aq rfl) (aa (af rfl) ag))) trivial q2 rfl;refine⟨k,prs',hk,q1,?_⟩;rcases hk with rfl|rfl
  ·exact aE rfl (.inl rfl) hst' (pre (b0 t7 (bp rc cV)))
  ·exact oA rfl hst' (pre (b0 t7 (bp rc (u5 rfl))))
 rw[decide_eq_false hy]at t7;have tz:Run (tst Γ (.cmp .eq (.bi .len [.var 1]) (.cst (.int 0)))) [i0,i1,i2,i3,i4,none,none,none,none,none] (decide (((prs.map rwU).length:Int)=0)) [i0,i1,i2,i3,i4,none,none,none,none,none]:=ba (bK (aa (aq rfl) ag) trivial bH) av trivial (dS rfl);have wat:∀d:Int,∃x:Str,atI (ws.map U.str) (d % ((ws.map U.str).length:Nat))=some (.str x):=fun d=>by
  have hp:(0:Int)<((ws.map U.str).length:Nat):=by rw[List.length_map];omega
  obtain⟨j,hj⟩:∃j:Nat,d % ((ws.map U.str).length:Nat)=(j:Int):=⟨_,(Int.toNat_of_nonneg (Int.emod_nonneg _ (by omega))).symm⟩
  have hjl:j<ws.length:=by
   have:=Int.emod_lt_of_pos d hp;rw[hj,List.length_map]at this;omega
  rw[hj];exact⟨ws[j],bq (by simp[hjl])⟩
 have hwp:(0:Int)<((ws.map U.str).length:Nat):=by rw[List.length_map];omega
 by_cases hz:prs.length=0
 ·rw[decide_eq_true (by rw[List.length_map];omega)]at tz;obtain⟨x,hx⟩:=wat (dd ds 1);exact⟨.own,[(x,[])],.inl rfl,by simp,aE rfl (.inl rfl) hst' (pre (aB t7 au (b0 tz (bp (vM (r:=(x,[])) (.inl rfl) (c8 (us:=[.str x,.tup []]) (aa (aP (ax rfl) (a_ (aP (aq rfl) av trivial (aC (at_ 1 (by omega)))) (bK (aa (ax rfl) ag) ⟨⟨.own,rfl,rfl⟩,trivial⟩ bH) trivial (br hwp)) ⟨⟨.own,rfl,rfl⟩,trivial⟩ (aC hx)) (aa (c8 ag trivial aX (Nat.zero_le _)) ag)) trivial (aR aV (aR aV aX)) (by show 2<=sizeLine;omega))) cV))))⟩
 rw[decide_eq_false (by rw[List.length_map];omega)]at tz;have hpp:(0:Int)<((prs.map rwU).length:Nat):=by rw[List.length_map];omega
 obtain⟨j,hj⟩:∃j:Nat,dd ds 1 % ((prs.map rwU).length:Nat)=(j:Int):=⟨_,(Int.toNat_of_nonneg (Int.emod_nonneg _ (by omega))).symm⟩
 have hjl:j<prs.length:=by
  have:=Int.emod_lt_of_pos (dd ds 1) hpp;rw[hj,List.length_map]at this;omega
 let r:=prs[j];have hrb:r.2.length<=100:=hb r (List.getElem_mem hjl);have hx:atI (prs.map rwU) (j:Int)=some (rwU r):=bq (by simp[hjl,r]);let i5:Option (Kd×U):=some (.loc,.int (j:Int));let i6:Option (Kd×U):=some (.any,.str r.1);let i7:Option (Kd×U):=some (.any,.tup (r.2.map .str));let st:aj:=[i0,i1,i2,i3,i4,i5,i6,i7,none,none]
 have g5:Run (ev Γ (.bin .mod (.idx (.var 0) (.cst (.int 1))) (.bi .len [.var 1]))) [i0,i1,i2,i3,i4,none,none,none,none,none] (.loc,.int (j:Int)) [i0,i1,i2,i3,i4,none,none,none,none,none]:=by
  rw[<-hj];exact a_ (aP (aq rfl) av trivial (aC (at_ 1 (by omega)))) (bK (aa (aq rfl) ag) trivial bH) trivial (br hpp)
 have g1:∀s:aj,s[1]?=some i1->s[5]?=some i5->Run (ev Γ (.idx (.var 1) (.var 5))) s (.any,rwU r) s:=fun s a b=>aP (aq a) (af b) trivial (aC hx);have pre2:∀{rest:List TM.S} {f:Fl} {st':aj},Run (execs Γ rest) st f st'->Run (execs Γ (.set 3 (.bin .add (.call "_law_words" [.var 2]) (.lst [.cst (.str "a/99")]))::.set 4 (.bin .mod (.idx (.var 0) (.cst (.int 0))) (.cst (.int 10))) ::
   .ite (.cmp .gt (.var 4) (.cst (.int 7))) [.ret (.calA "_law_pictured" [.var 0,.var 1,.var 2])] [] ::
   .ite (.cmp .eq (.bi .len [.var 1]) (.cst (.int 0))) [.ret (.lst [.tup [.idx (.var 3) (.bin .mod (.idx (.var 0) (.cst (.int 1))) (.bi .len [.var 3])),.tup []]])] [] ::
   .set 5 (.bin .mod (.idx (.var 0) (.cst (.int 1))) (.bi .len [(.var 1)]))::.setT [6,7] (.idx (.var 1) (.var 5))::rest)) [i0,i1,i2,none,none,none,none,none,none,none] f st':=fun h =>
  pre (aB t7 au (aB tz au (aA g5 aQ (vC (g1 _ rfl rfl) (oi (.inr rfl)) h))))
 have tw:∀n:Int,Run (tst Γ (.cmp .eq (.var 4) (.cst (.int n)))) st (decide (way=n)) st:=fun n=>ba (af rfl) av trivial (dS rfl);have twT:∀{n:Int},way=n->Run (tst Γ (.cmp .eq (.var 4) (.cst (.int n)))) st true st:=fun {n} h=>by have:=tw n;rwa [decide_eq_true h]at this
 have twF:∀{n:Int},way≠n->Run (tst Γ (.cmp .eq (.var 4) (.cst (.int n)))) st false st:=fun {n} h=>by have:=tw n;rwa [decide_eq_false h]at this
 have cl:∀lo hi,(cut prs lo hi).length<=20:=fun lo hi=>Nat.le_trans (mI _ _ _) hl;have cA:=vN (Γ:=Γ) (st:=st) (prs:=prs) (a:=(j:Int)) rfl rfl;have cB:=Ac (Γ:=Γ) (st:=st) (prs:=prs) (a:=(j:Int)) rfl rfl;have cC:=vO (Γ:=Γ) (st:=st) (prs:=prs) (a:=(j:Int)) rfl rfl;by_cases w0:way=0
 ·obtain⟨p,q1,q2⟩:=Bp (cl _ _) (cl _ _) cA cC;exact⟨.own,p,.inl rfl,q1,aE rfl (.inl rfl) hst' (pre2 (b0 (twT w0) (bp q2 cV)))⟩
 by_cases w1:way=1
 ·obtain⟨p,q1,q2⟩:=xH (cl _ _) (cl _ _) cA (.inr rfl) (g1 st rfl rfl) cB;exact⟨.own,p,.inl rfl,q1,aE rfl (.inl rfl) hst' (pre2 (aB (twF w0) au (b0 (twT w1) (bp q2 cV))))⟩
 by_cases w2:way=2
 ·obtain⟨p,q1,q2⟩:=Bp (cl _ _) (cl _ _) cB cA;exact⟨.own,p,.inl rfl,q1,aE rfl (.inl rfl) hst' (pre2 (aB (twF w0) au (aB (twF w1) au (b0 (twT w2) (bp q2 cV)))))⟩
 by_cases w3:way=3
 ·have q2:Run (ev Γ (.bin .add (.var 1) (.lst [.tup [.cst (.str "zzzzzzzz/99"),.tup []]]))) st (.own,.lst ((prs++[((("zzzzzzzz/99":Str),[]):Row)]).map rwU)) st :=
   a_ (aq rfl) (vM (r:=("zzzzzzzz/99",[])) (.inl rfl) (c8 (us:=[.str "zzzzzzzz/99",.tup []]) (aa av (aa (c8 ag trivial aX (Nat.zero_le _)) ag)) trivial (aR aV (aR aV aX)) (by show 2<=sizeLine;omega))) trivial (iR (by rw[List.length_singleton];omega))
  exact⟨.own,_,.inl rfl,by rw[List.length_append,List.length_singleton];omega,aE rfl (.inl rfl) hst' (pre2 (aB (twF w0) au (aB (twF w1) au (aB (twF w2) au (b0 (twT w3) (bp q2 cV))))))⟩
 by_cases w4:way=4
 ·obtain⟨p,q1,q2⟩:=xH (r:=(r.1,cut r.2 (some 1) none)) (y:=.tup [.var 6,.slc (.var 7) [.cst (.int 1)] []]) (cl _ _) (cl _ _) cA (.inl rfl) (c8 (us:=[.str r.1,.tup ((cut r.2 (some 1) none).map .str)]) (aa (aq rfl) (aa (ip (aq rfl) (il av) ij trivial mP) ag)) trivial (aR (dB rfl) (aR (dB (j3 _)) aX)) (by show 2<=sizeLine;omega)) cC;exact⟨.own,p,.inl rfl,q1,aE rfl (.inl rfl) hst' (pre2 (aB (twF w0) au (aB (twF w1) au (aB (twF w2) au (aB (twF w3) au (b0 (twT w4) (bp q2 cV)))))))⟩
 by_cases w5:way=5
 ·obtain⟨p,q1,q2⟩:=xH (r:=(r.1,r.2++[r.1])) (y:=.tup [.var 6,.bin .add (.var 7) (.tup [.var 6])]) (cl _ _) (cl _ _) cA (.inl rfl) (c8 (us:=[.str r.1,.tup ((r.2++[r.1]).map .str)]) (aa (aq rfl) (aa (a_ (aq rfl) (c8 (us:=[r.1].map .str) (aa (aq rfl) ag) trivial (aR (dB rfl) aX) (by show 1<=sizeLine;omega)) trivial (j7 (by rw[List.length_singleton];omega))) ag)) trivial (aR (dB rfl) (aR (dB (j3 _)) aX)) (by show 2<=sizeLine;omega)) cC;exact⟨.own,p,.inl rfl,q1,aE rfl (.inl rfl) hst' (pre2 (aB (twF w0) au (aB (twF w1) au (aB (twF w2) au (aB (twF w3) au (aB (twF w4) au (b0 (twT w5) (bp q2 cV))))))))⟩
 obtain⟨x,hx9⟩:=wat (dd ds 3);obtain⟨m,hm⟩:∃m:Int,biU .max [(.loc,.int 1),(.loc,.int ((r.2.map U.str).length:Nat))]=some (.loc,.int m)/\0<m:=by
  refine⟨if (((r.2.map U.str).length:Nat):Int)>1 then(((r.2.map U.str).length:Nat):Int) else 1,rfl,?_⟩;split<;>omega
 let a8:=dd ds 2 % m;let i8:Option (Kd×U):=some (.loc,.int a8);let i9:Option (Kd×U):=some (.loc,.str x);let st9:aj:=[i0,i1,i2,i3,i4,i5,i6,i7,i8,i9]
 have g8:Run (ev Γ (.bin .mod (.idx (.var 0) (.cst (.int 2))) (.bi .max [.cst (.int 1),.bi .len [.var 7]]))) st (.loc,.int a8) st:=a_ (aP (aq rfl) av trivial (aC (at_ 2 (by omega)))) (bK (aa av (aa (bK (aa (aq rfl) ag) trivial iM) ag)) trivial hm.1) trivial (br hm.2);have g9:Run (ev Γ (.idx (.var 3) (.bin .mod (.idx (.var 0) (.cst (.int 3))) (.bi .len [.var 3])))) [i0,i1,i2,i3,i4,i5,i6,i7,i8,none] (.loc,.str x) [i0,i1,i2,i3,i4,i5,i6,i7,i8,none]:=aP (ax rfl) (a_ (aP (aq rfl) av trivial (aC (at_ 3 (by omega)))) (bK (aa (ax rfl) ag) ⟨⟨.own,rfl,rfl⟩,trivial⟩ bH) trivial (br hwp)) ⟨⟨.own,rfl,rfl⟩,trivial⟩ (aC hx9);have c1:=mI r.2 none (some a8);have c2:=mI r.2 (some (a8+1)) none;let bl:=(cut r.2 none (some a8)++[x])++cut r.2 (some (a8+1)) none;obtain⟨p,q1,q2⟩:=xH (Γ:=Γ) (st:=st9) (r:=(r.1,bl)) (y:=.tup [.var 6,.bin .add (.bin .add (.slc (.var 7) [] [.var 8]) (.tup [.var 9])) (.slc (.var 7) [.bin .add (.var 8) (.cst (.int 1))] [])]) (cl _ _) (cl _ _) (vN (prs:=prs) (a:=(j:Int)) rfl rfl) (.inl rfl)
  (c8 (us:=[.str r.1,.tup (bl.map .str)]) (aa (aq rfl) (aa (a_ (a_ (ip (aq rfl) ij (il (af rfl)) trivial mP) (c8 (us:=[x].map .str) (aa (af rfl) ag) trivial (aR aV aX) (by show 1<=sizeLine;omega)) trivial (j7 (by rw[List.length_singleton];omega))) (ip (aq rfl) (il (a_ (af rfl) av trivial ef)) ij trivial mP) trivial (j7 (by rw[List.length_append,List.length_singleton];omega))) ag)) trivial (aR (dB rfl) (aR (dB (j3 _)) aX)) (by show 2<=sizeLine;omega)) (vO (prs:=prs) (a:=(j:Int)) rfl rfl)
 exact⟨.own,p,.inl rfl,q1,aE rfl (.inl rfl) hst' (pre2 (aB (twF w0) au (aB (twF w1) au (aB (twF w2) au (aB (twF w3) au (aB (twF w4) au (aB (twF w5) au (aA g8 aQ (aA g9 aQ (bp q2 cV))))))))))⟩
end
end K
namespace TM
open PySem L2 W01
theorem iy:∀rs:List Row,b9 49 (rs.map rwU)=true
 |[]=>by simp[b9]
 |r::rs=>by rw[List.map_cons,b9,iy rs];simp[rwU,eqD,b9,dE]
theorem Bq{ds:List Int}(h:ds.length=15):(cut ds (some 11) none).length=4:=by
 have e1:HT.sIx ds.length 0 (some 11)=11:=by
  show HT.sIx ds.length 0 (some ((11:Nat):Int))=11;rw[HT.v7];omega
 have e2:HT.sIx ds.length ds.length none=ds.length:=rfl;unfold cut;rw[e1,e2,List.length_take,List.length_drop];omega
end TM
namespace K
open PySem L2 TM W01
theorem makers:vp prog:=⟨rfl,rfl,rfl,rfl,rfl,rfl,rfl⟩
section
variable{Γ:Tab}{rows:List Row}
noncomputable def xI:List TM.S:=[.set 3 (.call "_law_pairs" [.call "_law_drawn" [.call "_law_cell" [.var 0,.bin .add (.cst (.int 56)) (.var 2)],.cst (.int 20)],.var 1]),.set 4 (.bi .list [.var 3]),.ite (.or [.cmp .isnt (.call "is_knot" [.var 1,.var 4]) (.cst (.bl true)),.cmp .ne (.var 4) (.var 3),.not (.call "_law_walk" [.var 1,.var 3])]) [.ret (.cst (.bl false))] [],.ite (.cmp .isnt (.call "is_knot" [.var 1,.bi .tuple [.var 3]]) (.cst (.bl true))) [.ret (.cst (.bl false))] [],.set 5 (.calA "_law_bent" [.frz (.slc (.call "_law_drawn" [.call "_law_cell" [.var 0,.bin .add (.cst (.int 50)) (.var 2)],.cst (.int 15)]) [.cst (.int 11)] []),.frz (.var 3),.var 1]),.ite (.cmp .ne (.bi .repr [.call "is_knot" [.var 1,.var 5]]) (.bi .repr [.call "_law_walk" [.var 1,.var 5]])) [.ret (.cst (.bl false))] []]
theorem xJ{ns:List Int}{rows0:List Row}(hcell:fT Γ)(hdrawn:dU Γ)(hmade:Γ "_law_made" [.lst (ns.map .int)]=some (.ok (.loc,.tup (rows0.map rwU))))(hwid:Γ "_law_widened" [.lst (ns.map .int),.tup (rows0.map rwU)]=some (.ok (.loc,.tup (rows.map rwU))))
  (hk:∀(t:Bool) (prs:List Row),prs.length<=60->Γ "is_knot" [.tup (rows.map rwU),iF t prs]=some (.ok (.loc,.bl (isK rows prs))))
  (hwalk:∀prs:List Row,prs.length<=60->Γ "_law_walk" [.tup (rows.map rwU),.lst (prs.map rwU)]=some (.ok (.loc,.bl (isK rows prs))))
  (hpairs:∀ds:List Int,ds.length=20->(∀d∈ds,0<=d)->∃prs:List Row,isK rows prs=true/\prs.length<=20/\(∀p∈prs,p.2.length<=100)/\hst rows (prs.map (·.1))=prs.map (·.1)/\Γ "_law_pairs" [.lst (ds.map .int),.tup (rows.map rwU)]=some (.ok (.own,.lst (prs.map rwU))))
  (hbent:∀(ds:List Int) (prs:List Row),ds.length=4->(∀d∈ds,0<=d)->isK rows prs=true->prs.length<=20->(∀p∈prs,p.2.length<=100)->hst rows (prs.map (·.1))=prs.map (·.1)->∃(k:Kd) (prs':List Row),(k=.own\/k=.any)/\prs'.length<=60/\Γ "_law_bent" [.lst (ds.map .int),.lst (prs.map rwU),.tup (rows.map rwU)]=some (.ok (k,.lst (prs'.map rwU)))) :
  bO Γ qX [.lst (ns.map .int)]=some (.ok (.loc,.bl true)):=by
 have hst':TM.start [.lst (ns.map .int)] 6=[some (.any,.lst (ns.map .int)),none,none,none,none,none]:=rfl;let S:=fun(o2 o3 o4 o5:Option (Kd×U))=>([some (.any,.lst (ns.map .int)),some (.loc,.tup (rows.map rwU)),o2,o3,o4,o5]:aj)
 have g1:Run (ev Γ (.call "_law_widened" [.var 0,.call "_law_made" [.var 0]])) [some (.any,.lst (ns.map .int)),none,none,none,none,none] (.loc,.tup (rows.map rwU)) [some (.any,.lst (ns.map .int)),none,none,none,none,none] :=
  bF (aa (aq rfl) (aa (bF (aa (aq rfl) ag) trivial hmade) ag)) trivial hwid
 have k0:Γ "is_knot" [.tup (rows.map rwU),.lst []]=some (.ok (.loc,.bl true)):=by
  have h:=hk false [] (by simp);rw[show isK rows []=true by rw[lu];rfl]at h;exact h
 have t0:Run (tst Γ (.cmp .isnt (.call "is_knot" [.var 1,.lst []]) (.cst (.bl true)))) (S none none none none) false (S none none none none):=ba (bF (aa (af rfl) (aa (cU ag trivial aX (Nat.zero_le _)) ag)) trivial k0) av trivial rfl;obtain⟨st',hrun,_,o2,o3,o4,o5,e⟩:=dW (t:=false) (is:=[2]) (body:=execs Γ xI) (rs:=[(.loc,.int (6:Nat))]) (fun i:Nat=>(Kd.loc,U.int (0+(i:Int)))) (fun d r st=>(∀i∈r,i<6)/\∃o2 o3 o4 o5,st=S o2 o3 o4 o5) (fun _ _ _ _=>trivial) (fun d i r st hIx=>by
   obtain⟨hi,o2,o3,o4,o5,e⟩:=hIx;subst e;have hi6:i<6:=hi i (by simp);obtain⟨z1,hz1⟩:=hcell ns (56+i) (by omega);rw[Int.natCast_add]at hz1;obtain⟨ds1,d1,d2,d3⟩:=hdrawn z1 20 (by omega);obtain⟨prs,p1,p2,p3,p4,p5⟩:=hpairs ds1 d1 d2;obtain⟨z2,hz2⟩:=hcell ns (50+i) (by omega);rw[Int.natCast_add]at hz2;obtain⟨ds2,e1,e2,e3⟩:=hdrawn z2 15 (by omega);obtain⟨k,prs',b1,b2,b3⟩:=hbent (cut ds2 (some 11) none) prs (Bq e1) (fun d h=>e2 d (xC h)) p1 p2 p3 p4;let i2:Option (Kd×U):=some (.loc,.int (i:Nat));let L:Option (Kd×U):=some (.own,.lst (prs.map rwU));let L':Option (Kd×U):=some (.loc,.lst (prs.map rwU));let i5:Option (Kd×U):=some (k,.lst (prs'.map rwU));have q1:=hk false prs (by omega);have q2:=hk true prs (by omega);have q3:=hwalk prs (by omega);rw[p1]at q1 q2 q3;have g3:Run (ev Γ (.call "_law_pairs" [.call "_law_drawn" [.call "_law_cell" [.var 0,.bin .add (.cst (.int 56)) (.var 2)],.cst (.int 20)],.var 1])) (S i2 o3 o4 o5) (.own,.lst (prs.map rwU)) (S i2 o3 o4 o5):=by repeat' (first|exact hz1|exact d3|exact p5|sizeOf_list_dec)
   have t1:Run (tst Γ (.or [.cmp .isnt (.call "is_knot" [.var 1,.var 4]) (.cst (.bl true)),.cmp .ne (.var 4) (.var 3),.not (.call "_law_walk" [.var 1,.var 3])])) (S i2 L L o5) false (S i2 L L o5) :=
    uZ (u4 (ba (bF (aa (af rfl) (aa (ax rfl) ag)) ⟨⟨.own,rfl,rfl⟩,trivial⟩ q1) av trivial rfl) (u4 (ba (ax rfl) (ax rfl) ⟨⟨.own,rfl,rfl⟩,⟨.own,rfl,rfl⟩,trivial⟩ (sA (by rw[eqD];exact iy prs)))
     (nU (Bb (zT (b:=true) (aa (af rfl) (aa (ax rfl) ag)) ⟨⟨.own,rfl,rfl⟩,trivial⟩ q3 rfl)))))
   have t2:Run (tst Γ (.cmp .isnt (.call "is_knot" [.var 1,.bi .tuple [.var 3]]) (.cst (.bl true)))) (S i2 L L o5) false (S i2 L L o5):=ba (bF (aa (af rfl) (aa (bK (r:=(.loc,.tup (prs.map rwU))) (aa (ax rfl) ag) ⟨⟨.own,rfl,rfl⟩,trivial⟩ rfl) ag)) trivial q2) av trivial rfl;have gd:Run (ev Γ (.call "_law_drawn" [.call "_law_cell" [.var 0,.bin .add (.cst (.int 50)) (.var 2)],.cst (.int 15)])) (S i2 L L o5) (.own,.lst (ds2.map .int)) (S i2 L L o5):=by repeat' (first|exact hz2|exact e3|sizeOf_list_dec)
   have g5:Run (ev Γ (.calA "_law_bent" [.frz (.slc (.call "_law_drawn" [.call "_law_cell" [.var 0,.bin .add (.cst (.int 50)) (.var 2)],.cst (.int 15)]) [.cst (.int 11)] []),.frz (.var 3),.var 1])) (S i2 L L o5) (k,.lst (prs'.map rwU)) (S i2 L' L o5) :=
    uX (st1:=S i2 L' L o5) (aa (x9 (ip gd (il av) ij trivial (vA rfl)) uY) (aa (st1:=S i2 L' L o5) (x9 (ax rfl) (Bl rfl)) (aa (af rfl) ag))) trivial b3 rfl
   have rp:∀{e:E} {x:Bool},Run (ev Γ e) (S i2 L' L i5) (.loc,.bl x) (S i2 L' L i5)->Run (ev Γ (.bi .repr [e])) (S i2 L' L i5) (.loc,.str (if x then "True" else "False")) (S i2 L' L i5):=fun h=>bK (aa h ag) trivial rfl;have tt:Run (tst Γ (.cmp .ne (.bi .repr [.call "is_knot" [.var 1,.var 5]]) (.bi .repr [.call "_law_walk" [.var 1,.var 5]]))) (S i2 L' L i5) false (S i2 L' L i5):=by
    rcases b1 with rfl|rfl
    ·exact ba (rp (bF (aa (af rfl) (aa (ax rfl) ag)) ⟨⟨.own,rfl,rfl⟩,trivial⟩ (hk false prs' b2))) (rp (bF (aa (af rfl) (aa (ax rfl) ag)) ⟨⟨.own,rfl,rfl⟩,trivial⟩ (hwalk prs' b2))) trivial (qW _)
    ·exact ba (rp (bF (aa (af rfl) (aa (aq rfl) ag)) trivial (hk false prs' b2))) (rp (bF (aa (af rfl) (aa (aq rfl) ag)) trivial (hwalk prs' b2))) trivial (qW _)
   have p5':Run (dz 5 (k,.lst (prs'.map rwU))) (S i2 L' L o5) () (S i2 L' L i5):=by
    rcases b1 with rfl|rfl
    ·exact aY
    ·exact jJ
   have htg:Run (cy false [2] (.loc,.int (0+(i:Int)))) (S o2 o3 o4 o5) () (S i2 o3 o4 o5):=by rw[Int.zero_add];exact cG aQ
   exact⟨S i2 o3 o4 o5,S i2 L' L i5,htg,aA g3 aY (aA (r:=(.own,.lst (prs.map rwU))) (bK (aa (ax rfl) ag) ⟨⟨.own,rfl,rfl⟩,trivial⟩ rfl) aY (aB t1 au (aB t2 au (aA g5 p5' (n9 tt (fun h=>by cases h) fun _=>au))))),fun j hj=>hi j (by simp[hj]),_,_,_,_,rfl⟩) (List.range 6) [] (S none none none none) ⟨fun i hi=>List.mem_range.mp hi,none,none,none,none,rfl⟩
 subst e;have hit:=e_ (k:=.loc) (n:=6) (by omega);exact aE rfl (.inr rfl) hst' (aA g1 aQ (aB t0 au (c9 (rs:=[(.loc,.int (6:Nat))]) (st1:=S none none none none) (aa av ag) trivial hit rfl hrun (bp av cW))))
end
theorem pure(ns:List Int)(hns:ns.length<=63):sem prog 5 "law" [uT ns]=some (.ok (.loc,.bl true)):=by
 obtain⟨names0,rows0,k1,k2,k3,k4,k5,k6,k7,k8⟩:=vn (Γ:=sem prog 3) makers.fU makers.drawnOk makers.namesOk makers.vq ns;have hmade:sem prog 4 "_law_made" [.lst (ns.map .int)]=some (.ok (.loc,.tup (rows0.map rwU))):=(aU (show Has prog "_law_made" vm from rfl) _).trans k8;obtain⟨names,rows,B,hw⟩:=og (Γ:=sem prog 3) makers.fU makers.drawnOk makers.namesOk makers.vq (ns:=ns) ⟨k1,k2,k3,k4,k5,k6,k7⟩;have hwid:sem prog 4 "_law_widened" [.lst (ns.map .int),.tup (rows0.map rwU)]=some (.ok (.loc,.tup (rows.map rwU))):=(aU (show Has prog "_law_widened" jP from rfl) _).trans hw;have hrl:rows.length<=100:=by have:=B.len;omega
 have hnl:=B.few;have hwl:=pW B.ok;have h8:∀r∈rows,r.2.length<=8:=fun r hr=>(B.ok r hr).few;have lw:∀n,sem prog (n+1) "_law_words" [.tup (rows.map rwU)]=some (.ok (.own,.lst ((aF rows).map .str))):=fun n=>(aU (show Has prog "_law_words" da from rfl) _).trans (pY hrl B.ok (by omega));refine(aU (show Has prog "law" qX from rfl) _).trans (xJ makers.fU makers.drawnOk hmade hwid (fun t prs hl=>?_) (fun prs hl=>?_) (fun ds hd h0=>?_) fun ds prs hd h0 hk hl hb hh=>?_)
 ·exact(aU (show Has prog "is_knot" fq from rfl) _).trans (ot t hl (by omega) ((aU (show Has prog "words_of" pX from rfl) _).trans (mJ hrl B.ok (by omega)))
   fun r ins=>(aU (show Has prog "is_blocked" cN from rfl) _).trans (oq hrl (fun w=>(aU (show Has prog "rows_of" fm from rfl) _).trans (oo hrl w)) r ins))
 ·exact(aU (show Has prog "_law_walk" dZ from rfl) _).trans (vH hrl hl (lw 2))
 ·obtain⟨prs,p1,p2,p3,p4,p5⟩:=sE (Γ:=sem prog 3) hrl h8 hd h0 (by omega) (lw 2) fun ws hl=>by
   obtain⟨F,f1,f2,f3⟩:=vI (Γ:=sem prog 2) hrl h8 hl;exact⟨F,f1,f2,(aU (show Has prog "_law_held" dY from rfl) _).trans f3⟩
  refine⟨prs,p1,?_,p3,p4,(aU (show Has prog "_law_pairs" dc from rfl) _).trans p5⟩;have hk:=p1;unfold isK at hk;simp only[Bool.and_eq_true,decide_eq_true_eq,List.all_eq_true]at hk;have h1:=jO (l:=prs.map (·.1)) (names:=aF rows) hk.1.2;have h2:=congrArg List.length hk.1.1;rw[a5,List.length_map]at h2;omega
 ·obtain⟨k,prs',a,b,c⟩:=vP (Γ:=sem prog 3) hrl hd h0 hl hb (by omega) (lw 2) (by
   obtain⟨k,prs',a,b,c⟩:=mO (Γ:=sem prog 2) hrl h8 hd h0 (by omega:prs.length<=50) hk hh;exact⟨k,prs',a,b,(aU (show Has prog "_law_pictured" cn from rfl) _).trans c⟩)
  exact⟨k,prs',a,b,(aU (show Has prog "_law_bent" d0 from rfl) _).trans c⟩
end K
namespace K
open PySem L2 TM PySem.W PyProof.Rows
noncomputable def m0:Value:=.str "primer.books" 187
noncomputable def m1:Value:=.str "primer.knots" 204
noncomputable def m2:Value:=.str "law_primer_k15_what_is_a_knot" 218
noncomputable def ml:Me:=⟨qX,22,["_law_script","_law_book_here","_law_k","_law_pairs_here","_law_handed","_law_bent_here"],134,133,m2,co "law" 355 168 1 128 129 (.ref 130) (.ref 131) (.ref 132) 364 365 181⟩
noncomputable def ms:List Me:=[⟨jT,1,["book","words","row"],21,20,m0,co "words_of" 189 2 1 15 16 (.ref 17) (.ref 18) (.ref 19) 195 196 181⟩,
 ⟨fm,2,["book","word"],26,25,m0,co "rows_of" 198 8 2 22 23 .none .none (.ref 24) 201 202 181⟩,
 ⟨cN,4,["book","pair","inside","places"],31,30,m1,co "is_blocked" 206 11 3 27 28 .none .none (.ref 29) 209 210 181⟩,
 ⟨fq,5,["book","pairs","words"],36,35,m1,co "is_knot" 212 16 2 32 33 .none .none (.ref 34) 215 216 181⟩,
 ⟨lq,7,["_law_cell_here","_law_k","_law_by"],43,42,m2,co "_law_mix" 220 22 2 37 38 (.ref 39) (.ref 40) (.ref 41) 226 227 181⟩,
 ⟨jU,8,["_law_script","_law_k","_law_seed"],50,49,m2,co "_law_cell" 229 25 2 44 45 (.ref 46) (.ref 47) (.ref 48) 235 236 181⟩,
 ⟨iw,9,["_law_cell_here","_law_many","_law_found","_law_left","_law_k"],57,56,m2,co "_law_drawn" 238 32 2 51 52 (.ref 53) (.ref 54) (.ref 55) 246 247 181⟩,
 ⟨jV,10,["_law_drawn_here","_law_names_here","_law_letters","_law_name_here","_law_stem","_law_spare"],62,61,m2,co "_law_name" 249 42 2 58 59 .none .none (.ref 60) 252 253 181⟩,
 ⟨ix,11,["_law_script","_law_base","_law_many","_law_names_here","_law_k"],69,68,m2,co "_law_names" 255 53 3 63 64 (.ref 65) (.ref 66) (.ref 67) 263 264 181⟩,
 ⟨jW,12,["_law_drawn_here","_law_names_here","_law_top","_law_told_here","_law_k","_law_one"],76,75,m2,co "_law_told" 266 58 2 70 71 (.ref 72) (.ref 73) (.ref 74) 275 276 181⟩,
 ⟨jX,13,["_law_script","_law_base","_law_names_here","_law_many","_law_rows","_law_met","_law_k","_law_drawn_here","_law_row","_law_key"],83,82,m2,co "_law_book" 278 68 4 77 78 (.ref 79) (.ref 80) (.ref 81) 291 292 181⟩,
 ⟨jY,14,["_law_script","_law_drawn_here","_law_names_here"],90,89,m2,co "_law_made" 294 79 1 84 85 (.ref 86) (.ref 87) (.ref 88) 300 301 181⟩,
 ⟨fH,15,["_law_script","_law_book_here","_law_drawn_here","_law_words_here","_law_row"],95,94,m2,co "_law_widened" 303 83 2 91 92 .none .none (.ref 93) 306 307 181⟩,
 ⟨dY,16,["_law_book_here","_law_words_here","_law_held_here","_law_going","_law_left","_law_word"],100,99,m2,co "_law_held" 309 93 2 96 97 .none .none (.ref 98) 312 313 181⟩,
 ⟨da,17,["_law_book_here","_law_words_here","_law_row"],105,104,m2,co "_law_words" 315 104 1 101 102 .none .none (.ref 103) 318 319 181⟩,
 ⟨dZ,18,["_law_book_here","_law_pairs_here","_law_held_here","_law_words_here","_law_k","_law_word","_law_blocks","_law_rows","_law_told_here","_law_block"],110,109,m2,co "_law_walk" 321 109 2 106 107 .none .none (.ref 108) 324 325 181⟩,
 ⟨dc,19,["_law_drawn_here","_law_book_here","_law_words_here","_law_held_here","_law_pairs_here","_law_word","_law_blocks","_law_row","_law_some"],115,114,m2,co "_law_pairs" 327 121 2 111 112 .none .none (.ref 113) 330 331 181⟩,
 ⟨cn,20,["_law_drawn_here","_law_pairs_here","_law_book_here","_law_heads","_law_word","_law_held_here","_law_blocks","_law_own","_law_told_here"],120,119,m2,co "_law_pictured" 333 133 3 116 117 .none .none (.ref 118) 336 337 181⟩,
 ⟨d0,21,["_law_drawn_here","_law_pairs_here","_law_book_here","_law_words_here","_law_way","_law_at","_law_word","_law_blocks","_law_place","_law_other"],127,126,m2,co "_law_bent" 339 144 3 121 122 (.ref 123) (.ref 124) (.ref 125) 352 353 181⟩,
 ml]
noncomputable def gg(P:Params):Obj:=⟨.type "dict",none,.dict #[ge P "__name__" 165 (.str "law_primer_k15_what_is_a_knot" 218),ge P "__doc__" 166 .none,ge P "__package__" 167 .none,ge P "__loader__" 168 (.builtin "__main__.__loader__#opaque"),ge P "__spec__" 169 .none,ge P "__annotations__" 170 (.ref 6),ge P "__builtins__" 171 (.ref 4),ge P "__file__" 173 (.str "/claim/cut.py" 172),ge P "__cached__" 174 .none,ge P "words_of" 197 (.ref 21),ge P "rows_of" 203 (.ref 26),ge P "is_blocked" 211 (.ref 31),ge P "is_knot" 217 (.ref 36),ge P "_law_mix" 228 (.ref 43),ge P "_law_cell" 237 (.ref 50),ge P "_law_drawn" 248 (.ref 57),ge P "_law_name" 254 (.ref 62),ge P "_law_names" 265 (.ref 69),ge P "_law_told" 277 (.ref 76),ge P "_law_book" 293 (.ref 83),ge P "_law_made" 302 (.ref 90),ge P "_law_widened" 308 (.ref 95),ge P "_law_held" 314 (.ref 100),ge P "_law_words" 320 (.ref 105),ge P "_law_walk" 326 (.ref 110),ge P "_law_pairs" 332 (.ref 115),ge P "_law_pictured" 338 (.ref 120),ge P "_law_bent" 354 (.ref 127),ge P "law" 366 (.ref 134)] 29,#[]⟩
noncomputable def vw:Program:=view PySem.Challenge.pw_primer_k15_what_is_a_knot [1,2,4,5,7,8,9,10,11,12,13,14,15,16,17,18,19,20,21,22]
noncomputable def hk:Hook:=kHook (fun P=>frg top (gg P) ms) (adr ms) fun P=>qO top (gg P) ms
theorem hl:LeftO PySem.Challenge.rw_primer_k15_what_is_a_knot.row.prog vw [] (fun s=>xlAt vw [] s&&recOk (RowW.records PySem.Challenge.rw_primer_k15_what_is_a_knot.row.toRowW) s) hk.obs hk.val 4000:=fun w=>by kernel_rfl
theorem hs:PySem.Challenge.rw_primer_k15_what_is_a_knot.wellSaid=true:=by kernel_rfl
theorem ho(P:Params):gOk ck top (frg top (gg P) ms) ms=true:=by kernel_rfl
end K
open PySem PySem.W PyProof.Rows K
theorem PySem.Challenge.cw_primer_k15_what_is_a_knot_holds : PySem.Challenge.rw_primer_k15_what_is_a_knot.Holds := by
 w_on
 refine holds_law hs fun z => ?_;refine holds_open hl hk.of hk.keeps (fun s e => xl_of s (Bool.and_eq_true_iff.mp e).1) XL.keeps rfl rfl rfl (fun s e => recFacts_of (Bool.and_eq_true_iff.mp e).2) rfl z (by kernel_rfl) ⟨rfl, rfl, rfl, rfl, rfl, by decide +kernel⟩ ?hw ?hc
 (case hw => w_witness2)
 exact TM.walk2 (l := PySem.Challenge.rw_primer_k15_what_is_a_knot) (Pg := prog) (ck := ck) (dp := 4) (x := "_law_script") (m := ml) rfl rfl ⟨rfl, by decide, by decide, rfl⟩ rfl (by decide +kernel) rfl (by simp [ms]) rfl rfl ho K.pure
