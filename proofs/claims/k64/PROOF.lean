import PyProof.Rows.All
import Wide.All
import OpenK.AllK
import Wide.FinOn
import Lean
import PyProof.EqAt
import PyProof.EqKinds
import PyProof.TupleCall
import PyProof.StrLawsChain
import PyProof.StrLawsFirst
import PyProof.Rows.StrNews2
import OpenK.AllK
import PyProof.DictItems
import OpenK.AllK
import PySem.Challenge.RW_primer_k64_trimmed
set_option Elab.async false
set_option linter.all false
set_option maxRecDepth 100000
set_option maxHeartbeats 4000000
set_option genInjectivity false
set_option genSizeOf false
namespace L2
open PySem PySem.Spec PyProof.Rows
noncomputable abbrev Key:=Sum Int Str
noncomputable def iL:Key->Value->Bool
 |.inl k,v=>Value.isInt k v
 |.inr x,v=>Value.isStrOf x v
noncomputable def A2(w:World):Key->Int
 |.inl k=>hashInt k
 |.inr x=>hashStr w x
theorem aY:∀{k:Key}{v:Value},iL k v=true->(∃i t,k=Sum.inl i/\v=Value.int i t)\/(∃x t,k=Sum.inr x/\v=Value.str x t)
 |.inl i,v,h=>by
  obtain⟨t,e⟩:=Value.isInt_shape (k:=i) (v:=v) h;exact .inl ⟨i,t,rfl,e⟩
 |.inr x,v,h=>by
  obtain⟨t,e⟩:=Value.isStrOf_shape (x:=x) (v:=v) h;exact .inr ⟨x,t,rfl,e⟩
theorem qR(i:Int)(t:Tok):iL (.inl i) (.int i t)=true:=by simp[iL,Value.isInt]
theorem qS(x:Str)(t:Tok):iL (.inr x) (.str x t)=true:=by simp[iL,Value.isStrOf]
theorem xD(a b:Int):decide ((Sum.inl a:Key)=Sum.inl b)=(a==b):=by
 by_cases e:a=b
 ·subst e;simp
 ·have h:¬(Sum.inl a:Key)=Sum.inl b:=fun q=>e (Sum.inl.inj q);rw[decide_eq_false h];exact(beq_eq_false_iff_ne.mpr e).symm
theorem xE(a b:Str):decide ((Sum.inr a:Key)=Sum.inr b)=decide (a=b):=by
 by_cases e:a=b
 ·subst e;simp
 ·have h:¬(Sum.inr a:Key)=Sum.inr b:=fun q=>e (Sum.inr.inj q);rw[decide_eq_false h,decide_eq_false e]
theorem xF(a:Int)(b:Str):decide ((Sum.inl a:Key)=Sum.inr b)=false:=decide_eq_false (fun q=>nomatch q)
theorem xG(a:Str)(b:Int):decide ((Sum.inr a:Key)=Sum.inl b)=false:=decide_eq_false (fun q=>nomatch q)
noncomputable def aO(prog:Program)(w:World):PySem.KeyKind prog w Key where
 is:=iL
 hash:=A2 w
 inj:=fun v a b ha hb=>by
  rcases aY ha with⟨i,t,rfl,rfl⟩|⟨x,t,rfl,rfl⟩
  ·rcases aY hb with⟨j,u,rfl,e⟩|⟨y,u,rfl,e⟩
   ·injection e with e1 _;rw[e1]
   ·exact nomatch e
  ·rcases aY hb with⟨j,u,rfl,e⟩|⟨y,u,rfl,e⟩
   ·exact nomatch e
   ·injection e with e1 _;rw[e1]
 byValue:=fun k v h=>by
  rcases aY h with⟨i,t,rfl,rfl⟩|⟨x,t,rfl,rfl⟩<;>rfl
 pyHash:=fun hv h=>by
  rcases aY hv with⟨i,t,rfl,rfl⟩|⟨x,t,rfl,rfl⟩
  ·exact wpAny_pyHash_int h
  ·exact wpAny_pyHash_str h
 eqBool:=fun hu hv h=>by
  rcases aY hu with⟨i,t,rfl,rfl⟩|⟨x,t,rfl,rfl⟩
  ·rcases aY hv with⟨j,u,rfl,rfl⟩|⟨y,u,rfl,rfl⟩
   ·rw[xD]at h;exact wpAny_eqBool_int h
   ·rw[xF]at h;exact SeqAt.EqAt.int_str i t y u _ _ _ _ h
  ·rcases aY hv with⟨j,u,rfl,rfl⟩|⟨y,u,rfl,rfl⟩
   ·rw[xG]at h;exact SeqAt.EqAt.str_int x t j u _ _ _ _ h
   ·rw[xE]at h;exact wpAny_eqBool_str h
 «strs»:=fun k x t v h=>by
  rcases aY h with⟨i,u,rfl,e⟩|⟨y,u,rfl,e⟩
  ·exact nomatch e
  ·injection e with e1 _
   subst e1;cases v<;>rfl
theorem mI(prog:Program)(w:World)(i:Int)(t:Tok):(aO prog w).is (.inl i) (.int i t)=true:=qR i t
theorem mJ(prog:Program)(w:World)(x:Str)(t:Tok):(aO prog w).is (.inr x) (.str x t)=true:=qS x t
end L2
namespace L2
open PySem PySem.Spec PyProof.Rows
inductive V where
 |non|bl (b:Bool)|int (i:Int)|str (x:Str)|byt (b:Array UInt8)|flt (b:UInt64)|ref (a:Addr)|ty (n:String)
 deriving DecidableEq
noncomputable def RelV:V->Value->Prop
 |.non,u=>u=Value.none
 |.bl b,u=>u=Value.bool b
 |.int i,u=>∃t,u=Value.int i t
 |.str x,u=>∃t,u=Value.str x t
 |.byt b,u=>∃t,u=Value.bytes b t
 |.flt b,u=>∃t,u=Value.float b t
 |.ref a,u=>u=Value.ref a
 |.ty n,u=>u=Value.type n
noncomputable abbrev Vals:List V->List Value->Prop:=Paired RelV
theorem Vals.length{xs:List V}{us:List Value}(r:Vals xs us):xs.length=us.length:=Paired.length r
theorem Vals.get:∀{xs:List V}{us:List Value}{i:Nat}{x:V},Vals xs us->xs[i]?=some x->∃u,us[i]?=some u/\RelV x u
 |_,_,_,_,.nil,e=>by simp at e
 |_,_,0,_,.cons r _,e=>by simp at e;subst e;exact⟨_,rfl,r⟩
 |_,_,i+1,x,.cons _ t,e=>by
  obtain⟨u,h1,h2⟩:=Vals.get (i:=i) (x:=x) t (by simpa using e);exact⟨u,by simpa using h1,h2⟩
theorem Vals.set{x:V}{u:Value}(r:RelV x u):∀{xs:List V}{us:List Value} (i:Nat),Vals xs us->Vals (xs.set i x) (us.set i u)
 |_,_,_,.nil=>.nil
 |_,_,0,.cons _ t=>.cons r t
 |_,_,i+1,.cons q t=>.cons q (Vals.set r i t)
theorem Vals.append:∀{xs ys:List V}{us ws:List Value},Vals xs us->Vals ys ws->Vals (xs++ys) (us++ws)
 |_,_,_,_,.nil,s=>s
 |_,_,_,_,.cons r t,s=>.cons r (Vals.append t s)
theorem Vals.take:∀{xs:List V}{us:List Value} (n:Nat),Vals xs us->Vals (xs.take n) (us.take n)
 |_,_,0,_=>.nil
 |_,_,_+1,.nil=>.nil
 |_,_,n+1,.cons r t=>.cons r (Vals.take n t)
theorem Vals.drop:∀{xs:List V}{us:List Value} (n:Nat),Vals xs us->Vals (xs.drop n) (us.drop n)
 |_,_,0,r=>r
 |_,_,_+1,.nil=>.nil
 |_,_,n+1,.cons _ t=>Vals.drop n t
noncomputable def ip:Option V->Option Value->Prop
 |some v,some u=>RelV v u
 |none,none=>True
 |_,_=>False
noncomputable def KV{κ:Type}:List (κ×V)->List (κ×Value)->Prop:=Paired fun(p:κ×V) (q:κ×Value)=>p.1=q.1/\RelV p.2 q.2
noncomputable def kV:Key->V
 |.inl i=>.int i
 |.inr x=>.str x
inductive HO where
 |lst (xs:List V)
 |tup (xs:List V)
 |dK (kvs:List (Key×V))|dT (kvs:List (List Key×V))
 |set (S:Int->Bool) (n:Nat)
 |ins (C dx:Addr) (fs:List (Str×V))
 |own (x:Addr)
 |xd (fs:List (Str×V))
 |met (f x:Addr)
 |rng (lo hi:Int)
 |frz (o:Obj) (u:HO)
 |tbl (ps:Array Value)
 |ext (φ:Heap->Prop)
noncomputable abbrev Hp:=Addr->Option HO
noncomputable def upd(H:Hp)(a:Addr)(o:HO):Hp:=fun b=>if b=a then some o else H b
theorem ar{H:Hp}{a:Addr}{o:HO}:upd H a o a=some o:=by unfold upd;rw[if_pos rfl]
theorem ak{H:Hp}{a b:Addr}{o:HO}(h:b≠a):upd H a o b=H b:=by unfold upd;rw[if_neg h]
theorem si{H:Hp}{a b:Addr}{o u:HO}(h:H a=some o)(h':H b=some u)(d:o≠u):a≠b:=by
 intro e;subst e;rw[h]at h';exact d (Option.some.inj h')
theorem bc{H:Hp}{a b:Addr}{o:HO}(h:H a=some o)(h':H b=none):a≠b:=by
 intro e;subst e;rw[h]at h';cases h'
section
variable(P:Program)(w:World)
noncomputable def bE(H:Hp)(h:Heap)(a:Addr):HO->Prop
 |.lst xs=>xs.length<=sizeLine/\∃(its:List Value) (n:Nat),Vals xs its/\h.get? a=some {cls:=.type "list",data:=.seq its.toArray n}
 |.tup xs=>xs.length<=sizeLine/\∃its:List Value,Vals xs its/\IsTup h a its.toArray
 |.dK kvs=>kvs.length<=sizeLine/\(a==sysModules)=false/\∃vs,KV kvs vs/\h.DictOf (aO P w) a vs
 |.dT kvs=>kvs.length<=sizeLine/\(a==sysModules)=false/\∃xs:List (List Key×Addr×Value),
   Paired (fun(p:List Key×V) (q:List Key×Addr×Value)=>p.1=q.1/\H q.2.1=some (.tup (p.1.map kV))/\RelV p.2 q.2.2) kvs xs /\
   ∃o es ep,h.get? a=some o/\o.ExactDict/\o.data=.dict es ep/\es.toList=xs.map (entryOfKey (tupleKind (aO P w)))/\(xs.map (·.1)).Nodup
 |.set S n=>h.SetOf (intKind P w) a S n
 |.ins C dx fs=>H dx=some (.own a)/\fs.length<=1000/\dx≠a/\h.get? a=some (PySem.W.instObj C dx) /\
   ∃mA,h.Ns1 dx mA/\(∀f,ip (fs.lookup f) (mA f))/\PySem.Within mA (fs.map (·.1))
 |.own _=>∃o,h.get? a=some o
 |.xd fs=>∃mA,h.Ns1 a mA/\∀f,ip (fs.lookup f) (mA f)
 |.rng lo hi=>∃t u v,h.get? a=some {cls:=.type "range",data:=.fields #[.int lo t,.int hi u,.int 1 v]}
 |.frz o u=>h.get? a=some o/\bE H h a u
 |.tbl ps=>h.get? a=some {cls:=.none,data:=.fields ps}
 |.met f x=>h.get? a=some (PySem.W.methodObj (.ref f) (.ref x))
 |.ext φ=>φ h/\(∃o,h.get? a=some o)/\∀h1 h2:Heap,φ h1->(∀o,h1.get? a=some o->h2.get? a=some o)->φ h2
noncomputable def HOk(H:Hp)(h:Heap):Prop:=∀a o,H a=some o->bE P w H h a o
end
section
variable{P:Program}{w:World}{H H':Hp}{h h':Heap}{a:Addr}{o:HO}
theorem bE.lt(x:bE P w H h a o):a<h.objs.size:=by
 cases o with
 |lst xs=>obtain⟨_,_,_,_,e⟩:=x;exact Heap.lt_size e
 |tup xs=>obtain⟨_,_,_,p⟩:=x;exact p.lt
 |dK kvs=>obtain⟨_,_,_,_,o,_,_,e,_⟩:=x;exact Heap.lt_size e
 |dT kvs=>obtain⟨_,_,_,_,o,_,_,e,_⟩:=x;exact Heap.lt_size e
 |set S n=>obtain⟨o,_,_,_,e,_⟩:=x;exact Heap.lt_size e
 |ins C dx fs=>obtain⟨_,_,_,e,_⟩:=x;exact Heap.lt_size e
 |own y=>obtain⟨_,e⟩:=x;exact Heap.lt_size e
 |xd fs=>obtain⟨_,⟨_,_,_,e,_⟩,_⟩:=x;exact Heap.lt_size e
 |rng lo hi=>obtain⟨_,_,_,e⟩:=x;exact Heap.lt_size e
 |frz ob u=>obtain⟨e,_⟩:=x;exact Heap.lt_size e
 |tbl ps=>exact Heap.lt_size (show h.get? a=some _ from x)
 |met f y=>exact Heap.lt_size (show h.get? a=some _ from x)
 |ext φ=>obtain⟨_,⟨_,e⟩,_⟩:=x;exact Heap.lt_size e
theorem Paired.xH{α β:Type}{F G:α->β->Prop}:∀{l₁:List α}{l₂:List β},Paired F l₁ l₂->(∀a b,F a b->G a b)->Paired G l₁ l₂
 |_,_,.nil,_=>.nil
 |_,_,.cons r t,f=>.cons (f _ _ r) (Paired.xH t f)
theorem bE.la(x:bE P w H h a o)(k:∀b u,(b=a\/H b=some (.own a))->h.get? b=some u->h'.get? b=some u)
  (ho:∀b,H b=some (.own a)->H' b=some (.own a)) (ht:∀b xs,H b=some (.tup xs)->H' b=some (.tup xs)):bE P w H' h' a o:=by
 induction o with
 |lst xs=>obtain⟨z,its,n,r,e⟩:=x;exact⟨z,its,n,r,k _ _ (.inl rfl) e⟩
 |tup xs=>obtain⟨z,its,r,ob,e,c⟩:=x;exact⟨z,its,r,ob,k _ _ (.inl rfl) e,c⟩
 |dK kvs=>obtain⟨z,y,vs,r,ob,es,ep,e,c⟩:=x;exact⟨z,y,vs,r,ob,es,ep,k _ _ (.inl rfl) e,c⟩
 |dT kvs =>
  obtain⟨z,y,xs,r,ob,es,ep,e,c⟩:=x;exact⟨z,y,xs,Paired.xH r fun p q z=>⟨z.1,ht _ _ z.2.1,z.2.2⟩,ob,es,ep,k _ _ (.inl rfl) e,c⟩
 |set S n=>obtain⟨ob,es,ep,t,e,c⟩:=x;exact⟨ob,es,ep,t,k _ _ (.inl rfl) e,c⟩
 |ins C dx fs =>
  obtain⟨d,z,ne,e,mA,⟨od,es,ep,e2,c⟩,r⟩:=x;exact⟨ho _ d,z,ne,k _ _ (.inl rfl) e,mA,⟨od,es,ep,k _ _ (.inr d) e2,c⟩,r⟩
 |own y=>obtain⟨ob,e⟩:=x;exact⟨ob,k _ _ (.inl rfl) e⟩
 |xd fs=>obtain⟨mA,⟨od,es,ep,e,c⟩,r⟩:=x;exact⟨mA,⟨od,es,ep,k _ _ (.inl rfl) e,c⟩,r⟩
 |rng lo hi=>obtain⟨t,u,v,e⟩:=x;exact⟨t,u,v,k _ _ (.inl rfl) e⟩
 |frz ob u ih=>obtain⟨e,q⟩:=x;exact⟨k _ _ (.inl rfl) e,ih q⟩
 |tbl ps =>
  have e:h.get? a=some {cls:=.none,data:=.fields ps}:=x;show h'.get? a=some {cls:=.none,data:=.fields ps};exact k a _ (.inl rfl) e
 |met f y =>
  have e:h.get? a=some (PySem.W.methodObj (.ref f) (.ref y)):=x;show h'.get? a=some (PySem.W.methodObj (.ref f) (.ref y));exact k a _ (.inl rfl) e
 |ext φ=>obtain⟨p,⟨o,e⟩,st⟩:=x;exact⟨st _ _ p fun o q=>k _ _ (.inl rfl) q,⟨o,k _ _ (.inl rfl) e⟩,st⟩
theorem HOk.lt(x:HOk P w H h)(e:H a=some o):a<h.objs.size:=(x a o e).lt
theorem HOk.fresh(x:HOk P w H h)(e:h.objs.size<=a):H a=none:=by
 cases q:H a with
 |none=>rfl
 |some u=>exact absurd (Nat.lt_of_lt_of_le (x.lt q) e) (Nat.lt_irrefl _)
theorem HOk.kept(x:HOk P w H h)(k:∀b u,h.get? b=some u->h'.get? b=some u):HOk P w H h':=fun a o e =>
 (x a o e).la (fun b u _ q=>k b u q) (fun _ q=>q) fun _ _ q=>q
theorem HOk.laid(x:HOk P w H h)(k:∀b u,h.get? b=some u->h'.get? b=some u)(hp:h.objs.size<=a)(new:bE P w (upd H a o) h' a o):HOk P w (upd H a o) h':=fun b u e=>by
 have hn:=x.fresh hp;by_cases hb:b=a
 ·subst hb;rw[ar]at e;cases e;exact new
 ·rw[ak hb]at e;exact(x b u e).la (fun c v _ q=>k c v q) (fun c q=>by rw[ak (bc q hn)];exact q) fun c xs q=>by rw[ak (bc q hn)];exact q
end
noncomputable def Rd(H:Hp)(a:Addr)(u:HO):Prop:=H a=some u\/∃o,H a=some (.frz o u)
theorem Rd.ok{P:Program}{w:World}{H:Hp}{h:Heap}{a:Addr}{u:HO}(r:Rd H a u)(x:HOk P w H h):bE P w H h a u:=by
 rcases r with r|⟨o,r⟩
 ·exact x a u r
 ·obtain⟨_,q⟩:=x a _ r;exact q
noncomputable def Mut:Option HO->Prop
 |some (.lst _)=>True
 |some (.dK _)=>True
 |some (.dT _)=>True
 |some (.set _ _)=>True
 |some (.ins _ _ _)=>True
 |some (.ext _)=>True
 |_=>False
section
variable{P:Program}{w:World}{H:Hp}{h h':Heap}{x e:Addr}{o':HO}
theorem HOk.write(ok:HOk P w H h)(mu:Mut (H x))(he:e=x\/H e=some (.own x))(k:∀b u,b≠e->h.get? b=some u->h'.get? b=some u)(heo:∃u,h'.get? e=some u)
  (new:bE P w (upd H x o') h' x o'):HOk P w (upd H x o') h':=fun b u q=>by
 have nown:∀c y,H c=some (.own y)->c≠x:=fun c y r z=>by subst z;rw[r]at mu;exact mu
 have ntup:∀c xs,H c=some (.tup xs)->c≠x:=fun c xs r z=>by subst z;rw[r]at mu;exact mu
 by_cases hb:b=x
 ·subst hb;rw[ar]at q;cases q;exact new
 ·rw[ak hb]at q;by_cases hbe:b=e
  ·have q':H b=some (.own x):=by
    rcases he with z|z
    ·exact absurd (hbe.trans z) hb
    ·rw[hbe];exact z
   rw[q]at q';cases q';obtain⟨v,hv⟩:=heo;exact⟨v,by rw[hbe];exact hv⟩
  ·refine(ok b u q).la (fun c v hc r=>k c v ?_ r) (fun c r=>by rw[ak (nown c b r)];exact r) fun c xs r=>by rw[ak (ntup c xs r)];exact r
   rcases hc with rfl|hc
   ·exact hbe
   ·rintro rfl;rcases he with z|z
    ·exact nown c b hc z
    ·rw[hc]at z;cases z;exact hb rfl
end
structure Un(fs ex:List Addr)(H H':Hp)(h h':Heap):Prop where
 keep:∀b o,h.get? b=some o->H b=none->b∉fs->b∉ex->h'.get? b=some o
 slot:∀b o,h.get? b=some o->H b=none->b∈fs->b∉ex->∃sl,h'.get? b=some {o with slots:=sl}
 free:∀b o,h.get? b=some o->H b=none->b∉ex->H' b=none
 there:∀b o,h.get? b=some o->b∉ex->∃o',h'.get? b=some o'
 iy:∀b xs,H b=some (.tup xs)->H' b=some (.tup xs)
 frzs:∀b o u,H b=some (.frz o u)->H' b=some (.frz o u)
 tbls:∀b ps,H b=some (.tbl ps)->∃more,H' b=some (.tbl (ps++more))
section
variable{fs fs' ex ex':List Addr}{H H1 H2:Hp}{h h1 h2 h':Heap}{a x e:Addr}{o:HO}
theorem Un.any(u:Un fs ex H H1 h h1){b:Addr}{ob:Obj}(q:h.get? b=some ob)(n:H b=none)(hx:b∉ex):∃sl,h1.get? b=some {ob with slots:=sl}:=by
 by_cases hb:b∈fs
 ·exact u.slot b ob q n hb hx
 ·exact⟨ob.slots,u.keep b ob q n hb hx⟩
theorem Un.kept(k:∀b u,h.get? b=some u->h'.get? b=some u):Un fs ex H H h h' :=
 ⟨fun b ob q _ _ _=>k b ob q,fun b ob q _ _ _=>⟨ob.slots,k b ob q⟩,fun _ _ _ n _=>n,fun b ob q _=>⟨ob,k b ob q⟩,fun _ _ q=>q,fun _ _ _ q=>q,fun _ ps q=>⟨#[],by rw[q];simp⟩⟩
theorem Un.refl:Un fs ex H H h h:=Un.kept fun _ _ q=>q
theorem Un.laid(k:∀b u,h.get? b=some u->h'.get? b=some u)(hp:h.objs.size<=a)(hn:H a=none):Un fs ex H (upd H a o) h h' where
 keep:=fun b u q _ _ _=>k b u q
 slot:=fun b u q _ _ _=>⟨u.slots,k b u q⟩
 free:=fun b u q n _=>by rw[ak (Nat.ne_of_lt (Nat.lt_of_lt_of_le (Heap.lt_size q) hp))];exact n
 there:=fun b u q _=>⟨u,k b u q⟩
 iy:=fun b xs q=>by rw[ak (bc q hn)];exact q
 frzs:=fun b u xs q=>by rw[ak (bc q hn)];exact q
 tbls:=fun b ps q=>⟨#[],by rw[ak (bc q hn),q];simp⟩
theorem Un.write(mu:Mut (H x))(he:e=x\/H e=some (.own x))(k:∀b u,b≠e->h.get? b=some u->h'.get? b=some u)(heo:∃u,h'.get? e=some u):Un fs ex H (upd H x o) h h':=by
 have hx:∀b,H b=none->b≠x:=fun b n z=>by subst z;rw[n]at mu;exact mu
 have hb:∀b,H b=none->b≠e:=fun b n z=>by
  subst z;rcases he with r|r
  ·exact hx b n r
  ·rw[n]at r;cases r
 have hm:∀b u,H b=some u->¬Mut (some u)->b≠x:=fun b u q nm z=>by subst z;rw[q]at mu;exact nm mu
 refine⟨fun b u q n _ _=>k b u (hb b n) q,fun b u q n _ _=>⟨u.slots,k b u (hb b n) q⟩,fun b u q n _=>by rw[ak (hx b n)];exact n,fun b u q _=>?_,
  fun b xs q=>by rw[ak (hm b _ q fun z=>z)];exact q,fun b u xs q=>by rw[ak (hm b _ q fun z=>z)];exact q,fun b ps q=>⟨#[],by rw[ak (hm b _ q fun z=>z),q];simp⟩⟩
 by_cases hbe:b=e
 ·subst hbe;exact heo
 ·exact⟨u,k b u hbe q⟩
end
noncomputable def trk(h:Heap)(H:Hp):List Addr:=(List.range h.objs.size).filter fun a=>(H a).isSome
noncomputable def lb(h:Heap)(H:Hp):Heap:=PySem.W.hideAll h (trk h H)
theorem qT(h:Heap)(H:Hp):(lb h H).objs.size=h.objs.size:=PySem.W.hideAll_size _ _
theorem sj{h:Heap}{H:Hp}{b:Addr}{o:Obj}(e:h.get? b=some o)(n:H b=none):(lb h H).get? b=some o :=
 PySem.W.hideAll_get _ e fun hm=>by
  have q:(H b).isSome=true:=(List.mem_filter.mp hm).2;rw[n]at q;simp at q
theorem uY{h:Heap}{H:Hp}{b:Addr}{o:Obj}(e:(lb h H).get? b=some o):h.get? b=some o/\H b=none:=by
 have e':h.get? b=some o:=PySem.W.of_hideAll (trk h H) e;refine⟨e',?_⟩;cases q:H b with
 |none=>rfl
 |some x =>
  have hm:b∈trk h H:=List.mem_filter.mpr ⟨List.mem_range.mpr (Heap.lt_size e'),by simp[q]⟩;have z:(lb h H).get? b=none:=PySem.W.hideAll_none (trk h H) hm;rw[z]at e;cases e
end L2
namespace L2
open PySem PySem.Spec PyProof.Rows
structure Mod(K:PySem.W.Frag)(mg:Str->Option Value)(base:Heap):Prop where
 kin:K.In base
 glob:base.Ns mainGlobals mg
 blt:∃mb,base.Ns builtinsNs mb/\∀x:Str,x≠"__name__"->mb x=bootBuiltins x
 nolimit:base.NoLimit
structure Cx where
 prog:Program
 w:World
 K:PySem.W.Frag
 mg:Str->Option Value
 base:Heap
 A:Around
 N:List Str
 s₀:Shared
 H₀:Hp
 env:Env
 outer:List Env
 stack:List Env
 ex:List Addr
 fn:Str->Bool
 calm:Bool
 pn:List (Addr×Obj)
 xe:Value->Shared->Prop
noncomputable def frs(l:List Env):List Addr:=l.filterMap (·.frame)
noncomputable abbrev Cx.fs(X:Cx):List Addr:=frs X.outer
noncomputable def Vis(sc:Scope)(x:Str):Prop:=sc.names.lookup x=some .local\/sc.names.lookup x=some .cell\/sc.names.lookup x=some .free
noncomputable def Loc(sc:Scope)(x:Str):Prop:=sc.names.lookup x=some .local\/sc.names.lookup x=some .cell
noncomputable def Look(env:Env)(h:Heap)(m:Str->Option Value)(x:Str)(u:Value):Prop :=
 (env.kindOf x=some .local/\m x=some u)\/((env.kindOf x=some .cell\/env.kindOf x=some .free)/\∃c,env.cells.lookup x=some c/\h.IsCell c (some u))
structure Cx.Ok(X:Cx):Prop where
 mod:Mod X.K X.mg X.base
 kind:X.env.scope.kind=.function
 glob:X.env.globals=mainGlobals
 blt:X.env.builtins=builtinsNs
 above:X.s₀.heap.objs.size<=X.env.locals
 inj:∀x y c,X.env.cells.lookup x=some c->X.env.cells.lookup y=some c->x=y
 has:∀x,(X.env.kindOf x=some .cell\/X.env.kindOf x=some .free)->∃c,X.env.cells.lookup x=some c
 cab:∀x c,X.fn x=true->X.env.cells.lookup x=some c->X.s₀.heap.objs.size<=c
 hd:X.calm=true->X.A.handled=none
 frames:X.A.frames=some X.stack
 stk:X.stack=X.outer\/(X.stack=X.env::X.outer/\X.env.frame=some X.env.locals)
 exf:∀b∈X.ex,b≠X.env.locals/\∀x c,X.env.cells.lookup x=some c->c≠b
 bs:∀b o,X.base.get? b=some o->X.s₀.heap.get? b=some o/\X.H₀ b=none
 bsz:X.base.objs.size<=X.s₀.heap.objs.size
 noex:∀b o,X.base.get? b=some o->b∉X.ex
 exfs:∀b∈X.ex,b∉X.fs
 iM:X.s₀.heap.FunFrames X.base X.outer
 frf:∀b∈X.fs,X.H₀ b=none
structure Inv(X:Cx)(pins:List (Addr×Obj))(σ:List (Option V))(H:Hp)(s:Shared):Prop where
 ok:X.Ok
 os:s.os=X.s₀.os
 bare:AllBare s.gens
 base:Un X.fs X.ex X.H₀ H X.s₀.heap s.heap
 loc:∃m,s.heap.Ns X.env.locals m/\∀(i:Nat) (x:Str) (v:V),X.N[i]?=some x->σ[i]?=some (some v)->Vis X.env.scope x->∃u,RelV v u/\Look X.env s.heap m x u
 cell:∀x c,X.env.cells.lookup x=some c->∃v,s.heap.IsCell c v
 free:H X.env.locals=none
 freeC:∀x c,X.env.cells.lookup x=some c->H c=none
 pin:∀p∈X.pn++pins,s.heap.get? p.1=some p.2/\H p.1=none/\p.1≠X.env.locals/\p.1∉X.fs/\∀v,p.2.data≠.cell v
 hok:HOk X.prog X.w H s.heap
 len:σ.length=X.N.length
section
variable{X:Cx}{pins:List (Addr×Obj)}{σ:List (Option V)}{H H':Hp}{s:Shared}{h':Heap}
theorem Cx.Ok.A3(ok:X.Ok){b:Addr}{o:Obj}(e:X.base.get? b=some o):b∉X.fs:=fun hb=>by
 have:=(ok.iM.mem hb).1;rw[e]at this;cases this
theorem Inv.bs(I:Inv X pins σ H s):∀b o,X.base.get? b=some o->s.heap.get? b=some o/\H b=none:=fun b o e =>
 ⟨I.base.keep b o (I.ok.bs b o e).1 (I.ok.bs b o e).2 (I.ok.A3 e) (I.ok.noex b o e),I.base.free b o (I.ok.bs b o e).1 (I.ok.bs b o e).2 (I.ok.noex b o e)⟩
theorem Inv.bk(I:Inv X pins σ H s):∀b o,X.base.get? b=some o->s.heap.get? b=some o:=fun b o e=>(I.bs b o e).1
theorem Inv.mod(I:Inv X pins σ H s):Mod X.K X.mg X.base:=I.ok.mod
theorem Inv.kIn(I:Inv X pins σ H s):X.K.In s.heap:=I.ok.mod.kin.keeps I.bk
theorem Inv.lt(I:Inv X pins σ H s):X.env.locals<s.heap.objs.size:=let ⟨_,hn,_⟩:=I.loc;hn.lt
theorem Inv.sz(I:Inv X pins σ H s):X.s₀.heap.objs.size<=s.heap.objs.size:=Nat.le_trans I.ok.above (Nat.le_of_lt I.lt)
theorem Inv.zw(I:Inv X pins σ H s){a:Addr}(h:s.heap.objs.size<=a):a∉X.fs:=fun hb=>by
 obtain⟨_,o,ho,_⟩:=I.ok.iM.mem hb;exact absurd (Nat.lt_of_lt_of_le (Heap.lt_size ho) (Nat.le_trans I.sz h)) (Nat.lt_irrefl _)
theorem Inv.cne(I:Inv X pins σ H s):∀x c,X.env.cells.lookup x=some c->c≠X.env.locals:=fun x c e z=>by
 obtain⟨v,o,ho,hd⟩:=I.cell x c e;obtain⟨m,⟨o',es,ep,ho',hd',_⟩,_⟩:=I.loc;rw[z,ho']at ho;cases ho;rw[hd']at hd;cases hd
theorem Inv.iM(I:Inv X pins σ H s):s.heap.FunFrames X.base X.outer:=by
 have all:∀(l:List Env),(∀b∈frs l,b∈X.fs)->X.s₀.heap.FunFrames X.base l->s.heap.FunFrames X.base l:=by
  intro l;induction l with
  |nil=>intro _ _;trivial
  |cons env r ih =>
   intro hs hl;obtain⟨hk,⟨L,o,hf,hn,ho,hd⟩,hr⟩:=hl;have hL:L∈X.fs:=hs L (by unfold frs;rw[List.filterMap_cons,hf];exact List.mem_cons_self);obtain⟨sl,e⟩:=I.base.slot L o ho (I.ok.frf L hL) hL fun z=>I.ok.exfs L z hL;exact⟨hk,⟨L,_,hf,hn,e,hd⟩,ih (fun b hb=>hs b (by unfold frs;rw[List.filterMap_cons,hf];exact List.mem_cons_of_mem _ hb)) hr⟩
 exact all X.outer (fun _ hb=>hb) I.ok.iM
theorem Inv.stack(I:Inv X pins σ H s):s.heap.FunFrames X.base X.stack:=by
 rcases I.ok.stk with e|⟨e,hf⟩
 ·rw[e];exact I.iM
 ·rw[e];obtain⟨m,hn,_⟩:=I.loc;refine .cons (by rw[I.ok.kind];decide) hf hn ?_ I.iM;exact Heap.get?_none_of_le (Nat.le_trans I.ok.bsz I.ok.above)
theorem Inv.iN(I:Inv X pins σ H s):∀b∈frs X.stack,b∈X.env.locals::X.fs:=fun b hb=>by
 rcases I.ok.stk with e|⟨e,hf⟩
 ·rw[e]at hb;exact List.mem_cons_of_mem _ hb
 ·rw[e]at hb;unfold frs at hb;rw[List.filterMap_cons,hf]at hb;exact hb
theorem Inv.pQ(I:Inv X pins σ H s):∀b∈frs X.stack,H b=none:=fun b hb=>by
 rcases List.mem_cons.mp (I.iN b hb) with e|hb
 ·rw[e];exact I.free
 ·obtain⟨_,o,ho,_⟩:=I.ok.iM.mem hb;exact I.base.free b o ho (I.ok.frf b hb) fun z=>I.ok.exfs b z hb
theorem Inv.step{g':Array GenState}{t':Nat}{d':Drawn}{ch:List Addr}(I:Inv X pins σ H s)
  (hch:∀b∈ch,(b∈X.ex\/X.s₀.heap.objs.size<=b)/\b≠X.env.locals/\(∀x c,X.env.cells.lookup x=some c->c≠b)/\∀p∈X.pn++pins,p.1≠b)
  (keep:∀b o,b≠X.env.locals->b∉X.fs->b∉ch->s.heap.get? b=some o->H b=none->h'.get? b=some o)
  (slot:∀b o,b≠X.env.locals->b∈X.fs->b∉ch->s.heap.get? b=some o->H b=none->∃sl,h'.get? b=some {o with slots:=sl}) (free:∀b o,b∉ch->s.heap.get? b=some o->H b=none->H' b=none)
  (there:∀b o,b∉ch->s.heap.get? b=some o->∃o',h'.get? b=some o')
  (iy:∀b xs,H b=some (.tup xs)->H' b=some (.tup xs)) (frzs:∀b o u,H b=some (.frz o u)->H' b=some (.frz o u)) (tbls:∀b ps,H b=some (.tbl ps)->∃more,H' b=some (.tbl (ps++more)))
  (ns:∀m,s.heap.Ns X.env.locals m->h'.Ns X.env.locals m) (hok:HOk X.prog X.w H' h') (hg:AllBare g') :
  Inv X pins σ H' {s with heap:=h',gens:=g',drawn:=d',toks:=t' }:=by
 have neL:∀b o,X.s₀.heap.get? b=some o->b≠X.env.locals:=fun b o e=>Nat.ne_of_lt (Nat.lt_of_lt_of_le (Heap.lt_size e) I.ok.above);have neC:∀b o,X.s₀.heap.get? b=some o->b∉X.ex->b∉ch:=fun b o e hx hb=>by
  rcases(hch b hb).1 with z|z
  ·exact hx z
  ·exact absurd (Nat.lt_of_lt_of_le (Heap.lt_size e) z) (Nat.lt_irrefl _)
 have cellK:∀x c,X.env.cells.lookup x=some c->∀v,s.heap.IsCell c v->h'.IsCell c v:=fun x c e v hIx=>by
  obtain⟨o,ho,hd⟩:=hIx;have nch:c∉ch:=fun z=>(hch c z).2.2.1 x c e rfl;by_cases hc:c∈X.fs
  ·obtain⟨sl,q⟩:=slot c o (I.cne x c e) hc nch ho (I.freeC x c e);exact⟨_,q,hd⟩
  ·exact⟨o,keep c o (I.cne x c e) hc nch ho (I.freeC x c e),hd⟩
 refine⟨I.ok,I.os,hg,⟨fun b o e n hb hx=>?_,fun b o e n hb hx=>?_,fun b o e n hx=>?_,fun b o e hx=>?_,fun b xs e=>iy b xs (I.base.iy b xs e),fun b o xs e=>frzs b o xs (I.base.frzs b o xs e),fun b ps e=>?_⟩,?_,fun x c e=>?_,?_,fun x c e=>?_,fun p hp=>?_,hok,I.len⟩
 ·exact keep b o (neL b o e) hb (neC b o e hx) (I.base.keep b o e n hb hx) (I.base.free b o e n hx)
 ·obtain⟨sl,e1⟩:=I.base.slot b o e n hb hx;obtain⟨sl',e2⟩:=slot b _ (neL b o e) hb (neC b o e hx) e1 (I.base.free b o e n hx);exact⟨sl',e2⟩
 ·obtain⟨o',e1⟩:=I.base.there b o e hx;exact free b o' (neC b o e hx) e1 (I.base.free b o e n hx)
 ·obtain⟨o',e1⟩:=I.base.there b o e hx;exact there b o' (neC b o e hx) e1
 ·obtain⟨m1,e1⟩:=I.base.tbls b ps e;obtain⟨m2,e2⟩:=tbls b _ e1;exact⟨m1++m2,by rw[e2,Array.append_assoc]⟩
 ·obtain⟨m,hn,hl⟩:=I.loc;refine⟨m,ns m hn,fun i x v e1 e2 e3=>?_⟩;obtain⟨u,r,l⟩:=hl i x v e1 e2 e3;refine⟨u,r,?_⟩;rcases l with l|⟨k,c,e,z⟩
  ·exact .inl l
  ·exact .inr ⟨k,c,e,cellK x c e _ z⟩
 ·obtain⟨v,z⟩:=I.cell x c e;exact⟨v,cellK x c e v z⟩
 ·obtain⟨m,⟨o,_,_,ho,_⟩,_⟩:=I.loc;exact free _ o (fun z=>(hch _ z).2.1 rfl) ho I.free
 ·obtain⟨v,o,ho,hd⟩:=I.cell x c e;exact free c o (fun z=>(hch c z).2.2.1 x c e rfl) ho (I.freeC x c e)
 ·obtain⟨e,n,ne,nf,d⟩:=I.pin p hp;have nch:p.1∉ch:=fun z=>(hch p.1 z).2.2.2 p hp rfl;exact⟨keep p.1 p.2 ne nf nch e n,free p.1 p.2 nch e n,ne,nf,d⟩
theorem Inv.un{t':Nat}(I:Inv X pins σ H s)(u:Un X.fs [] H H' s.heap h')(hok:HOk X.prog X.w H' h'):Inv X pins σ H' {s with heap:=h',toks:=t' }:=by
 obtain⟨m,⟨o,es,ep,ho,r⟩,_⟩:=id I.loc;obtain⟨sl,hL⟩:=u.any ho I.free (by simp);exact I.step (g':=s.gens) (d':=s.drawn) (ch:=[]) (fun _ z=>nomatch z) (fun b o _ hb _ e n=>u.keep b o e n hb (by simp)) (fun b o _ hb _ e n=>u.slot b o e n hb (by simp)) (fun b o _ e n=>u.free b o e n (by simp)) (fun b o _ e=>u.there b o e (by simp)) u.iy u.frzs u.tbls (fun m' hm=>by
  obtain⟨o',es',ep',ho',r'⟩:=hm;rw[ho]at ho';cases ho';exact⟨_,es',ep',hL,r'⟩) hok I.bare
theorem Inv.call{g':Array GenState}{t':Nat}{d':Drawn}{ch:List Addr}(I:Inv X pins σ H s)(u:Un (frs X.stack) ch H H' s.heap h')(hok:HOk X.prog X.w H' h')(hg:AllBare g')
  (hch:∀b∈ch,(b∈X.ex\/X.s₀.heap.objs.size<=b)/\b≠X.env.locals/\(∀x c,X.env.cells.lookup x=some c->c≠b)/\∀p∈X.pn++pins,p.1≠b) :
  Inv X pins σ H' {s with heap:=h',gens:=g',drawn:=d',toks:=t' }:=by
 obtain⟨m,⟨o,es,ep,ho,r⟩,_⟩:=id I.loc;obtain⟨sl,hL⟩:=u.any ho I.free fun z=>(hch _ z).2.1 rfl;exact I.step (ch:=ch) hch (fun b o hL hb hc e n=>u.keep b o e n (fun z=>(List.mem_cons.mp (I.iN b z)).elim hL hb) hc) (fun b o _ _ hc e n=>u.any e n hc) (fun b o hc e n=>u.free b o e n hc) (fun b o hc e=>u.there b o e hc) u.iy u.frzs u.tbls (fun m' hm=>by
  obtain⟨o',es',ep',ho',r'⟩:=hm;rw[ho]at ho';cases ho';exact⟨_,es',ep',hL,r'⟩) hok hg
theorem Inv.turned{t':Nat}{it:Addr}(I:Inv X pins σ H s)(k:∀b o,b≠it->s.heap.get? b=some o->h'.get? b=some o)(hn:H it=none)(hL:it≠X.env.locals)
  (h1:it∈X.ex\/X.s₀.heap.objs.size<=it) (h2:∀x c,X.env.cells.lookup x=some c->c≠it) (h3:∀p∈X.pn++pins,p.1≠it):Inv X pins σ H {s with heap:=h',toks:=t' }:=by
 have nit:∀b u,H b=some u->b≠it:=fun b u e z=>by rw[z,hn]at e;cases e
 refine I.step (g':=s.gens) (d':=s.drawn) (ch:=[it]) (fun b hb=>?_) (fun b o _ _ hc e _=>k b o (fun z=>hc (by simp[z])) e) (fun b o _ _ hc e _=>⟨o.slots,k b o (fun z=>hc (by simp[z])) e⟩) (fun _ _ _ _ n=>n)
  (fun b o hc e=>⟨o,k b o (fun z=>hc (by simp[z])) e⟩) (fun _ _ e=>e) (fun _ _ _ e=>e) (fun b ps e=>⟨#[],by rw[e];simp⟩) (fun m hm=>?_) (fun b u e=>?_) I.bare
 ·have e:b=it:=by simpa using hb
  subst e;exact⟨h1,hL,h2,h3⟩
 ·obtain⟨o,es,ep,ho,r⟩:=hm;exact⟨o,es,ep,k _ o (Ne.symm hL) ho,r⟩
 ·refine(I.hok b u e).la (fun c v hc q=>k c v ?_ q) (fun _ q=>q) fun _ _ q=>q;rcases hc with z|z
  ·rw[z];exact nit b u e
  ·exact nit c _ z
theorem Inv.tok(I:Inv X pins σ H s)(t:Nat):Inv X pins σ H {s with toks:=t}:=I.un (h':=s.heap) (t':=t) Un.refl I.hok
theorem Inv.kept{t':Nat}(I:Inv X pins σ H s)(k:∀b u,s.heap.get? b=some u->h'.get? b=some u):Inv X pins σ H {s with heap:=h',toks:=t' }:=I.un (Un.kept k) (I.hok.kept k)
theorem Inv.laid{a:Addr}{o:HO}{t':Nat}(I:Inv X pins σ H s)(k:∀b u,s.heap.get? b=some u->h'.get? b=some u)(hp:s.heap.objs.size<=a)(new:bE X.prog X.w (upd H a o) h' a o):
  Inv X pins σ (upd H a o) {s with heap:=h',toks:=t' }:=I.un (Un.laid k hp (I.hok.fresh hp)) (I.hok.laid k hp new)
theorem Inv.write{x e:Addr}{o:HO}{t':Nat}(I:Inv X pins σ H s)(mu:Mut (H x))(he:e=x\/H e=some (.own x))(k:∀b u,b≠e->s.heap.get? b=some u->h'.get? b=some u)(heo:∃u,h'.get? e=some u)
  (new:bE X.prog X.w (upd H x o) h' x o):Inv X pins σ (upd H x o) {s with heap:=h',toks:=t' }:=I.un (Un.write mu he k heo) (I.hok.write mu he k heo new)
theorem Inv.weak{σ':List (Option V)}(I:Inv X pins σ H s)(hl:σ'.length=σ.length)(w:∀(i:Nat) v,σ'[i]?=some (some v)->σ[i]?=some (some v)):Inv X pins σ' H s :=
 ⟨I.ok,I.os,I.bare,I.base,let ⟨m,hn,hl'⟩:=I.loc;⟨m,hn,fun i x v e1 e2 e3=>hl' i x v e1 (w i v e2) e3⟩,I.cell,I.free,I.freeC,I.pin,I.hok,hl.trans I.len⟩
theorem Inv.eR{pins':List (Addr×Obj)}(I:Inv X pins σ H s)(h:∀p∈pins',s.heap.get? p.1=some p.2/\H p.1=none/\p.1≠X.env.locals/\p.1∉X.fs/\∀v,p.2.data≠.cell v):Inv X pins' σ H s :=
 ⟨I.ok,I.os,I.bare,I.base,I.loc,I.cell,I.free,I.freeC,fun p hp=>(List.mem_append.mp hp).elim (fun z=>I.pin p (List.mem_append_left _ z)) (h p),I.hok,I.len⟩
theorem iO{N:List Str}(hN:N.Nodup){i j:Nat}{x:Str}(a:N[i]?=some x)(b:N[j]?=some x):i=j:=by
 obtain⟨h1,e1⟩:=List.getElem?_eq_some_iff.mp a;obtain⟨h2,e2⟩:=List.getElem?_eq_some_iff.mp b;exact(List.getElem_inj hN).mp (e1.trans e2.symm)
theorem kh{M:Model}{A:Around}{E:Value->Shared->Prop}{i:Nat}{x:Str}{v:V}{u:Value}{Q:Unit->Shared->Prop}(I:Inv X pins σ H s)(hN:X.N.Nodup)(hi:X.N[i]?=some x)(hx:Loc X.env.scope x)(r:RelV v u)
  (h:∀s',Inv X pins (σ.set i (some v)) H s'->(∃a,Heap.SameBut a s.heap s'.heap/\(a=X.env.locals\/X.env.cells.lookup x=some a))->Q () s') (hf:X.fn x=true\/X.env.scope.names.lookup x=some .local:=by first|exact .inl rfl|exact .inr rfl|assumption):wpAny M A (storeName X.env x u) Q E s:=by
 obtain⟨m,hn,hl⟩:=id I.loc;have hcls:(X.env.scope.kind==.class||(X.env.scope.kind==.module&&X.env.locals != X.env.globals))=false:=by rw[I.ok.kind];rfl
 have hiσ:i < σ.length:=by rw[I.len];exact(List.getElem?_eq_some_iff.mp hi).1
 have cne:=I.cne;have tracked:∀{a:Addr} {h':Heap},(∃o,s.heap.get? a=some o/\H a=none)->Heap.SameBut a s.heap h'->HOk X.prog X.w H h':=fun {a h'} ha hs b ob e=>by
  obtain⟨_,_,hfree⟩:=ha;refine(I.hok b ob e).la (fun c w' hc q=>(hs.2 c ?_).trans q) (fun _ q=>q) fun _ _ q=>q;rintro rfl;rcases hc with rfl|hc
  ·rw[hfree]at e;cases e
  ·rw[hfree]at hc;cases hc
 rcases hx with hk|hk
 ·refine wpAny_storeName_local hk hn (fun h' hn' hs=>?_) hcls;obtain⟨oL,_,_,hoL,_⟩:=id hn;refine h _ ⟨I.ok,I.os,I.bare,⟨fun b o e n hb hx=>?_,fun b o e n hb hx=>?_,I.base.free,fun b o e hx=>?_,I.base.iy,I.base.frzs,I.base.tbls⟩,⟨_,hn',fun j y v' e1 e2 e3=>?_⟩,fun y c e=>?_,I.free,I.freeC,fun p hp=>?_,tracked ⟨oL,hoL,I.free⟩ hs,by simpa using I.len⟩ ⟨_,hs,.inl rfl⟩
  ·exact(hs.2 b (Nat.ne_of_lt (Nat.lt_of_lt_of_le (Heap.lt_size e) I.ok.above))).trans (I.base.keep b o e n hb hx)
  ·obtain⟨sl,e1⟩:=I.base.slot b o e n hb hx;exact⟨sl,(hs.2 b (Nat.ne_of_lt (Nat.lt_of_lt_of_le (Heap.lt_size e) I.ok.above))).trans e1⟩
  ·obtain⟨o',e1⟩:=I.base.there b o e hx;exact⟨o',(hs.2 b (Nat.ne_of_lt (Nat.lt_of_lt_of_le (Heap.lt_size e) I.ok.above))).trans e1⟩
  ·by_cases hj:j=i
   ·subst hj;rw[hi]at e1;cases e1;rw[List.getElem?_set_self hiσ]at e2;cases e2;exact⟨u,r,.inl ⟨hk,by simp⟩⟩
   ·rw[List.getElem?_set_ne (Ne.symm hj)]at e2;obtain⟨u',r',q⟩:=hl j y v' e1 e2 e3;refine⟨u',r',?_⟩;rcases q with⟨k,e⟩|⟨k,c,e,z⟩
    ·refine .inl ⟨k,?_⟩;have:y≠x:=fun e=>hj (iO hN e1 (e▸hi));simp[this,e]
    ·exact .inr ⟨k,c,e,z.sameBut hs (cne y c e)⟩
  ·obtain⟨w',z⟩:=I.cell y c e;exact⟨w',z.sameBut hs (cne y c e)⟩
  ·obtain⟨e,n,ne,nf,d⟩:=I.pin p hp;exact⟨(hs.2 p.1 ne).trans e,n,ne,nf,d⟩
 ·have hfn:X.fn x=true:=by
   rcases hf with z|z
   ·exact z
   ·rw[z]at hk;cases hk
  obtain⟨c,hc⟩:=I.ok.has x (.inl hk);obtain⟨w',z⟩:=I.cell x c hc;refine wpAny_storeName_cell I.ok.kind hk hc z (fun h' hc' hs=>?_);obtain⟨oc,hoc,hocd⟩:=id z;refine h {s with heap:=h' } ⟨I.ok,I.os,I.bare,⟨fun b o e n hb hx=>?_,fun b o e n hb hx=>?_,I.base.free,fun b o e hx=>?_,I.base.iy,I.base.frzs,I.base.tbls⟩,⟨m,hn.sameBut hs (Ne.symm (cne x c hc)),fun j y v' e1 e2 e3=>?_⟩,fun y c' e=>?_,I.free,I.freeC,fun p hp=>?_,tracked ⟨oc,hoc,I.freeC x c hc⟩ hs,by simpa using I.len⟩ ⟨c,hs,.inr hc⟩
  ·exact(hs.2 b (Nat.ne_of_lt (Nat.lt_of_lt_of_le (Heap.lt_size e) (I.ok.cab x c hfn hc)))).trans (I.base.keep b o e n hb hx)
  ·obtain⟨sl,e1⟩:=I.base.slot b o e n hb hx;exact⟨sl,(hs.2 b (Nat.ne_of_lt (Nat.lt_of_lt_of_le (Heap.lt_size e) (I.ok.cab x c hfn hc)))).trans e1⟩
  ·obtain⟨o',e1⟩:=I.base.there b o e hx;exact⟨o',(hs.2 b (Nat.ne_of_lt (Nat.lt_of_lt_of_le (Heap.lt_size e) (I.ok.cab x c hfn hc)))).trans e1⟩
  ·by_cases hj:j=i
   ·subst hj;rw[hi]at e1;cases e1;rw[List.getElem?_set_self hiσ]at e2;cases e2;exact⟨u,r,.inr ⟨.inl hk,c,hc,hc'⟩⟩
   ·rw[List.getElem?_set_ne (Ne.symm hj)]at e2;obtain⟨u',r',q⟩:=hl j y v' e1 e2 e3;refine⟨u',r',?_⟩;rcases q with q|⟨k,c',e,z'⟩
    ·exact .inl q
    ·refine .inr ⟨k,c',e,z'.sameBut hs ?_⟩;rintro rfl;exact hj (iO hN e1 (I.ok.inj _ _ _ e hc▸hi))
  ·by_cases hcc:c'=c
   ·subst hcc;exact⟨_,hc'⟩
   ·obtain⟨w2,z2⟩:=I.cell y c' e;exact⟨w2,z2.sameBut hs hcc⟩
  ·obtain⟨e,n,ne,nf,d⟩:=I.pin p hp;refine⟨(hs.2 p.1 ?_).trans e,n,ne,nf,d⟩;intro q;rw[q,hoc]at e;have q':oc=p.2:=Option.some.inj e;exact d w' (by rw[<-q'];exact hocd)
theorem mK{M:Model}{A:Around}{E:Value->Shared->Prop}{i:Nat}{x:Str}{v:V}{u:Value}{Q:Unit->Shared->Prop}(I:Inv X pins σ H s)(hN:X.N.Nodup)(hi:X.N[i]?=some x)(hx:Loc X.env.scope x)(r:RelV v u)
  (h:∀s',Inv X pins (σ.set i (some v)) H s'->Q () s') (hf:X.fn x=true\/X.env.scope.names.lookup x=some .local:=by first|exact .inl rfl|exact .inr rfl|assumption):wpAny M A (storeName X.env x u) Q E s :=
 kh I hN hi hx r (fun s' I' _=>h s' I') hf
theorem Inv.zx{s':Shared}{ch:List Addr}(I:Inv X pins σ H s)(ho:s'.os=s.os)(u:Un (frs X.stack) ch H H' s.heap s'.heap)(hok:HOk X.prog X.w H' s'.heap)(hg:AllBare s'.gens)
  (hch:∀b∈ch,(b∈X.ex\/X.s₀.heap.objs.size<=b)/\b≠X.env.locals/\(∀x c,X.env.cells.lookup x=some c->c≠b)/\∀p∈X.pn++pins,p.1≠b):Inv X pins σ H' s':=by
 obtain⟨h',g',d',t',o'⟩:=s';have e:o'=s.os:=ho;subst e;exact I.call (g':=g') (t':=t') (d':=d') u hok hg hch
end
noncomputable abbrev XK:=Value->Option Addr->Hp->Prop
noncomputable abbrev St:=List (Option V)
noncomputable abbrev VK:=V->Hp->Prop
noncomputable abbrev TE:=St->Hp->VK->Prop
noncomputable abbrev TT:=St->Hp->(Bool->Hp->Prop)->Prop
noncomputable abbrev TA:=St->Hp->(List V->Hp->Prop)->Prop
structure Ends where
 nx:St->Hp->Prop
 rt:VK
 bk:St->Hp->Prop:=fun _ _=>False
 ct:St->Hp->Prop:=fun _ _=>False
noncomputable abbrev TS:=Ends->St->Hp->Prop
noncomputable def EP(X:Cx)(pins:List (Addr×Obj))(σ:St)(Q:VK)(u:Value)(s':Shared):Prop:=∃v H',Inv X pins σ H' s'/\RelV v u/\Q v H'
noncomputable def TP(X:Cx)(pins:List (Addr×Obj))(σ:St)(Q:Bool->Hp->Prop)(b:Bool)(s':Shared):Prop:=∃H',Inv X pins σ H' s'/\Q b H'
noncomputable def AP(X:Cx)(pins:List (Addr×Obj))(σ:St)(Q:List V->Hp->Prop)(us:List Value)(s':Shared):Prop:=∃vs H',Inv X pins σ H' s'/\Vals vs us/\Q vs H'
noncomputable def SP(X:Cx)(pins:List (Addr×Obj))(D:Ends)(f:Flow)(s':Shared):Prop :=
 match f with
 |.next=>∃σ' H',Inv X pins σ' H' s'/\D.nx σ' H'
 |.brk=>∃σ' H',Inv X pins σ' H' s'/\D.bk σ' H'
 |.cont=>∃σ' H',Inv X pins σ' H' s'/\D.ct σ' H'
 |.ret u=>∃v σ' H',Inv X pins σ' H' s'/\RelV v u/\D.rt v H'
noncomputable def PE(X:Cx)(e:Expr)(t:TE):Prop :=
 ∀(pins:List (Addr×Obj)) (s:Shared) (σ:St) (H:Hp) (Q:VK),Inv X pins σ H s->t σ H Q->wpAny (model X.prog X.w) X.A (eval e X.env) (EP X pins σ Q) X.xe s
noncomputable def PT(X:Cx)(e:Expr)(t:TT):Prop :=
 ∀(pins:List (Addr×Obj)) (s:Shared) (σ:St) (H:Hp) (Q:Bool->Hp->Prop),Inv X pins σ H s->t σ H Q->wpAny (model X.prog X.w) X.A (isTrue e X.env (eval e X.env)) (TP X pins σ Q) X.xe s
noncomputable def PW(X:Cx)(e:Expr)(t:TT):Prop :=
 ∀(whole:Sem Value) (pins:List (Addr×Obj)) (s:Shared) (σ:St) (H:Hp) (Q:Bool->Hp->Prop),Inv X pins σ H s->t σ H Q->wpAny (model X.prog X.w) X.A (isTrue e X.env whole) (TP X pins σ Q) X.xe s
theorem PW.pt{X:Cx}{e:Expr}{t:TT}(h:PW X e t):PT X e t:=h _
noncomputable def PA(X:Cx)(es:List Expr)(t:TA):Prop :=
 ∀(pos:Pos) (pins:List (Addr×Obj)) (s:Shared) (σ:St) (H:Hp) (Q:List V->Hp->Prop),Inv X pins σ H s->t σ H Q->wpAny (model X.prog X.w) X.A (spliced (backTo pos (starEach es X.env))) (AP X pins σ Q) X.xe s
noncomputable def PS(X:Cx)(st:Stmt)(t:TS):Prop :=
 ∀(pins:List (Addr×Obj)) (s:Shared) (σ:St) (H:Hp) (D:Ends),Inv X pins σ H s->t D σ H->wpAny (model X.prog X.w) X.A (exec st X.env) (SP X pins D) X.xe s
noncomputable def PSs(X:Cx)(st:List Stmt)(t:TS):Prop :=
 ∀(pins:List (Addr×Obj)) (s:Shared) (σ:St) (H:Hp) (D:Ends),Inv X pins σ H s->t D σ H->wpAny (model X.prog X.w) X.A (execs st X.env) (SP X pins D) X.xe s
theorem thn{α:Type}{t:Sem α}{Q Q':α->Shared->Prop}{M:Model}{A:Around}{E:Value->Shared->Prop}{s:Shared}(h:wpAny M A t Q E s)(hQ:∀a s,Q a s->Q' a s):wpAny M A t Q' E s:=wpAny_mono h hQ fun _ _ x=>x
end L2
namespace L2
open PySem PySem.Spec PyProof.Rows
section
variable{X:Cx}
noncomputable def A4(i:Nat):TE:=fun σ H Q=>∃v,σ[i]?=some (some v)/\Q v H
noncomputable def tC(v:V):TE:=fun _ H Q=>Q v H
theorem bV{i:Nat}{x:Str}{pos:Pos}(hN:X.N[i]?=some x)(hv:Vis X.env.scope x)(hd:(x==("__debug__":Str))=false:=by decide)(hcd:(x==("__classdict__":Str))=false:=by decide):PE X (.Name x pos) (A4 i):=by
 intro pins s σ H Q I h;obtain⟨v,e,h⟩:=h;obtain⟨m,hn,hl⟩:=I.loc;obtain⟨u,r,l⟩:=hl i x v hN e hv;have fin:EP X pins σ Q u s:=⟨v,H,I,r,h⟩
 rcases l with⟨hk,hm⟩|⟨hk,c,hc,hcell⟩
 ·exact wpAny_Name (wpAny_loadName_local I.ok.kind hk hn hm fin) hd
 ·rcases hk with hk|hk
  ·exact wpAny_Name (wpAny_loadName_cell I.ok.kind hk hc hcell fin) hd
  ·exact wpAny_Name (wpAny_loadName_free I.ok.kind hk hc hcell fin hcd) hd
theorem sk{i j pos}:PE X (.Constant (.int i) j pos) (tC (.int i)):=fun _ _ _ H _ I h=>wpAny_Constant_int ⟨.int i,H,I.tok _,⟨_,rfl⟩,h⟩
theorem xb{b j pos}:PE X (.Constant (.bool b) j pos) (tC (.bl b)):=fun _ _ _ H _ I h=>Constant_bool ⟨.bl b,H,I,rfl,h⟩
theorem sm{j pos}:PE X (.Constant .none j pos) (tC .non):=fun _ _ _ H _ I h=>Constant_none ⟨.non,H,I,rfl,h⟩
theorem so{x j pos}:PE X (.Constant (.str x) j pos) (tC (.str x)):=fun _ _ _ H _ I h=>Calls.Constant_str ⟨.str x,H,I.tok _,⟨_,rfl⟩,h⟩
noncomputable def Gl(X:Cx)(x:Str):Prop:=X.env.kindOf x=some .globalImplicit
theorem uZ{E:Value->Shared->Prop}{pins:List (Addr×Obj)}{s:Shared}{σ:St}{H:Hp}{x:Str}{u:Value}{pos:Pos}{Q:Value->Shared->Prop}(I:Inv X pins σ H s)(hg:Gl X x)(hm:X.mg x=some u)(h:Q u s)
  (hd:(x==("__debug__":Str))=false:=by decide):wpAny (model X.prog X.w) X.A (eval (.Name x pos) X.env) Q E s :=
 Calls.Name_function_global I.ok.kind hg (Calls.loadGlobal_global (by rw[I.ok.glob];exact I.mod.glob.keeps I.bk) hm h) hd
theorem dz{E:Value->Shared->Prop}{pins:List (Addr×Obj)}{s:Shared}{σ:St}{H:Hp}{x:Str}{u:Value}{pos:Pos}{Q:Value->Shared->Prop}(I:Inv X pins σ H s)(hg:Gl X x)(hm:X.mg x=none)(hv:bootBuiltins x=some u)(h:Q u s)
  (hn:x≠"__name__":=by decide) (hd:(x==("__debug__":Str))=false:=by decide):wpAny (model X.prog X.w) X.A (eval (.Name x pos) X.env) Q E s:=by
 obtain⟨mb,h1,h2⟩:=I.mod.blt;exact Calls.Name_function_global I.ok.kind hg (Calls.loadGlobal_builtin (by rw[I.ok.glob];exact I.mod.glob.keeps I.bk) hm (by rw[I.ok.blt];exact h1.keeps I.bk) ((h2 x hn).trans hv) h) hd
theorem u3{x:Str}{v:V}{u:Value}{pos:Pos}(hg:Gl X x)(hm:X.mg x=none)(hv:bootBuiltins x=some u)(r:RelV v u)(hn:x≠"__name__":=by decide)(hd:(x==("__debug__":Str))=false:=by decide):PE X (.Name x pos) (tC v) :=
 fun _ _ _ H _ I h=>dz I hg hm hv ⟨v,H,I,r,h⟩ hn hd
variable{a b:Expr}{ta tb:TE}{pos:Pos}
noncomputable def PC(X:Cx)(op:CmpOp)(a b:Expr)(t:TE):Prop :=
 ∀(pins:List (Addr×Obj)) (s:Shared) (σ:St) (H:Hp) (Q:VK),Inv X pins σ H s->t σ H Q ->
  wpAny (model X.prog X.w) X.A (eval a X.env) (fun v s₁=>wpAny (model X.prog X.w) X.A (eval b X.env) (fun u s₂=>wpAny (model X.prog X.w) X.A (compareOp op v u) (EP X pins σ Q) X.xe s₂) X.xe s₁) X.xe s
noncomputable def tB(t:TE):TT:=fun σ H Q=>t σ H fun x H1=>∃c,x=.bl c/\Q c H1
theorem sr{op:CmpOp}{t:TE}(h:PC X op a b t)(h1:behindInMarks op b=false:=by first|exact nobehind _ (by decide) (by decide)|rfl):PE X (.Compare a [op] [b] pos) t:=fun pins s σ H Q I hw=>wpAny_Compare1 (h pins s σ H Q I hw) h1
theorem su{op:CmpOp}{t:TE}(h:PC X op a b t)(h1:behindInMarks op b=false:=by first|exact nobehind _ (by decide) (by decide)|rfl):PT X (.Compare a [op] [b] pos) (tB t):=by
 intro pins s σ H Q I hw;refine wpAny_isTrue_Compare1 (thn (h pins s σ H _ I hw) fun v s1 h1=>thn h1 fun u s2 h2=>thn h2 fun c s3 ⟨x,H1,I1,r1,q1⟩=>?_) h1;obtain⟨d,rfl,q⟩:=q1;cases r1;exact wpAny_truthy_bool ⟨H1,I1,q⟩
variable{tA tB':TT}{rest:List Expr}
noncomputable def A5(t u:TT):TT:=fun σ H Q=>t σ H fun c H1=>if c=true then u σ H1 Q else Q false H1
noncomputable def tOr(t u:TT):TT:=fun σ H Q=>t σ H fun c H1=>if c=true then Q true H1 else u σ H1 Q
noncomputable def A6(t:TT):TT:=fun σ H Q=>t σ H fun c H1=>Q (!c) H1
theorem u4(ha:PT X a tA):PW X (.BoolOp .And [a] pos) tA:=by
 intro wh pins s σ H Q I h;refine isTrue_and (thn (ha pins s σ H Q I h) fun c s1 e=>?_);cases c with
 |true=>exact isTrue_and_nil e
 |false=>exact e
theorem xI(ha:PT X a tA):PW X (.BoolOp .Or [a] pos) tA:=by
 intro wh pins s σ H Q I h;refine isTrue_or (thn (ha pins s σ H Q I h) fun c s1 e=>?_);cases c with
 |false=>exact isTrue_or_nil e
 |true=>exact e
theorem xJ(ha:PT X a tA)(hb:PW X (.BoolOp .And (b::rest) pos) tB'):PW X (.BoolOp .And (a::b::rest) pos) (A5 tA tB'):=by
 intro wh pins s σ H Q I h;refine isTrue_and (thn (ha pins s σ H _ I h) fun c s1 ⟨H1,I1,q1⟩=>?_);cases c with
 |true=>exact hb wh pins s1 σ H1 Q I1 q1
 |false=>exact⟨H1,I1,q1⟩
theorem zy(ha:PT X a tA)(hb:PW X (.BoolOp .Or (b::rest) pos) tB'):PW X (.BoolOp .Or (a::b::rest) pos) (tOr tA tB'):=by
 intro wh pins s σ H Q I h;refine isTrue_or (thn (ha pins s σ H _ I h) fun c s1 ⟨H1,I1,q1⟩=>?_);cases c with
 |true=>exact⟨H1,I1,q1⟩
 |false=>exact hb wh pins s1 σ H1 Q I1 q1
theorem xK(ha:PT X a tA):PT X (.UnaryOp .Not a pos) (A6 tA):=by
 intro pins s σ H Q I h;exact isTrue_not (ha pins s σ H (fun c H1=>Q (!c) H1) I h)
noncomputable def zA(ta tb:TE):TE:=fun σ H Q=>ta σ H fun x H1=>∃c,x=.bl c/\if c=true then tb σ H1 Q else Q (.bl false) H1
noncomputable def A7(ta tb:TE):TE:=fun σ H Q=>ta σ H fun x H1=>∃c,x=.bl c/\if c=true then Q (.bl true) H1 else tb σ H1 Q
noncomputable def zB(ta:TE):TE:=fun σ H Q=>ta σ H fun x H1=>∃c,x=.bl c/\Q (.bl (!c)) H1
theorem sv{op}{t:TE}(h:PE X a t):PE X (.BoolOp op [a] pos) t:=fun pins s σ H Q I hw=>BoolOp_one (h pins s σ H Q I hw)
theorem xM(ha:PE X a ta)(hb:PE X (.BoolOp .And (b::rest) pos) tb):PE X (.BoolOp .And (a::b::rest) pos) (zA ta tb):=by
 intro pins s σ H Q I h;refine BoolOp_and (thn (ha pins s σ H _ I h) fun v s1 ⟨x,H1,I1,r1,q1⟩=>?_);obtain⟨c,rfl,q1⟩:=q1;cases r1;refine wpAny_truthy_bool ?_;cases c with
 |true=>exact hb pins s1 σ H1 Q I1 q1
 |false=>exact⟨.bl false,H1,I1,rfl,q1⟩
theorem zC(ha:PE X a ta)(hb:PE X (.BoolOp .Or (b::rest) pos) tb):PE X (.BoolOp .Or (a::b::rest) pos) (A7 ta tb):=by
 intro pins s σ H Q I h;refine BoolOp_or (thn (ha pins s σ H _ I h) fun v s1 ⟨x,H1,I1,r1,q1⟩=>?_);obtain⟨c,rfl,q1⟩:=q1;cases r1;refine wpAny_truthy_bool ?_;cases c with
 |false=>exact hb pins s1 σ H1 Q I1 q1
 |true=>exact⟨.bl true,H1,I1,rfl,q1⟩
theorem xN(ha:PE X a ta):PE X (.UnaryOp .Not a pos) (zB ta):=by
 intro pins s σ H Q I h;refine UnaryOp_ (thn (ha pins s σ H _ I h) fun v s1 ⟨x,H1,I1,r1,q1⟩=>?_);obtain⟨c,rfl,q1⟩:=q1;cases r1;exact not_of (wpAny_truthy_bool ⟨.bl (!c),H1,I1,rfl,q1⟩)
end
end L2
namespace L2
open PySem PySem.Spec PyProof.Rows
noncomputable def SqL(K:PySem.W.Frag)(H:Hp)(a:Addr)(xs:List V):Prop :=
 Rd H a (.lst xs) \/
  ∃(o:Obj) (its:Array Value) (n:Nat),K.lookup a=some o/\o.cls=.type "list"/\o.dict=none/\o.data=.seq its n/\its.size<=sizeLine/\Vals xs its.toList
noncomputable def SqT(K:PySem.W.Frag)(H:Hp)(a:Addr)(xs:List V):Prop :=
 Rd H a (.tup xs) \/
  ∃(o:Obj) (its:Array Value) (n:Nat),K.lookup a=some o/\o.cls=.type "tuple"/\o.data=.seq its n/\its.size<=sizeLine/\Vals xs its.toList
noncomputable def A8:Value->Option V
 |.none=>some .non
 |.bool b=>some (.bl b)
 |.int i _=>some (.int i)
 |.str x _=>some (.str x)
 |.bytes b _=>some (.byt b)
 |.float b _=>some (.flt b)
 |.ref a=>some (.ref a)
 |.type n=>some (.ty n)
 |_=>none
theorem RelV.abs{x:V}{u:Value}(r:RelV x u):A8 u=some x:=by
 cases x with
 |non=>cases r;rfl
 |bl _=>cases r;rfl
 |int _=>obtain⟨t,rfl⟩:=r;rfl
 |str _=>obtain⟨t,rfl⟩:=r;rfl
 |byt _=>obtain⟨t,rfl⟩:=r;rfl
 |flt _=>obtain⟨t,rfl⟩:=r;rfl
 |ref _=>cases r;rfl
 |ty _=>cases r;rfl
theorem RelV.inj{x y:V}{u:Value}(r:RelV x u)(q:RelV y u):x=y:=Option.some.inj (r.abs.symm.trans q.abs)
theorem Vals.inj:∀{xs ys:List V}{us:List Value},Vals xs us->Vals ys us->xs=ys
 |_,_,_,.nil,.nil=>rfl
 |_,_,_,.cons r t,.cons r' t'=>by rw[r.inj r',Vals.inj t t']
section
variable{X:Cx}{pins:List (Addr×Obj)}{σ:St}{H:Hp}{s:Shared}{a:Addr}{xs ys:List V}
theorem SqL.of{K:PySem.W.Frag}(h:H a=some (.lst xs)):SqL K H a xs:=.inl (.inl h)
theorem SqT.of{K:PySem.W.Frag}(h:H a=some (.tup xs)):SqT K H a xs:=.inl (.inl h)
theorem Inv.list(I:Inv X pins σ H s)(h:SqL X.K H a xs):∃its:List Value,Vals xs its/\PlainL s.heap a its.toArray/\xs.length<=sizeLine:=by
 rcases h with h|⟨o,its,n,hk,hc,hd,hs,hz,r⟩
 ·obtain⟨z,its,n,r,e⟩:=h.ok I.hok;exact⟨its,r,⟨_,n,e,rfl,rfl,rfl⟩,z⟩
 ·refine⟨its.toList,r,⟨o,n,I.kIn a o hk,hc,hd,by simpa using hs⟩,?_⟩;have e:=r.length;simp only[Array.length_toList]at e;omega
theorem Inv.tuple(I:Inv X pins σ H s)(h:SqT X.K H a xs):∃its:List Value,Vals xs its/\IsTup s.heap a its.toArray/\xs.length<=sizeLine:=by
 rcases h with h|⟨o,its,n,hk,hc,hs,hz,r⟩
 ·obtain⟨z,its,r,p⟩:=h.ok I.hok;exact⟨its,r,p,z⟩
 ·refine⟨its.toList,r,⟨o,I.kIn a o hk,hc,n,by simpa using hs⟩,?_⟩;have e:=r.length;simp only[Array.length_toList]at e;omega
theorem Inv.iP(I:Inv X pins σ H s)(h:SqL X.K H a xs)(h':SqL X.K H a ys):xs=ys:=by
 obtain⟨its,r,⟨o,n,e,_,_,d⟩,_⟩:=I.list h;obtain⟨its',r',⟨o',n',e',_,_,d'⟩,_⟩:=I.list h';rw[e]at e';cases e';rw[d]at d';injection d' with d1 _
 have:its=its':=by simpa using congrArg Array.toList d1
 subst this;exact r.inj r'
theorem Inv.eS(I:Inv X pins σ H s)(h:SqT X.K H a xs)(h':SqT X.K H a ys):xs=ys:=by
 obtain⟨its,r,⟨o,e,_,n,d⟩,_⟩:=I.tuple h;obtain⟨its',r',⟨o',e',_,n',d'⟩,_⟩:=I.tuple h';rw[e]at e';cases e';rw[d]at d';injection d' with d1 _
 have:its=its':=by simpa using congrArg Array.toList d1
 subst this;exact r.inj r'
end
noncomputable abbrev Cx.jY(X:Cx)(E:Value->Shared->Prop):Cx:={X with xe:=E}
noncomputable abbrev Cx.nox(X:Cx):Cx:=X.jY fun _ _=>False
theorem Cx.Ok.jY{X:Cx}(ok:X.Ok)(E:Value->Shared->Prop):(X.jY E).Ok :=
 ⟨ok.mod,ok.kind,ok.glob,ok.blt,ok.above,ok.inj,ok.has,ok.cab,ok.hd,ok.frames,ok.stk,ok.exf,ok.bs,ok.bsz,ok.noex,ok.exfs,ok.iM,ok.frf⟩
theorem Cx.Ok.d_{X:Cx}{E:Value->Shared->Prop}(ok:(X.jY E).Ok):X.Ok :=
 ⟨ok.mod,ok.kind,ok.glob,ok.blt,ok.above,ok.inj,ok.has,ok.cab,ok.hd,ok.frames,ok.stk,ok.exf,ok.bs,ok.bsz,ok.noex,ok.exfs,ok.iM,ok.frf⟩
section
variable{X:Cx}{pins:List (Addr×Obj)}{σ:St}{H:Hp}{s:Shared}{E:Value->Shared->Prop}
theorem Inv.jY(I:Inv X pins σ H s)(E:Value->Shared->Prop):Inv (X.jY E) pins σ H s:=⟨I.ok.jY E,I.os,I.bare,I.base,I.loc,I.cell,I.free,I.freeC,I.pin,I.hok,I.len⟩
theorem Inv.d_(I:Inv (X.jY E) pins σ H s):Inv X pins σ H s:=⟨I.ok.d_,I.os,I.bare,I.base,I.loc,I.cell,I.free,I.freeC,I.pin,I.hok,I.len⟩
theorem SP.d_{D:Ends}{f:Flow}{s':Shared}(h:SP (X.jY E) pins D f s'):SP X pins D f s':=by
 cases f with
 |next=>obtain⟨σ',H',I,q⟩:=h;exact⟨σ',H',I.d_,q⟩
 |brk=>obtain⟨σ',H',I,q⟩:=h;exact⟨σ',H',I.d_,q⟩
 |cont=>obtain⟨σ',H',I,q⟩:=h;exact⟨σ',H',I.d_,q⟩
 |ret u=>obtain⟨v,σ',H',I,r,q⟩:=h;exact⟨v,σ',H',I.d_,r,q⟩
theorem PSs.nox{st:List Stmt}{t:TS}(h:PSs X.nox st t):PSs X st t:=fun pins s σ H D I hw =>
 wpAny_mono (h pins s σ H D (I.jY _) hw) (fun _ _ q=>q.d_) fun _ _ z=>False.elim z
end
section
variable{X:Cx}{st:Stmt}{rest:List Stmt}{t u:TS}{e:Expr}{te:TE}{pos:Pos}
noncomputable def xc:TS:=fun D σ H=>D.nx σ H
noncomputable def A9(t u:TS):TS:=fun D σ H=>t {D with nx:=u D} σ H
theorem u5:PSs X [] xc:=fun _ _ σ H _ I h=>wpAny_execs_nil ⟨σ,H,I,h⟩
theorem sx(h1:PS X st t)(h2:PSs X rest u):PSs X (st::rest) (A9 t u):=by
 intro pins s σ H D I h;refine wpAny_execs_cons (thn (h1 pins s σ H {D with nx:=u D} I h) fun f s1 q=>?_);cases f with
 |next =>
  obtain⟨σ',H',I',q⟩:=q;exact h2 pins s1 σ' H' D I' q
 |ret v=>exact q
 |brk=>exact q
 |cont=>exact q
noncomputable def xO:TS:=fun D σ H=>D.bk σ H
noncomputable def zD:TS:=fun D σ H=>D.ct σ H
theorem u6:PS X (.Pass pos) xc:=fun _ _ σ H _ I h=>wpAny_Pass ⟨σ,H,I,h⟩
theorem sy:PS X (.Break pos) xO:=fun _ _ σ H _ I h=>wpAny_Break ⟨σ,H,I,h⟩
theorem mL:PS X (.Continue pos) zD:=fun _ _ σ H _ I h=>wpAny_Continue ⟨σ,H,I,h⟩
theorem Inv.quiet{pins:List (Addr×Obj)}{σ:St}{H:Hp}{s:Shared}(I:Inv X pins σ H s):interactive X.env=false:=by simp[interactive,I.ok.kind]
noncomputable def zE(te:TE):TS:=fun D σ H=>te σ H fun _ H1=>D.nx σ H1
theorem fJ(he:PE X e te)(hs:swapsWith e none pos.line X.env=pure false:=by rfl):PS X (.Expr e pos) (zE te):=by
 intro pins s σ H D I h;exact wpAny_Expr_any (thn (he pins s σ H _ I h) fun v s1 ⟨x,H1,I1,r1,q1⟩=>⟨σ,H1,I1,q1⟩) I.quiet hs
noncomputable def A_(te:TE):TS:=fun D σ H=>te σ H D.rt
theorem xP(he:PE X e te):PS X (.Return (some e) pos) (A_ te):=by
 intro pins s σ H D I h;exact wpAny_Return_some (thn (he pins s σ H _ I h) fun v s1 ⟨x,H1,I1,r1,q1⟩=>⟨x,σ,H1,I1,r1,q1⟩)
noncomputable def zF:TS:=fun D _ H=>D.rt .non H
theorem u7:PS X (.Return none pos) zF:=fun _ _ σ H _ I h=>wpAny_Return_none ⟨.non,σ,H,I,rfl,h⟩
noncomputable def Ba(c:TT)(t u:TS):TS:=fun D σ H=>c σ H fun b H1=>if b=true then t D σ H1 else u D σ H1
theorem zG{c:Expr}{a b:List Stmt}{tc:TT}(hc:PT X c tc)(ha:PSs X a t)(hb:PSs X b u):PS X (.If c a b pos) (Ba tc t u):=by
 intro pins s σ H D I h;refine wpAny_If (thn (hc pins s σ H _ I h) fun d s1 ⟨H1,I1,q1⟩=>?_);cases d with
 |true=>exact ha pins s1 σ H1 D I1 q1
 |false=>exact hb pins s1 σ H1 D I1 q1
end
noncomputable abbrev TG:=V->St->Hp->(St->Hp->Prop)->Prop
noncomputable abbrev TGs:=List V->St->Hp->(St->Hp->Prop)->Prop
noncomputable def PG(X:Cx)(target:Expr)(t:TG):Prop :=
 ∀(pins:List (Addr×Obj)) (s:Shared) (σ:St) (H:Hp) (v:V) (u:Value) (Q:St->Hp->Prop),Inv X pins σ H s->RelV v u->t v σ H Q ->
  wpAny (model X.prog X.w) X.A (assign target X.env u) (fun _ s'=>∃σ' H',Inv X pins σ' H' s'/\Q σ' H') X.xe s
noncomputable def PGs(X:Cx)(ts:List Expr)(t:TGs):Prop :=
 ∀(pins:List (Addr×Obj)) (s:Shared) (σ:St) (H:Hp) (vs:List V) (us:List Value) (Q:St->Hp->Prop),Inv X pins σ H s->Vals vs us->t vs σ H Q ->
  wpAny (model X.prog X.w) X.A (assignInOrder ((assignEach ts X.env).map (·.2)) us) (fun _ s'=>∃σ' H',Inv X pins σ' H' s'/\Q σ' H') X.xe s
noncomputable abbrev qU:=V->V->V->Hp->(Hp->Prop)->Prop
noncomputable def iQ(X:Cx)(t:qU):Prop :=
 ∀(pins:List (Addr×Obj)) (s:Shared) (σ:St) (H:Hp) (o i v:V) (ov iv u:Value) (Q:Hp->Prop),Inv X pins σ H s->RelV o ov->RelV i iv->RelV v u->t o i v H Q ->
  wpAny (model X.prog X.w) X.A (setItem ov iv u) (fun _ s'=>∃H',Inv X pins σ H' s'/\Q H') X.xe s
noncomputable abbrev TIp:=V->V->Hp->VK->Prop
noncomputable def PIp(X:Cx)(op:Operator)(t:TIp):Prop :=
 ∀(pins:List (Addr×Obj)) (s:Shared) (σ:St) (H:Hp) (x y:V) (v u:Value) (Q:VK),Inv X pins σ H s->RelV x v->RelV y u->t x y H Q ->
  wpAny (model X.prog X.w) X.A (inplaceOp op v u) (EP X pins σ Q) X.xe s
section
variable{X:Cx}{pos:Pos}
noncomputable def pR(i:Nat):TG:=fun v σ H Q=>Q (σ.set i (some v)) H
theorem pS{i:Nat}{x:Str}(hN:X.N.Nodup)(hi:X.N[i]?=some x)(hx:Loc X.env.scope x)(hf:X.fn x=true\/X.env.scope.names.lookup x=some .local:=by first|exact .inl rfl|exact .inr rfl|assumption):PG X (.Name x pos) (pR i):=by
 intro pins s σ H v u Q I r h;exact wpAny_assign_Name (mK I hN hi hx r (fun s' I'=>⟨_,H,I',h⟩) hf)
noncomputable def zH:TGs:=fun vs σ H Q=>vs=[]/\Q σ H
noncomputable def xf(t:TG)(u:TGs):TGs:=fun vs σ H Q=>∃v r,vs=v::r/\t v σ H fun σ' H'=>u r σ' H' Q
theorem u9:PGs X [] zH:=by
 intro pins s σ H vs us Q I r h;obtain⟨e,h⟩:=h;subst e;cases r;exact assignInOrder_nil ⟨σ,H,I,h⟩
theorem sA{e:Expr}{es:List Expr}{t:TG}{u:TGs}(h1:PG X e t)(h2:PGs X es u)
  (hs:(assignEach (e::es) X.env).map (·.2)=assign e X.env::(assignEach es X.env).map (·.2):=by rfl):PGs X (e::es) (xf t u):=by
 intro pins s σ H vs us Q I r h;obtain⟨v,vr,e1,h⟩:=h;subst e1;cases r with
 |cons r rr =>
  rw[hs];refine assignInOrder_cons (thn (h1 pins s σ H _ _ _ I r h) fun _ s1 ⟨σ1,H1,I1,q1⟩=>?_);exact h2 pins s1 σ1 H1 _ _ Q I1 rr q1
noncomputable def Bb(K:PySem.W.Frag)(n:Nat)(t:TGs):TG:=fun v σ H Q=>∃a xs,v=.ref a/\SqT K H a xs/\xs.length=n/\t xs σ H Q
theorem xQ{es:List Expr}{k:Nat}{t:TGs}{n:Nat}(hc:X.calm=true)(h:PGs X es t)
  (hn:(assignEach es X.env).length=n:=by rfl) (hst:(assignEach es X.env).findIdx? (·.1)=none:=by rfl):PG X (.Tuple es k pos) (Bb X.K n t):=by
 intro pins s σ H v u Q I r hw;obtain⟨a,xs,e1,hq,hl,hw⟩:=hw;subst e1;cases r;obtain⟨its,rv,ht,hz⟩:=I.tuple hq;refine assign_Tuple_tuple (I.ok.hd hc) ht (by simp[hn,<-hl,rv.length]) hst fun h' hx=>?_;have I1:Inv X pins σ H {s with heap:=h' }:=I.kept (t':=s.toks) fun b o e=>hx b o (Nat.ne_of_lt (Heap.lt_size e)) e;exact h pins _ σ H xs _ Q I1 (by simpa using rv) hw
noncomputable def Bc(to ti:TE)(t:qU):TG:=fun v σ H Q=>to σ H fun o H1=>ti σ H1 fun i H2=>t o i v H2 fun H3=>Q σ H3
theorem sC{o i:Expr}{to ti:TE}{t:qU}(ho:PE X o to)(hi:PE X i ti)(hs:iQ X t)
  (ha:∀v,assign (.Subscript o i pos) X.env v=(do
   let ov <-holding [v] (eval o X.env)
   let iv <-holding [v,ov] (eval i X.env)
   standAt pos
   holding [v,ov,iv] (setItem ov iv v)
   release [v,ov,iv] []):=by intro _;rfl):PG X (.Subscript o i pos) (Bc to ti t):=by
 intro pins s σ H v u Q I r h;rw[ha];refine wpAny_bind (wpAny_holding (thn (ho pins s σ H _ I h) fun ov s1 ⟨x,H1,I1,r1,q1⟩=>?_));refine wpAny_bind (wpAny_holding (thn (hi pins s1 σ H1 _ I1 q1) fun iv s2 ⟨y,H2,I2,r2,q2⟩=>?_));refine wpAny_bind (wpAny_standAt (wpAny_bind (wpAny_holding (thn (hs pins s2 σ H2 x y v ov iv u _ I2 r1 r2 r q2) fun _ s3 ⟨H3,I3,q3⟩=>?_))));exact wpAny_release ⟨σ,H3,I3,q3⟩
noncomputable def xR(te:TE)(g:TG):TS:=fun D σ H=>te σ H fun x H1=>g x σ H1 D.nx
theorem oe{tg e:Expr}{te:TE}{g:TG}(he:PE X e te)(hg:PG X tg g)(hs:swapsWithSole [tg] e pos.line X.env=pure false:=by rfl)(hw:swappedStores [tg] e X.env=pure none:=by rfl)
  (h1:(assignEach [tg] X.env).map (·.2)=[assign tg X.env]:=by rfl):PS X (.Assign [tg] e pos) (xR te g):=by
 intro pins s σ H D I h;refine wpAny_Assign_stores (thn (he pins s σ H _ I h) fun v s1 ⟨x,H1,I1,r1,q1⟩=>?_) hs hw;rw[h1];exact thn (hg pins s1 σ H1 x v _ I1 r1 q1) fun _ s2 q=>q
theorem sD{i:Nat}{x:Str}{e:Expr}{te:TE}{pos':Pos}(hN:X.N.Nodup)(hi:X.N[i]?=some x)(hx:Loc X.env.scope x)(he:PE X e te)(hs:swapsWith e (some (.Name x pos')) pos.line X.env=pure false:=by rfl)(hf:X.fn x=true\/X.env.scope.names.lookup x=some .local:=by first|exact .inl rfl|exact .inr rfl|assumption):
  PS X (.Assign [.Name x pos'] e pos) (xR te (pR i)):=by
 intro pins s σ H D I h;refine wpAny_Assign_Name (thn (he pins s σ H _ I h) fun v s1 ⟨y,H1,I1,r1,q1⟩=>?_) hs;exact mK I1 hN hi hx r1 (fun s2 I2=>⟨_,H1,I2,q1⟩) hf
noncomputable def zI(to ti te:TE)(tget:V->V->Hp->VK->Prop)(tip:TIp)(tset:qU):TS:=fun D σ H=>to σ H fun o H1=>ti σ H1 fun i H2=>tget o i H2 fun x H3=>te σ H3 fun y H4=>tip x y H4 fun z H5=>tset o i z H5 fun H6=>D.nx σ H6
noncomputable def zJ(X:Cx)(t:V->V->Hp->VK->Prop):Prop :=
 ∀(pins:List (Addr×Obj)) (s:Shared) (σ:St) (H:Hp) (o i:V) (ov iv:Value) (Q:VK),Inv X pins σ H s->RelV o ov->RelV i iv->t o i H Q ->
  wpAny (model X.prog X.w) X.A (getItem ov iv) (EP X pins σ Q) X.xe s
theorem u_{o i e:Expr}{to ti te:TE}{tget:V->V->Hp->VK->Prop}{tip:TIp}{tset:qU}{op:Operator}{tpos:Pos}(ho:PE X o to)(hi:PE X i ti)(hg:zJ X tget)(he:PE X e te)(hp:PIp X op tip)(hs:iQ X tset)
  (ha:∀ov iv new,augStore i ov iv new=(do holding [new,ov,iv] (setItem ov iv new);release [new,ov,iv] [];pure .next):=by intros;rfl):PS X (.AugAssign (.Subscript o i tpos) op e pos) (zI to ti te tget tip tset):=by
 intro pins s σ H D I h;refine wpAny_AugAssign_SubscriptAny (thn (ho pins s σ H _ I h) fun ov s1 ⟨x1,H1,I1,r1,q1⟩=>?_) ha;refine thn (hi pins s1 σ H1 _ I1 q1) fun iv s2 ⟨x2,H2,I2,r2,q2⟩=>?_;refine thn (hg pins s2 σ H2 x1 x2 ov iv _ I2 r1 r2 q2) fun old s3 ⟨x3,H3,I3,r3,q3⟩=>?_;refine thn (he pins s3 σ H3 _ I3 q3) fun v s4 ⟨x4,H4,I4,r4,q4⟩=>?_;refine thn (hp pins s4 σ H4 x3 x4 old v _ I4 r3 r4 q4) fun new s5 ⟨x5,H5,I5,r5,q5⟩=>?_;exact thn (hs pins s5 σ H5 x1 x2 x5 ov iv new _ I5 r1 r2 r5 q5) fun _ s6 ⟨H6,I6,q6⟩=>⟨σ,H6,I6,q6⟩
noncomputable def ipI(f:Int->Int->Int):TIp:=fun x y H Q=>∃i j,x=.int i/\y=.int j/\Q (.int (f i j)) H
theorem xS:PIp X .Add (ipI fun i j=>i+j):=by
 intro pins s σ H x y v u Q I r1 r2 h;obtain⟨i,j,e1,e2,q⟩:=h;subst e1;subst e2;obtain⟨t,rfl⟩:=r1;obtain⟨t',rfl⟩:=r2;exact iadd_int ⟨.int _,H,I.tok _,⟨_,rfl⟩,q⟩
theorem xT:PIp X .Sub (ipI fun i j=>i - j):=by
 intro pins s σ H x y v u Q I r1 r2 h;obtain⟨i,j,e1,e2,q⟩:=h;subst e1;subst e2;obtain⟨t,rfl⟩:=r1;obtain⟨t',rfl⟩:=r2;exact isub_int ⟨.int _,H,I.tok _,⟨_,rfl⟩,q⟩
end
section
variable{X:Cx}{pos:Pos}
noncomputable def xU(c:TT)(tb:TS):TS:=fun D σ H=>∃W:Nat->St->Hp->Prop,(∃m,W m σ H)/\∀m σ H,W m σ H ->
 c σ H fun b H1=>if b=true then ∃N:St->Hp->Prop,(∀σ' H',N σ' H'->∃m',m'<m/\W m' σ' H')/\tb {D with nx:=N,ct:=N,bk:=D.nx} σ H1 else D.nx σ H1
theorem sE{c:Expr}{body:List Stmt}{tc:TT}{tb:TS}(hp:PassesOwn (model X.prog X.w) X.A X.env X.xe)(hc:PT X c tc)(hb:PSs X body tb):PS X (.While c body [] pos) (xU tc tb):=by
 intro pins s σ H D I h;obtain⟨W,⟨m0,w0⟩,turn⟩:=h;refine wpAny_While (codeAny_whileLoop (fun n s'=>∃σ' H',Inv X pins σ' H' s'/\W n σ' H') ?_ m0 ⟨σ,H,I,w0⟩);rintro n s1 ⟨σ1,H1,I1,w1⟩;refine wpAny_passesOwn hp (thn (hc pins s1 σ1 H1 _ I1 (turn n σ1 H1 w1)) fun b s2 ⟨H2,I2,q2⟩=>?_);cases b with
 |true =>
  obtain⟨N,hN,q2⟩:=q2;rw[if_pos rfl];refine wpAny_passesOwn hp (thn (hb pins s2 σ1 H2 _ I2 q2) fun f s3 q3=>?_);cases f with
  |next =>
   obtain⟨σ3,H3,I3,n3⟩:=q3;obtain⟨m',hm,w3⟩:=hN σ3 H3 n3;exact⟨m',hm,σ3,H3,I3,w3⟩
  |cont =>
   obtain⟨σ3,H3,I3,n3⟩:=q3;obtain⟨m',hm,w3⟩:=hN σ3 H3 n3;exact⟨m',hm,σ3,H3,I3,w3⟩
  |brk=>exact q3
  |ret v=>exact q3
 |false =>
  rw[if_neg Bool.false_ne_true];exact wpAny_execs_nil ⟨σ1,H2,I2,q2⟩
end
structure It where
 go:Nat->Hp->Prop
 yld:Nat->Hp->V->Hp->Prop
 stop:Nat->Hp->Prop
noncomputable def fK(X:Cx)(pins:List (Addr×Obj))(H:Hp)(b:Addr):Prop :=
 H b=none/\b≠X.env.locals/\b∉X.fs/\(b∈X.ex\/X.s₀.heap.objs.size<=b)/\(∀x c,X.env.cells.lookup x=some c->c≠b)/\∀p∈X.pn++pins,p.1≠b
theorem Inv.vb{X:Cx}{pins:List (Addr×Obj)}{σ:St}{H H':Hp}{s:Shared}{b:Addr}(I:Inv X pins σ H s)(hb:s.heap.objs.size<=b)(hn:H' b=none):fK X pins H' b:=by
 refine⟨hn,Nat.ne_of_gt (Nat.lt_of_lt_of_le I.lt hb),I.zw hb,.inr (Nat.le_trans I.sz hb),fun x c e z=>?_,fun p hp z=>?_⟩
 ·obtain⟨v,q⟩:=I.cell x c e;exact absurd (Nat.lt_of_lt_of_le q.lt (by rw[z];exact hb)) (Nat.lt_irrefl _)
 ·exact absurd (Nat.lt_of_lt_of_le (Heap.lt_size (I.pin p hp).1) (by rw[z];exact hb)) (Nat.lt_irrefl _)
structure Turn(P:Program)(w:World)(K:PySem.W.Frag)(tg:Expr)(J:It)(fp:List Addr)(it:Addr)(tn:Nat->Heap->Prop):Prop where
 mem:it∈fp
 obj:∀i h,tn i h->∀b∈fp,∃o,h.get? b=some o/\∀v,o.data≠.cell v
 keep:∀i h h',tn i h->(∀b∈fp,∀o,h.get? b=some o->h'.get? b=some o)->tn i h'
 item:∀(X:Cx),X.prog=P->X.w=w->X.K=K->X.calm=true->∀(i:Nat) (pins:List (Addr×Obj)) (s:Shared) (σ:St) (H:Hp) (E:Value->Shared->Prop),Inv X pins σ H s->(∀b∈fp,fK X pins H b)->tn i s.heap->J.go i H ->
  wpAny (model P w) X.A (pyNext (.ref it)) (fun r s1=>∃u,r=some u /\
   wpAny (model P w) X.A (letOwnedTupleGo tg (.ref it) u) (fun _ s2=>∃x H',Inv X pins σ H' s2/\RelV x u/\J.yld i H x H'/\tn (i+1) s2.heap/\∀b∈fp,H' b=none) E s1) E s
 done:∀(X:Cx),X.prog=P->X.w=w->X.K=K->X.calm=true->∀(i:Nat) (pins:List (Addr×Obj)) (s:Shared) (σ:St) (H:Hp) (E:Value->Shared->Prop),Inv X pins σ H s->(∀b∈fp,fK X pins H b)->tn i s.heap->J.stop i H ->
  wpAny (model P w) X.A (pyNext (.ref it)) (fun r s1=>r=none/\Inv X pins σ H s1) E s
 self:∀(A:Around) (i:Nat) (s:Shared) (Q:Value->Shared->Prop) (E:Value->Shared->Prop),tn i s.heap->Q (.ref it) s->wpAny (model P w) A (pyIter (.ref it)) Q E s
noncomputable abbrev TI:=St->Hp->(It->Hp->Prop)->Prop
noncomputable def PIE(X:Cx)(pins:List (Addr×Obj))(σ:St)(tg:Expr)(R:It->Hp->Prop)(itv:Value)(s2:Shared):Prop :=
 ∃(it:Addr) (fp:List Addr) (tn:Nat->Heap->Prop) (J:It) (H':Hp),itv=.ref it/\Inv X pins σ H' s2/\Turn X.prog X.w X.K tg J fp it tn/\tn 0 s2.heap/\(∀b∈fp,fK X pins H' b)/\R J H'
noncomputable def PI(X:Cx)(tg iter:Expr)(wi:TI):Prop :=
 ∀(pins:List (Addr×Obj)) (s:Shared) (σ:St) (H:Hp) (R:It->Hp->Prop),Inv X pins σ H s->wi σ H R ->
  wpAny (model X.prog X.w) X.A (eval iter X.env) (fun v s1=>wpAny (model X.prog X.w) X.A (pyIter v) (PIE X pins σ tg R) X.xe s1) X.xe s
theorem sF{M:Model}{A:Around}{E:Value->Shared->Prop}{s:Shared}{tg:Expr}{it:Addr}{u:Value}{o:Obj}{n:String}{vs:Array Value}{Q:Unit->Shared->Prop}(ho:s.heap.get? it=some o)(hc:o.cls=.type n)(hd:o.data=.fields vs)
    (hn:["enumerate","zip","dict_itemiterator","dict_reverseitemiterator","odict_iterator","itertools.zip_longest","itertools.pairwise"].contains n=false) (hQ:Q () s):wpAny M A (letOwnedTupleGo tg (.ref it) u) Q E s:=by
  unfold letOwnedTupleGo;cases tg<;>first
    | exact wpAny_pure hQ
    | (cases u<;>first
        | exact wpAny_pure hQ
        | (refine wpAny_bind (wpAny_load ho ?_)
           rw[hc,hd];show wpAny M A (if (["enumerate","zip","dict_itemiterator","dict_reverseitemiterator","odict_iterator","itertools.zip_longest","itertools.pairwise"].contains n&&vs[0]?==some (rawInt _))=true then _ else _) Q E s;rw[if_neg (by intro h;rw[hn,Bool.false_and]at h;cases h)];exact wpAny_pure hQ))
noncomputable def Itl(K:PySem.W.Frag)(a:Addr):It :=
 ⟨fun i H=>∃xs x,SqL K H a xs/\xs[i]?=some x,fun i H x H'=>H'=H/\∀xs,SqL K H a xs->xs[i]?=some x,fun i H=>∃xs,SqL K H a xs/\xs.length<=i⟩
noncomputable def Itt(K:PySem.W.Frag)(a:Addr):It :=
 ⟨fun i H=>∃xs x,SqT K H a xs/\xs[i]?=some x,fun i H x H'=>H'=H/\∀xs,SqT K H a xs->xs[i]?=some x,fun i H=>∃xs,SqT K H a xs/\xs.length<=i⟩
noncomputable def Itr(lo:Int)(n:Nat):It:=⟨fun i _=>i<n,fun i H x H'=>H'=H/\x=.int (lo+i),fun i _=>n<=i⟩
theorem qV{P:Program}{w:World}{K:PySem.W.Frag}{tg:Expr}(a it:Addr):Turn P w K tg (Itl K a) [it] it (fun i h=>h.IsListIter it a i) where
 mem:=by simp
 obj:=fun i h st b hb=>by
  have e:b=it:=by simpa using hb
  subst e;obtain⟨o,e,c,d⟩:=st;exact⟨o,e,fun v z=>by rw[d]at z;cases z⟩
 keep:=fun i h h' st k=>st.at fun o e=>k it (by simp) o e
 item:=by
  intro X hP hw hK hc i pins s σ H E I hf st hg;subst hP hw hK;obtain⟨xs,x,hq,hx⟩:=hg;obtain⟨its,rv,p,hz⟩:=I.list hq;obtain⟨u,hu,ru⟩:=rv.get hx;obtain⟨f0,f1,f2,f3,f4,f5⟩:=hf it (by simp);refine wpAny_pyNext_list_item st p.isList (x:=u) (by simpa using hu) fun h' st' sb=>?_;have I1:Inv X pins σ H {s with heap:=h' }:=I.turned (t':=s.toks) (fun b o hb e=>(sb.2 b hb).trans e) f0 f1 f3 f4 f5;obtain⟨o,e,c,d⟩:=id st';exact⟨u,rfl,sF (s:={s with heap:=h' }) e c d (by decide) ⟨x,H,I1,ru,⟨rfl,fun ys hy=>by rw[I.iP hy hq];exact hx⟩,st',fun b hb=>(hf b hb).1⟩⟩
 done:=by
  intro X hP hw hK hc i pins s σ H E I hf st hg;subst hP hw hK;obtain⟨xs,hq,hx⟩:=hg;obtain⟨its,rv,p,hz⟩:=I.list hq;obtain⟨f0,f1,f2,f3,f4,f5⟩:=hf it (by simp);have hl:=rv.length;exact wpAny_pyNext_list_end (I.ok.hd hc) st p.isList (by simp;omega) fun h' eb=>⟨rfl,I.turned (t':=s.toks) (fun b o hb e=>eb b o hb e) f0 f1 f3 f4 f5⟩
 self:=fun _ _ _ _ _ st h=>wpAny_pyIter_listiter st h
theorem og{P:Program}{w:World}{K:PySem.W.Frag}{tg:Expr}(a it:Addr):Turn P w K tg (Itt K a) [it] it (fun i h=>h.IsTupleIter it a i) where
 mem:=by simp
 obj:=fun i h st b hb=>by
  have e:b=it:=by simpa using hb
  subst e;obtain⟨o,e,c,d⟩:=st;exact⟨o,e,fun v z=>by rw[d]at z;cases z⟩
 keep:=fun i h h' st k=>st.at fun o e=>k it (by simp) o e
 item:=by
  intro X hP hw hK hc i pins s σ H E I hf st hg;subst hP hw hK;obtain⟨xs,x,hq,hx⟩:=hg;obtain⟨its,rv,p,hz⟩:=I.tuple hq;obtain⟨u,hu,ru⟩:=rv.get hx;obtain⟨f0,f1,f2,f3,f4,f5⟩:=hf it (by simp);refine wpAny_pyNext_tuple_item st (show s.heap.IsTuple a its.toArray from p) (x:=u) (by simpa using hu) fun h' st' sb=>?_;have I1:Inv X pins σ H {s with heap:=h' }:=I.turned (t':=s.toks) (fun b o hb e=>(sb.2 b hb).trans e) f0 f1 f3 f4 f5;obtain⟨o,e,c,d⟩:=id st';exact⟨u,rfl,sF (s:={s with heap:=h' }) e c d (by decide) ⟨x,H,I1,ru,⟨rfl,fun ys hy=>by rw[I.eS hy hq];exact hx⟩,st',fun b hb=>(hf b hb).1⟩⟩
 done:=by
  intro X hP hw hK hc i pins s σ H E I hf st hg;subst hP hw hK;obtain⟨xs,hq,hx⟩:=hg;obtain⟨its,rv,p,hz⟩:=I.tuple hq;obtain⟨f0,f1,f2,f3,f4,f5⟩:=hf it (by simp);have hl:=rv.length;exact wpAny_pyNext_tuple_end (I.ok.hd hc) st (show s.heap.IsTuple a its.toArray from p) (by simp;omega) fun h' eb=>⟨rfl,I.turned (t':=s.toks) (fun b o hb e=>eb b o hb e) f0 f1 f3 f4 f5⟩
 self:=fun _ _ _ _ _ st h=>wpAny_pyIter_tupleiter st h
theorem oh{P:Program}{w:World}{K:PySem.W.Frag}{tg:Expr}(it:Addr)(lo:Int)(n:Nat):Turn P w K tg (Itr lo n) [it] it (fun i h=>IsRangeIter h it (lo+(i:Nat) * 1) ((n:Int) - (i:Nat)) 1) where
 mem:=by simp
 obj:=fun i h st b hb=>by
  have e:b=it:=by simpa using hb
  subst e;exact⟨_,st,fun v z=>by
   have z':Data.fields _=Data.cell v:=z;cases z'⟩
 keep:=fun i h h' st k=>k it (by simp) _ st
 item:=by
  intro X hP hw hK hc i pins s σ H E I hf st hg;subst hP hw hK;obtain⟨f0,f1,f2,f3,f4,f5⟩:=hf it (by simp);have W:=Walks.range (prog:=X.prog) (w:=X.w) (I.ok.hd hc) it lo 1 n;refine W.item i s _ _ hg st fun v h' tk hv st' kk=>?_;obtain⟨t,rfl⟩:=hv;have I1:Inv X pins σ H {s with heap:=h',toks:=tk}:=I.turned (fun b o hb e=>kk b o (by simpa using hb) e) f0 f1 f3 f4 f5;refine⟨_,rfl,sF (s:={s with heap:=h',toks:=tk}) (n:="range_iterator") st' rfl rfl (by decide) ⟨.int (lo+i),H,I1,⟨t,?_⟩,⟨rfl,rfl⟩,st',fun b hb=>(hf b hb).1⟩⟩;rw[Int.mul_one]
 done:=by
  intro X hP hw hK hc i pins s σ H E I hf st hg;subst hP hw hK;obtain⟨f0,f1,f2,f3,f4,f5⟩:=hf it (by simp);exact wpAny_pyNext_range_end (I.ok.hd hc) st (by have:n<=i:=hg;omega) fun h' eb=>⟨rfl,I.turned (t':=s.toks) (fun b o hb e=>eb b o hb e) f0 f1 f3 f4 f5⟩
 self:=fun _ _ _ _ _ st h=>wpAny_pyIter_rangeiter st h
end L2
namespace L2
open PySem PySem.Spec PyProof.Rows
section
variable{X:Cx}{tg:Expr}
noncomputable def zK(K:PySem.W.Frag)(tl:TE):TI:=fun σ H R=>tl σ H fun x H1=>∃a,x=.ref a/\(∃xs,SqL K H1 a xs)/\R (Itl K a) H1
noncomputable def Bd(K:PySem.W.Frag)(tl:TE):TI:=fun σ H R=>tl σ H fun x H1=>∃a,x=.ref a/\(∃xs,SqT K H1 a xs)/\R (Itt K a) H1
theorem vc{l:Expr}{tl:TE}(hl:PE X l tl):PI X tg l (zK X.K tl):=by
 intro pins s σ H R I h;refine thn (hl pins s σ H _ I h) fun v s1 ⟨x,H1,I1,r1,q1⟩=>?_;obtain⟨a,e,⟨xs,hq⟩,q⟩:=q1;subst e;cases r1;obtain⟨its,rv,p,hz⟩:=I1.list hq;refine wpAny_pyIter_list p.isList ?_;refine⟨s1.heap.objs.size,[s1.heap.objs.size],_,_,H1,rfl,I1.kept (t':=s1.toks) fun b o e=>Heap.get?_push_of_some _ e,qV a _,⟨_,Heap.get?_push_size _ rfl,rfl,rfl⟩,fun b hb=>?_,q⟩;have e:b=s1.heap.objs.size:=by simpa using hb
 subst e;exact I1.vb (Nat.le_refl _) (I1.hok.fresh (Nat.le_refl _))
theorem xV{l:Expr}{tl:TE}(hl:PE X l tl):PI X tg l (Bd X.K tl):=by
 intro pins s σ H R I h;refine thn (hl pins s σ H _ I h) fun v s1 ⟨x,H1,I1,r1,q1⟩=>?_;obtain⟨a,e,⟨xs,hq⟩,q⟩:=q1;subst e;cases r1;obtain⟨its,rv,p,hz⟩:=I1.tuple hq;refine wpAny_pyIter_tuple (show s1.heap.IsTuple a its.toArray from p) ?_;refine⟨s1.heap.objs.size,[s1.heap.objs.size],_,_,H1,rfl,I1.kept (t':=s1.toks) fun b o e=>Heap.get?_push_of_some _ e,og a _,⟨_,Heap.get?_push_size _ rfl,rfl,rfl⟩,fun b hb=>?_,q⟩;have e:b=s1.heap.objs.size:=by simpa using hb
 subst e;exact I1.vb (Nat.le_refl _) (I1.hok.fresh (Nat.le_refl _))
theorem sG{pins:List (Addr×Obj)}{σ:St}{H:Hp}{s:Shared}{R:It->Hp->Prop}{E:Value->Shared->Prop}{lo hi:Int}{t u v:Tok}{tk:Nat}(I:Inv X pins σ H s)(h1:-(2 ^ 62)<=lo)(h2:lo<2 ^ 62)(h3:-(2 ^ 62)<=hi)(h4:hi<2 ^ 62)
  (q:R (Itr lo (hi - lo).toNat) H):wpAny (model X.prog X.w) X.A (pyIter (.ref s.heap.objs.size)) (PIE X pins σ tg R) E {s with heap:=s.heap.push {cls:=.type "range",data:=.fields #[.int lo t,.int hi u,.int 1 v]},toks:=tk}:=by
 refine wpAny_pyIter_range (IsRange.new ..) (small_one h1 h2 h3 h4) ?_;have I1:Inv X pins σ H {s with heap:=s.heap.push {cls:=.type "range",data:=.fields #[.int lo t,.int hi u,.int 1 v]},toks:=tk}:=I.kept fun b o e=>Heap.get?_push_of_some _ e;refine⟨(s.heap.push {cls:=.type "range",data:=.fields #[.int lo t,.int hi u,.int 1 v]}).objs.size,[(s.heap.push {cls:=.type "range",data:=.fields #[.int lo t,.int hi u,.int 1 v]}).objs.size],_,_,H,rfl,
  I1.kept (t':=tk) fun b o e=>Heap.get?_push_of_some _ e,oh _ lo (hi - lo).toNat,?_,fun b hb=>?_,q⟩
 ·have e1:lo+((0:Nat):Int) * 1=lo:=by simp
  have e2:(((hi - lo).toNat:Nat):Int) - ((0:Nat):Int)=Builtin.Range.rangeSize lo hi 1:=by rw[rangeSize_one];split<;>omega
  show IsRangeIter _ _ (lo+((0:Nat):Int) * 1) ((((hi - lo).toNat:Nat):Int) - ((0:Nat):Int)) 1;rw[e1,e2];exact Heap.get?_push_size _ rfl
 ·have e:b=(s.heap.push {cls:=.type "range",data:=.fields #[.int lo t,.int hi u,.int 1 v]}).objs.size:=by simpa using hb
  subst e;exact I1.vb (Nat.le_refl _) (I1.hok.fresh (Nat.le_refl _))
noncomputable def zL(ta:TA):TI:=fun σ H R=>ta σ H fun vs H1=>∃j:Int,vs=[.int j]/\-(2 ^ 62)<=j/\j<2 ^ 62/\R (Itr 0 j.toNat) H1
theorem qW{a:Expr}{ta:TA}{p pos:Pos}(hg:Gl X "range")(hm:X.mg "range"=none)(ha:PA X [a] ta)(hs:starEach [a] X.env=[(false,eval a X.env)]:=by rfl):PI X tg (.Call (.Name "range" p) [a] [] pos) (zL ta):=by
 intro pins s σ H R I h;refine Call_ (dz I hg hm boot_range (PyProof.Rows.callWith_type1 (thn (ha pos pins s σ H _ I h) fun us s1 ⟨vs,H1,I1,r1,q1⟩=>?_) hs rfl));obtain⟨j,e,q1,q2,q⟩:=q1;subst e;cases r1 with
 |cons r rr =>
  cases rr;obtain⟨t,rfl⟩:=r;exact call_range_1 (sG I1 (by omega) (by omega) q1 q2 (by simpa using q))
noncomputable def Be(wi:TI)(g:TG)(tb:TS):TS:=fun D σ H=>wi σ H fun J H1=>∃W:Nat->Nat->St->Hp->Prop,(∃m,W 0 m σ H1)/\∀i m σ H,W i m σ H ->
 (J.stop i H/\D.nx σ H)\/(J.go i H/\∃N:St->Hp->Prop,(∀σ' H',N σ' H'->∃m',m'<m/\W (i+1) m' σ' H')/\∀x H',J.yld i H x H'->g x σ H' fun σ2 H2=>tb {D with nx:=N,ct:=N,bk:=D.nx} σ2 H2)
noncomputable def iR(fp:List Addr)(h:Heap):List (Addr×Obj):=fp.filterMap fun b=>(h.get? b).map fun o=>(b,o)
theorem dA{fp:List Addr}{h:Heap}{b:Addr}{o:Obj}(hb:b∈fp)(e:h.get? b=some o):(b,o)∈iR fp h:=List.mem_filterMap.mpr ⟨b,hb,by rw[e];rfl⟩
theorem qX{fp:List Addr}{h:Heap}{p:Addr×Obj}(hp:p∈iR fp h):p.1∈fp/\h.get? p.1=some p.2:=by
 obtain⟨b,hb,e⟩:=List.mem_filterMap.mp hp;cases q:h.get? b with
 |none=>rw[q]at e;cases e
 |some o =>
  rw[q]at e;have e':(b,o)=p:=Option.some.inj e;subst e';exact⟨hb,q⟩
theorem Inv.pinned{pins:List (Addr×Obj)}{σ:St}{H:Hp}{s:Shared}{fp:List Addr}(I:Inv X pins σ H s)(hf:∀b∈fp,fK X pins H b)(ho:∀b∈fp,∃o,s.heap.get? b=some o/\∀v,o.data≠.cell v):Inv X (pins++iR fp s.heap) σ H s :=
 I.eR fun p hp=>(List.mem_append.mp hp).elim (fun z=>I.pin p (List.mem_append_right _ z)) fun z=>by
  obtain⟨hb,e⟩:=qX z;obtain⟨f0,f1,f2,_⟩:=hf p.1 hb;obtain⟨o,e',d⟩:=ho p.1 hb;rw[e]at e';cases e';exact⟨e,f0,f1,f2,d⟩
theorem Inv.iS{pins pl:List (Addr×Obj)}{σ:St}{H:Hp}{s:Shared}(I:Inv X (pins++pl) σ H s):Inv X pins σ H s:=I.eR fun p hp=>I.pin p (List.mem_append_right _ (List.mem_append_left _ hp))
theorem xW{iter:Expr}{body:List Stmt}{wi:TI}{g:TG}{tb:TS}{pos:Pos}(hp:PassesOwn (model X.prog X.w) X.A X.env X.xe)(hc:X.calm=true)(hi:PI X tg iter wi)(hg:PG X tg g)(hb:PSs X body tb)
  (hs:∀x,foldedSetIterable iter X.env x=pure x:=by intro _;rfl):PS X (.For tg iter body [] pos) (Be wi g tb):=by
 intro pins s σ H D I h;refine wpAny_For (thn (hi pins s σ H _ I h) fun v s1 h1=>thn h1 fun itv s2 h2=>?_) hs;obtain⟨it,fp,tn,J,H2,e,I2,T,st2,f2,W,⟨m0,w0⟩,turn⟩:=h2;subst e;have stat:∀{H':Hp},(∀b∈fp,H' b=none)->∀b∈fp,fK X pins H' b:=fun hn b hb=>⟨hn b hb,(f2 b hb).2⟩
 refine codeAny_forLoop_any (fun n s'=>∃i σ' H',Inv X pins σ' H' s'/\tn i s'.heap/\(∀b∈fp,H' b=none)/\W i n σ' H') ?_ m0 ⟨0,σ,H2,I2,st2,fun b hb=>(f2 b hb).1,w0⟩;rintro n s3 ⟨i,σ3,H3,I3,st3,fr3,w3⟩;rcases turn i n σ3 H3 w3 with⟨stop,qn⟩|⟨go,N,hN,step⟩
 ·refine wpAny_passesOwn hp (thn (T.done X rfl rfl rfl hc i pins s3 σ3 H3 X.xe I3 (stat fr3) st3 stop) fun r s4 ⟨hr,I4⟩=>?_);subst hr;exact wpAny_execs_nil ⟨σ3,H3,I4,qn⟩
 ·refine wpAny_passesOwn hp (thn (T.item X rfl rfl rfl hc i pins s3 σ3 H3 X.xe I3 (stat fr3) st3 go) fun r s4 ⟨u,hr,h4⟩=>?_);subst hr;refine wpAny_passesOwn hp (thn h4 fun _ s5 ⟨x,H5,I5,r5,y5,st5,fr5⟩=>?_);have I5':=I5.pinned (stat fr5) (T.obj _ _ st5);refine wpAny_passesOwn hp (thn (hg _ s5 σ3 H5 x u _ I5' r5 (step x H5 y5)) fun _ s6 ⟨σ6,H6,I6,q6⟩=>?_);refine wpAny_passesOwn hp (thn (hb _ s6 σ6 H6 _ I6 q6) fun f s7 q7=>?_);have again:∀{σ7:St} {H7:Hp},Inv X (pins++iR fp s5.heap) σ7 H7 s7->N σ7 H7->∃m,m<n/\∃i σ' H',Inv X pins σ' H' s7/\tn i s7.heap/\(∀b∈fp,H' b=none)/\W i m σ' H':=fun {σ7 H7} I7 n7=>by
   obtain⟨m',hm,w7⟩:=hN σ7 H7 n7;refine⟨m',hm,i+1,σ7,H7,I7.iS,T.keep _ _ _ st5 fun b hb o e=>(I7.pin (b,o) (List.mem_append_right _ (List.mem_append_right _ (dA hb e)))).1,fun b hb=>?_,w7⟩;obtain⟨o,e,d⟩:=T.obj _ _ st5 b hb;exact(I7.pin (b,o) (List.mem_append_right _ (List.mem_append_right _ (dA hb e)))).2.1
  cases f with
  |next=>obtain⟨σ7,H7,I7,n7⟩:=q7;exact again I7 n7
  |cont=>obtain⟨σ7,H7,I7,n7⟩:=q7;exact again I7 n7
  |brk=>obtain⟨σ7,H7,I7,q7⟩:=q7;exact⟨σ7,H7,I7.iS,q7⟩
  |ret v=>obtain⟨x7,σ7,H7,I7,r7,q7⟩:=q7;exact⟨x7,σ7,H7,I7.iS,r7,q7⟩
end
end L2
namespace L2
open PySem PySem.Spec PyProof.Rows
noncomputable abbrev R2:=V->V->Hp->VK->Prop
noncomputable def OpR(X:Cx)(f:Value->Value->Sem Value)(r:R2):Prop :=
 ∀(pins:List (Addr×Obj)) (s:Shared) (σ:St) (H:Hp) (x y:V) (v u:Value) (Q:VK),Inv X pins σ H s->RelV x v->RelV y u->r x y H Q ->
  wpAny (model X.prog X.w) X.A (f v u) (EP X pins σ Q) X.xe s
noncomputable def fL(X:Cx)(f:Value)(r:List V->Hp->VK->Prop):Prop :=
 ∀(pins:List (Addr×Obj)) (s:Shared) (σ:St) (H:Hp) (xs:List V) (us:List Value) (Q:VK),Inv X pins σ H s->Vals xs us->r xs H Q ->
  wpAny (model X.prog X.w) X.A (call f us) (EP X pins σ Q) X.xe s
noncomputable def Bg(X:Cx)(r:V->Hp->(Bool->Hp->Prop)->Prop):Prop :=
 ∀(pins:List (Addr×Obj)) (s:Shared) (σ:St) (H:Hp) (x:V) (v:Value) (Q:Bool->Hp->Prop),Inv X pins σ H s->RelV x v->r x H Q ->
  wpAny (model X.prog X.w) X.A (truthy v) (TP X pins σ Q) X.xe s
noncomputable def rI(C:Int->Int->Prop)(g:Int->Int->V):R2:=fun x y H Q=>∃i j,x=.int i/\y=.int j/\C i j/\Q (g i j) H
noncomputable def rI0(g:Int->Int->V):R2:=fun x y H Q=>∃i j,x=.int i/\y=.int j/\Q (g i j) H
section
variable{X:Cx}{a b c:Expr}{ta tb tc:TE}{pos:Pos}
theorem opI{f:Value->Value->Sem Value}{C:Int->Int->Prop}{g:Int->Int->Int}
  (rule:∀(i j:Int) (t u:Tok) (s:Shared) (Q:Value->Shared->Prop) (E:Value->Shared->Prop),C i j->Q (.int (g i j) s.toks) {s with toks:=s.toks+1}->wpAny (model X.prog X.w) X.A (f (.int i t) (.int j u)) Q E s) :
  OpR X f (rI C fun i j=>.int (g i j)):=by
 intro pins s σ H x y v u Q I rx ry h;obtain⟨i,j,rfl,rfl,hc,q⟩:=h;obtain⟨t,rfl⟩:=rx;obtain⟨t',rfl⟩:=ry;exact rule i j t t' s _ _ hc ⟨.int (g i j),H,I.tok _,⟨_,rfl⟩,q⟩
theorem zM{f:Value->Value->Sem Value}{g:Int->Int->Int}
  (rule:∀(i j:Int) (t u:Tok) (s:Shared) (Q:Value->Shared->Prop) (E:Value->Shared->Prop),Q (.int (g i j) s.toks) {s with toks:=s.toks+1}->wpAny (model X.prog X.w) X.A (f (.int i t) (.int j u)) Q E s) :
  OpR X f (rI0 fun i j=>.int (g i j)):=by
 intro pins s σ H x y v u Q I rx ry h;obtain⟨i,j,rfl,rfl,q⟩:=h;obtain⟨t,rfl⟩:=rx;obtain⟨t',rfl⟩:=ry;exact rule i j t t' s _ _ ⟨.int (g i j),H,I.tok _,⟨_,rfl⟩,q⟩
theorem xX{f:Value->Value->Sem Value}{g:Int->Int->Bool}
  (rule:∀(i j:Int) (t u:Tok) (s:Shared) (Q:Value->Shared->Prop) (E:Value->Shared->Prop),Q (.bool (g i j)) s->wpAny (model X.prog X.w) X.A (f (.int i t) (.int j u)) Q E s) :
  OpR X f (rI0 fun i j=>.bl (g i j)):=by
 intro pins s σ H x y v u Q I rx ry h;obtain⟨i,j,rfl,rfl,q⟩:=h;obtain⟨t,rfl⟩:=rx;obtain⟨t',rfl⟩:=ry;exact rule i j t t' s _ _ ⟨.bl (g i j),H,I,rfl,q⟩
noncomputable def Bh(i j:Int):Prop:=0<j/\j<1073741824
noncomputable def Bi(i j:Int):Prop:=0<=j/\j<=1000000/\i.natAbs<2 ^ 64
noncomputable def xY(i j:Int):Prop:=(-(2 ^ 64)<i/\i<2 ^ 64)\/(-(2 ^ 64)<j/\j<2 ^ 64)
theorem xY.ok{i j:Int}(h:xY i j):IntMulOk i j:=by
 rcases h with⟨h1,h2⟩|⟨h1,h2⟩
 ·exact .of_left (intBits_le_64 h1 h2)
 ·exact .of_right (intBits_le_64 h1 h2)
theorem bH:OpR X (binaryOp .Add) (rI0 fun i j=>.int (i+j)):=zM fun _ _ _ _ _ _ _ q=>add_int q
theorem iT:OpR X (binaryOp .Sub) (rI0 fun i j=>.int (i - j)):=zM fun _ _ _ _ _ _ _ q=>sub_int q
theorem iU:OpR X (binaryOp .Mult) (rI xY fun i j=>.int (i * j)):=opI fun _ _ _ _ _ _ _ hc q=>mul_int q hc.ok
theorem vd:OpR X (binaryOp .FloorDiv) (rI Bh fun i j=>.int (i / j)):=opI fun i j _ _ _ _ _ hc q=>by
 have h1:(0:Int)<j:=hc.1;have h2:j<1073741824:=hc.2;exact floordiv_int (by omega) (by rw[Int.fdiv_eq_ediv_of_nonneg i (by omega)];exact q) (.inl (PyProof.noPylong_small (by omega)))
theorem aR:OpR X (binaryOp .Mod) (rI (fun _ j=>0<j) fun i j=>.int (i % j)):=opI fun i j _ _ _ _ _ hc q=>by
 have h1:(0:Int)<j:=hc;exact mod_int' (by omega) (by rw[Int.fmod_eq_emod_of_nonneg i (by omega)];exact q)
theorem lh:OpR X (binaryOp .Pow) (rI Bi fun i j=>.int (i ^ j.toNat)):=opI fun _ _ _ _ _ _ _ hc q=>pow_int_small hc.1 hc.2.1 hc.2.2 q
end
section
variable{X:Cx}{a b c:Expr}{ta tb tc:TE}{pos:Pos}
theorem zN:OpR X (compareOp .Lt) (rI0 fun i j=>.bl (decide (i<j))):=xX fun _ _ _ _ _ _ _ q=>lt_int q
theorem zO:OpR X (compareOp .Gt) (rI0 fun i j=>.bl (decide (j<i))):=xX fun _ _ _ _ _ _ _ q=>gt_int q
theorem zP:OpR X (compareOp .GtE) (rI0 fun i j=>.bl (decide (j<=i))):=xX fun _ _ _ _ _ _ _ q=>ge_int q
noncomputable def zQ(K:PySem.W.Frag)(x:V)(H:Hp)(k:Bool):Prop :=
 match x with
 |.non=>k=false
 |.bl b=>k=b
 |.int i=>k=(i != 0)
 |.str y=>y.length<=sizeLine/\k=((y.length:Int) != 0)
 |.byt y=>y.size<=sizeLine/\k=((y.size:Int) != 0)
 |.ref p=>(∃xs,SqL K H p xs/\k=!xs.isEmpty)\/(∃xs,SqT K H p xs/\k=!xs.isEmpty)\/∃kvs,H p=some (.dK kvs)/\k=!kvs.isEmpty
 |_=>False
theorem oi{κ:Type}{kvs:List (κ×V)}{vs:List (κ×Value)}(r:KV kvs vs):(!vs.isEmpty)=!kvs.isEmpty:=by
 cases r<;>rfl
theorem iV{xs:List V}{its:List Value}(r:Vals xs its):(!its.toArray.isEmpty)=!xs.isEmpty:=by
 cases r<;>simp
theorem eh:(sizeLine:Nat)<2 ^ 63:=by rw[sizeLine_eq];decide
theorem xZ:Bg X (fun x H Q=>∃k,zQ X.K x H k/\Q k H):=by
 intro pins s σ H x v Q I rx h;obtain⟨k,e,q⟩:=h;have hl:=eh;have hs:sizeLine=16777216:=sizeLine_eq;cases x with
 |non =>
  cases rx;have e':k=false:=e;subst e';exact truthy_none ⟨H,I,q⟩
 |bl b =>
  cases rx;have e':k=b:=e;subst e';exact wpAny_truthy_bool ⟨H,I,q⟩
 |int i =>
  obtain⟨t,rfl⟩:=rx;have e':k=(i != 0):=e;subst e';exact PySem.P.truthy_int ⟨H,I,q⟩
 |str y =>
  obtain⟨t,rfl⟩:=rx;obtain⟨hy,e'⟩:y.length<=sizeLine/\k=((y.length:Int) != 0):=e;subst e';exact PySem.P.truthy_str (by omega) ⟨H,I.tok _,q⟩
 |byt y =>
  obtain⟨t,rfl⟩:=rx;obtain⟨hy,e'⟩:y.size<=sizeLine/\k=((y.size:Int) != 0):=e;subst e';exact PySem.W.truthy_bytes (by omega) ⟨H,I.tok _,q⟩
 |ref p =>
  cases rx;have e':(∃xs,SqL X.K H p xs/\k=!xs.isEmpty)\/(∃xs,SqT X.K H p xs/\k=!xs.isEmpty)\/∃kvs,H p=some (.dK kvs)/\k=!kvs.isEmpty:=e;rcases e' with⟨xs,hx,e'⟩|⟨xs,hx,e'⟩|⟨kvs,hx,e'⟩
  ·subst e';obtain⟨its,r,pl,hz⟩:=I.list hx;have hlen:=r.length;exact wpAny_truthy_list pl.isList (by simp only[List.size_toArray];omega) ⟨H,I.tok _,by rw[iV r];exact q⟩
  ·subst e';obtain⟨its,r,pl,hz⟩:=I.tuple hx;have hlen:=r.length;exact truthy_tuple pl (by simp only[List.size_toArray];omega) ⟨H,I.tok _,by rw[iV r];exact q⟩
  ·subst e';obtain⟨hz,hS,vs,r,m⟩:kvs.length<=sizeLine/\(p==sysModules)=false/\∃vs,KV kvs vs/\s.heap.DictOf (aO X.prog X.w) p vs:=I.hok p _ hx;have hlen:kvs.length=vs.length:=Paired.length r;exact wpAny_truthy_dict hS m (by omega) ⟨H,I.tok _,by rw[oi r];exact q⟩
 |_=>exact(show False from e).elim
theorem sH(ha:PE X a ta)(he:∀whole,isTrue a X.env whole=(do let v <-whole;standAt a.pos;holding [v] (truthy v))):
  PT X a (fun σ H Q=>ta σ H fun x H'=>∃k,zQ X.K x H' k/\Q k H'):=by
 intro pins s σ H Q I h;exact isTrue_plain (thn (ha pins s σ H _ I h) fun v s1 ⟨x,H1,I1,r1,q1⟩=>xZ pins s1 σ H1 x v Q I1 r1 q1) (he _)
theorem oj:OpR X (binaryOp .Add) (fun x y H Q=>∃i j,x=.str i/\y=.str j/\i.length+j.length<=sizeLine/\Q (.str (i++j)) H):=by
 intro pins s σ H x y v u Q I rx ry h;obtain⟨i,j,rfl,rfl,hz,q⟩:=h;obtain⟨t,rfl⟩:=rx;obtain⟨t',rfl⟩:=ry;exact add_str (fun t' tk=>⟨.str (i++j),H,I.tok _,⟨_,rfl⟩,q⟩) hz
theorem vals1{x:V}{us:List Value}(r:Vals [x] us):∃u,us=[u]/\RelV x u:=by
 cases r with
 |cons r1 r2=>cases r2;exact⟨_,rfl,r1⟩
theorem vals2{x y:V}{us:List Value}(r:Vals [x,y] us):∃u w',us=[u,w']/\RelV x u/\RelV y w':=by
 cases r with
 |cons r1 r2 =>
  cases r2 with
  |cons r3 r4=>cases r4;exact⟨_,_,rfl,r1,r3⟩
theorem lj:fL X (.type "str") (fun xs H Q=>∃i,xs=[.int i]/\i.natAbs.log2<1920/\Q (.str (toString i)) H):=by
 intro pins s σ H xs us Q I r h;obtain⟨i,rfl,hz,q⟩:=h;obtain⟨u,rfl,t,rfl⟩:=vals1 r;exact PySem.P.str_of_int hz ⟨.str _,H,I.tok _,⟨_,rfl⟩,q⟩
end
end L2
namespace L2
open PySem PySem.Spec PyProof.Rows
section
variable{prog:Program}{w:World}{A:Around}{E:Value->Shared->Prop}{s:Shared}{K:PySem.W.Frag}{x dx C f:Addr}{mA:Str->Option Value}{name:Str}{v:Value}
end
theorem ip.some_of{v:V}{o:Option Value}(r:ip (some v) o):∃u,o=some u/\RelV v u:=by
 cases o with
 |none=>exact(show False from r).elim
 |some u=>exact⟨u,rfl,r⟩
section
variable{P:Program}{w:World}{H H':Hp}{h h':Heap}{a C dx:Addr}{fs fs':List (Str×V)}
end
structure Cls(K:PySem.W.Frag)(C:Addr):Prop where
 pg:PySem.W.plainGet K C Str.empty=true
 hd:PySem.W.hasDictIn K C=true
 po:PySem.W.plainOver K C=true
 sa:PySem.W.findIn K (.ref C) "__setattr__"=some (some (.builtin "object.__setattr__"))
section
variable{X:Cx}{pins:List (Addr×Obj)}{σ:St}{H:Hp}{s:Shared}{a C dx:Addr}{fs:List (Str×V)}{f:Str}{v:V}{A:Around}{E:Value->Shared->Prop}
end
section
variable{X:Cx}{o e value:Expr}{f:Str}{pos pos' tpos:Pos}{ta tv:TE}
end
section
variable{X:Cx}{pins:List (Addr×Obj)}{σ:St}{H:Hp}{s:Shared}{A:Around}{E:Value->Shared->Prop}{Q:Value->Shared->Prop}{c:Value}{b:Bool}
inductive iW(K:PySem.W.Frag)(H:Hp):V->Value->Prop where
 |non:iW K H .non (.type "NoneType")
 |bl (x:Bool):iW K H (.bl x) (.type "bool")
 |int (i:Int):iW K H (.int i) (.type "int")
 |str (x:Str):iW K H (.str x) (.type "str")
 |flt (x:UInt64):iW K H (.flt x) (.type "float")
 |lst {a:Addr} {xs:List V} (e:H a=some (.lst xs)):iW K H (.ref a) (.type "list")
 |frz {a:Addr} {o:Obj} {xs:List V} (e:H a=some (.frz o (.lst xs))):iW K H (.ref a) (.type "list")
 |tup {a:Addr} {xs:List V} (e:H a=some (.tup xs)):iW K H (.ref a) (.type "tuple")
 |dK {a:Addr} {kvs:List (Key×V)} (e:H a=some (.dK kvs)):iW K H (.ref a) (.type "dict")
 |dT {a:Addr} {kvs:List (List Key×V)} (e:H a=some (.dT kvs)):iW K H (.ref a) (.type "dict")
 |ins {a C dx:Addr} {fs:List (Str×V)} (e:H a=some (.ins C dx fs)) (cl:Cls K C) (ha:PySem.W.findIn K (.ref C) "__class__"=some (some (.builtin "object.__class__")))
   (hn:PySem.W.specialIn K (.builtin "object.__class__") "__get__"=some (some (.builtin "getset_descriptor.__get__"))) (htk:PySem.W.takesIn K (.builtin "object.__class__")=some true)
   (hm:PySem.W.mroIn K C (.type "object")=some true):iW K H (.ref a) (.ref C)
end
end L2
namespace L2
open PySem PySem.Spec PyProof.Rows
structure ft(k:Nat)(A:Around):Prop where
 hd:A.handled=none
 dp:A.depth+3 * k+5<recursionLimit
 un:A.units+16 * k+200<cLine
 gd:A.guards=some []
theorem ft.deeper{k:Nat}{A:Around}(r:ft (k+1) A)(env:Env):ft k (A.deeper env) :=
 ⟨r.hd,by have:=r.dp;show A.depth+1+3 * k+5 < _;omega,by have:=r.un;show A.units+3+16 * k+200 < _;omega,r.gd⟩
theorem ft.depth{k:Nat}{A:Around}(r:ft k A):A.depth<recursionLimit:=by have:=r.dp;omega
noncomputable def Bj:TA:=fun _ H Q=>Q [] H
noncomputable def zR(ta:TE)(tr:TA):TA:=fun σ H Q=>ta σ H fun x H1=>tr σ H1 fun xs H2=>Q (x::xs) H2
section
variable{X:Cx}{e:Expr}{es:List Expr}{te:TE}{t:TA}{pos:Pos}
theorem iX:PA X [] Bj:=fun _ _ _ _ H Q I h=>Calls.spliced_nil ⟨[],H,I,.nil,h⟩
theorem eT(ha:PE X e te)(hr:PA X es t)(hs:starEach (e::es) X.env=(false,eval e X.env)::starEach es X.env:=by rfl):PA X (e::es) (zR te t):=by
 intro pos pins s σ H Q I h;rw[hs];show wpAny _ _ (spliced ((false,eval e X.env)::backTo pos (starEach es X.env))) _ _ s;refine Calls.spliced_cons (thn (ha pins s σ H _ I h) fun u s1 ⟨x,H1,I1,r1,q1⟩=>?_);exact thn (hr pos pins s1 σ H1 _ I1 q1) fun us s2 ⟨xs,H2,I2,r2,q2⟩=>⟨x::xs,H2,I2,.cons r1 r2,q2⟩
end
noncomputable abbrev Sp:=List V->Hp->VK->XK->Prop
noncomputable abbrev CXT:=List Env->Hp->Shared->XK->Value->Shared->Prop
structure vf(P:Program)(w:World)(K:PySem.W.Frag)(mg:Str->Option Value)(base:Heap)(A:Around)(outer:List Env)(s:Shared)(H:Hp):Prop where
 frames:A.frames=some outer
 mod:Mod K mg base
 bs:∀b o,base.get? b=some o->s.heap.get? b=some o/\H b=none
 bsz:base.objs.size<=s.heap.objs.size
 iM:s.heap.FunFrames base outer
 frf:∀b∈frs outer,H b=none
 hok:HOk P w H s.heap
 bare:AllBare s.gens
noncomputable def CE(outer:List Env)(P:Program)(w:World)(H:Hp)(s:Shared)(Q:VK)(u:Value)(s':Shared):Prop :=
 ∃v H',s'.os=s.os/\AllBare s'.gens/\Un (frs outer) [] H H' s.heap s'.heap/\HOk P w H' s'.heap/\RelV v u/\Q v H'
noncomputable def CR(CX:CXT)(outer:List Env)(P:Program)(w:World)(H:Hp)(s:Shared)(Q:VK)(E:XK)(r:Result)(s':Shared):Prop :=
 match r with
 |.ok (.ret u)=>CE outer P w H s Q u s'
 |.ok _=>False
 |.error e=>CX outer H s E e s'
structure mM(P:Program)(w:World)(K:PySem.W.Frag)(mg:Str->Option Value)(base:Heap)(CX:CXT)(k:Nat)(f:Addr)(fd:FuncData)(ps:List Str)(sp:Sp):Prop where
 len:∀vs H Q E,sp vs H Q E->vs.length=ps.length
 run:∀(A:Around) (outer:List Env) (s:Shared) (H:Hp) (args:Args) (us:List Value) (vs:List V) (Q:VK) (E:XK),ft k A->vf P w K mg base A outer s H->BindsTo s fd args (ps.zip us)->Vals vs us->sp vs H Q E ->
  codeAny (model P w) A (.call (.ref f) args) (CR CX outer P w H s Q E) s
section
variable{X:Cx}{pins:List (Addr×Obj)}{σ:St}{H:Hp}{s s':Shared}
theorem Inv.Bk(I:Inv X pins σ H s):vf X.prog X.w X.K X.mg X.base X.A X.stack s H :=
 ⟨I.ok.frames,I.ok.mod,I.bs,Nat.le_trans I.ok.bsz I.sz,I.stack,I.pQ,I.hok,I.bare⟩
theorem Inv.after{Q:VK}{u:Value}(I:Inv X pins σ H s)(h:CE X.stack X.prog X.w H s Q u s'):EP X pins σ Q u s':=by
 obtain⟨v,H',os,bare,un,hok,r,q⟩:=h;obtain⟨hh,g,d,t,os'⟩:=s';obtain rfl:os'=s.os:=os;exact⟨v,H',I.call (h':=hh) (g':=g) (d':=d) (t':=t) (ch:=[]) un hok bare (fun b z=>absurd z (by simp)),r,q⟩
end
noncomputable def Binds(K:PySem.W.Frag)(fd:FuncData)(ps:List Str)(ds:List Value):Prop :=
 ∀(s:Shared) (us:List Value),K.In s.heap->(us++ds).length=ps.length->BindsTo s fd ⟨us,[]⟩ (ps.zip (us++ds))
theorem Binds.all{K:PySem.W.Frag}{fd:FuncData}{ps:List Str}(h:∀us:List Value,us.length=ps.length->bindArgs fd ⟨us,[]⟩=pure (ps.zip us)):Binds K fd ps []:=fun s us _ hl=>by
 rw[List.append_nil]at hl ⊢;exact .of_eq (h us hl)
noncomputable def Passes(CX:CXT)(X:Cx)(E:XK):Prop:=∀(pins:List (Addr×Obj)) (σ:St) (H:Hp) (s:Shared) (e:Value) (s':Shared),Inv X pins σ H s->CX X.stack H s E e s'->X.xe e s'
section
variable{X:Cx}{CX:CXT}{k:Nat}{f C:Addr}{fd:FuncData}{ps:List Str}{sp:Sp}{dvs:List V}{ds:List Value}{E:XK}{x m:Str}{p pos apos:Pos}{e o:Expr}{es:List Expr}{ta:TE}{t:TA}
theorem x6{pins:List (Addr×Obj)}{σ:St}{H:Hp}{s:Shared}{Q:VK}{us:List Value}{vs:List V}(F:mM X.prog X.w X.K X.mg X.base CX k f fd ps sp)(hr:ft k X.A)(hb:Binds X.K fd ps ds)(hd:Vals dvs ds)(hx:Passes CX X E)
  (I:Inv X pins σ H s) (r:Vals vs us) (h:sp (vs++dvs) H Q E):wpAny (model X.prog X.w) X.A (call (.ref f) us) (EP X pins σ Q) X.xe s:=by
 have r2:Vals (vs++dvs) (us++ds):=r.append hd;have hl:(us++ds).length=ps.length:=by rw[<-r2.length];exact F.len _ _ _ _ h
 refine wpAny_call (codeAny_mono (F.run X.A X.stack s H ⟨us,[]⟩ (us++ds) (vs++dvs) Q E hr I.Bk (hb s us I.kIn hl) r2 h) fun r s' hq=>?_);cases r with
 |error e=>exact hx pins σ H s e s' I hq
 |ok fl =>
  cases fl with
  |ret u=>exact I.after hq
  |next=>exact False.elim hq
  |brk=>exact False.elim hq
  |cont=>exact False.elim hq
end
section
variable{X:Cx}{CX:CXT}{k:Nat}{f C:Addr}{fd:FuncData}{ps ks:List Str}{sp:Sp}{E:XK}{x m:Str}{p pos apos kpos:Pos}{e o:Expr}{es:List Expr}{kws:List Keyword}{te ta:TE}{t tk:TA}{nm:Option Str}
variable{g:List Value->List Value->List Value}{gV:List V->List V->List V}
end
structure dB(N P:List Str)(sc:Scope):Prop where
 kind:sc.kind=.function
 co:sc.isCoroutine=false
 gen:sc.isGenerator=false
 nd:N.Nodup
 pre:N.take P.length=P
 par:∀x∈P,sc.names.lookup x=some .local\/sc.names.lookup x=some .cell
 nofree:∀y∈sc.names,y.2≠.free
theorem kl{kindOf:Str->Option NameKind}{x:Str}:∀{binds:List (Str×Value)}{m:Str->Option Value},(∀v,(x,v)∉binds)->bindL kindOf binds m x=m x
 |[],_,_=>rfl
 |(n,v)::r,m,h=>by
  unfold bindL;rw[kl fun w hw=>h w (List.mem_cons_of_mem _ hw)];split
  ·have:x≠n:=by rintro rfl;exact h v List.mem_cons_self
   simp[this]
  ·rfl
theorem km{kindOf:Str->Option NameKind}{x:Str}:∀{binds:List (Str×Value)}{m:Str->Option Value},(∀v,(x,v)∉binds)->bindC kindOf binds m x=m x
 |[],_,_=>rfl
 |(n,v)::r,m,h=>by
  unfold bindC;rw[km fun w hw=>h w (List.mem_cons_of_mem _ hw)];split
  ·rfl
  ·have:x≠n:=by rintro rfl;exact h v List.mem_cons_self
   simp[this]
theorem kn{kindOf:Str->Option NameKind}{x:Str}{v:Value}:∀{P:List Str}{vs:List Value}{i:Nat}{m:Str->Option Value},P.Nodup->P[i]?=some x->vs[i]?=some v->kindOf x=some .local ->
  bindL kindOf (P.zip vs) m x=some v
 |[],_,_,_,_,h,_,_=>by simp at h
 |_::_,[],_,_,_,_,h,_=>by simp at h
 |p::P,w::vs,0,m,nd,h1,h2,hk=>by
  simp at h1 h2;subst h1;subst h2;show bindL kindOf ((p,w)::P.zip vs) m p=_;unfold bindL;rw[kl fun v hv=>(List.nodup_cons.mp nd).1 (List.of_mem_zip hv).1,if_pos hk];simp
 |p::P,w::vs,i+1,m,nd,h1,h2,hk=>by
  show bindL kindOf ((p,w)::P.zip vs) m x=_;unfold bindL;exact kn (i:=i) (List.nodup_cons.mp nd).2 (by simpa using h1) (by simpa using h2) hk
theorem kq{kindOf:Str->Option NameKind}{x:Str}{v:Value}:∀{P:List Str}{vs:List Value}{i:Nat}{m:Str->Option Value},P.Nodup->P[i]?=some x->vs[i]?=some v->kindOf x≠some .local ->
  bindC kindOf (P.zip vs) m x=some v
 |[],_,_,_,_,h,_,_=>by simp at h
 |_::_,[],_,_,_,_,h,_=>by simp at h
 |p::P,w::vs,0,m,nd,h1,h2,hk=>by
  simp at h1 h2;subst h1;subst h2;show bindC kindOf ((p,w)::P.zip vs) m p=_;unfold bindC;rw[km fun v hv=>(List.nodup_cons.mp nd).1 (List.of_mem_zip hv).1,if_neg hk];simp
 |p::P,w::vs,i+1,m,nd,h1,h2,hk=>by
  show bindC kindOf ((p,w)::P.zip vs) m x=_;unfold bindC;exact kq (i:=i) (List.nodup_cons.mp nd).2 (by simpa using h1) (by simpa using h2) hk
noncomputable def start(N:List Str)(vs:List V):St:=vs.map some++List.replicate (N.length - vs.length) none
noncomputable def om(CX:CXT)(P:Program)(w:World)(K:PySem.W.Frag)(mg:Str->Option Value)(base:Heap)(N:List Str)(qual:Str)(scope:Scope)(f:Addr)(cd:Value)(A:Around)(outer:List Env)(s:Shared)(H:Hp)(E:XK):Cx where
 prog:=P
 w:=w
 K:=K
 mg:=mg
 base:=base
 A:=A.deeper (envOfC qual scope s.heap.objs.size f cd)
 N:=N
 s₀:=s
 H₀:=H
 env:=envOfC qual scope s.heap.objs.size f cd
 outer:=outer
 stack:=envOfC qual scope s.heap.objs.size f cd::outer
 ex:=[]
 calm:=true
 fn:=fun _=>true
 pn:=[]
 xe:=fun e s'=>wpAny (model P w) (A.deeper (envOfC qual scope s.heap.objs.size f cd)) (leaving (envOfC qual scope s.heap.objs.size f cd) e) (fun _ s''=>CX outer H s E e s'') (fun e' s''=>CX outer H s E e' s'') s'
theorem mN{sc:Scope}{n:Nat}{x:Str}(h:sc.names.lookup x=some .cell):∃c,(cellsFrom n sc.names []).lookup x=some c:=by
 have q:=PySem.W.cellsFrom_some sc.names n [] (.inl h);exact Option.isSome_iff_exists.mp q
theorem qY{CX:CXT}{P:Program}{w:World}{K:PySem.W.Frag}{mg:Str->Option Value}{base:Heap}{N ps:List Str}{qual:Str}{scope:Scope}{f:Addr}{cd:Value}{A:Around}{outer:List Env}{s s1:Shared}{H:Hp}{E:XK}{us:List Value}{vs:List V}
  (S:dB N ps scope) (hd:A.handled=none) (e0:vf P w K mg base A outer s H) (hl:vs.length=ps.length) (r:Vals vs us)
  (x:InCallC s s.heap.objs.size (bindL (envOfC qual scope s.heap.objs.size f cd).kindOf (ps.zip us) fun _=>none) (cellsFrom (s.heap.objs.size+1) scope.names []) (bindC (envOfC qual scope s.heap.objs.size f cd).kindOf (ps.zip us) fun _=>none) s1) :
  Inv (om CX P w K mg base N qual scope f cd A outer s H E) [] (start N vs) H s1:=by
 have hpl:ps.length<=N.length:=by have:=congrArg List.length S.pre;rw[List.length_take]at this;omega
 obtain⟨h1,tk,rfl,hk⟩:=x.done;have noA:∀b:Addr,b∉(om CX P w K mg base N qual scope f cd A outer s H E).ex:=fun b z=>absurd (show b∈([]:List Addr) from z) (by simp);refine⟨⟨e0.mod,S.kind,rfl,rfl,Nat.le_refl _,fun y z c h1 h2=>?_,fun y hy=>?_,fun y c _ h=>?_,fun _=>hd,Around.frames_deeper e0.frames,.inr ⟨rfl,rfl⟩,fun b z=>absurd z (noA b),e0.bs,e0.bsz,fun b _ _=>noA b,fun b z=>absurd z (noA b),e0.iM,e0.frf⟩,
  rfl,e0.bare,Un.kept hk,⟨_,x.toInCall.ns,fun i y v h1 h2 h3=>?_⟩,fun y c h=>⟨_,x.cell y c h⟩,e0.hok.fresh (Nat.le_refl _),fun y c h=>?_,fun p hp=>absurd (show p∈([]:List (Addr×Obj)) from hp) (by simp),e0.hok.kept hk,?_⟩
 ·exact name_of_addr x.apart (PySem.mem_of_lookup h1) (PySem.mem_of_lookup h2)
 ·have hy:scope.names.lookup y=some .cell\/scope.names.lookup y=some .free:=hy;rcases hy with hy|hy
  ·exact mN hy
  ·exact absurd rfl (S.nofree _ (PySem.mem_of_lookup hy))
 ·exact Nat.le_of_lt (x.above y c (PySem.mem_of_lookup h))
 ·have hi:i<vs.length:=by
   unfold start at h2;by_cases hi:i<vs.length
   ·exact hi
   ·rw[List.getElem?_append_right (by simpa using hi)]at h2;rw[List.getElem?_replicate]at h2;split at h2<;>cases h2
  have ha:vs[i]?=some v:=by
   unfold start at h2;rw[List.getElem?_append_left (by simpa using hi),List.getElem?_map]at h2;cases e:vs[i]? with
   |none=>rw[e]at h2;cases h2
   |some a=>rw[e]at h2;cases h2;rfl
  obtain⟨u,hu,rv⟩:=r.get ha;have hp:ps[i]?=some y:=by
   rw[<-S.pre,List.getElem?_take_of_lt (by omega)];exact h1
  have ndP:ps.Nodup:=by rw[<-S.pre];exact S.nd.sublist (List.take_sublist _ _)
  refine⟨u,rv,?_⟩;rcases S.par y (List.mem_of_getElem? hp) with k|k
  ·exact .inl ⟨k,kn ndP hp hu k⟩
  ·obtain⟨c,e⟩:=mN (n:=s.heap.objs.size+1) k;refine .inr ⟨.inl k,c,e,?_⟩;have q:=x.cell y c e;rw[kq ndP hp hu (by show scope.names.lookup y≠_;rw[k];decide)]at q;exact q
 ·exact e0.hok.fresh (Nat.le_of_lt (x.above y c (PySem.mem_of_lookup h)))
 ·unfold start;show _=N.length;rw[List.length_append,List.length_map,List.length_replicate];omega
theorem zS{CX:CXT}{P:Program}{w:World}{K:PySem.W.Frag}{mg:Str->Option Value}{base:Heap}{k:Nat}{f:Addr}{name qual:Str}{params:Arguments}{body:List Stmt}{scope:Scope}{dV kV doc pm cdv ct oc:Value}{an od:Option Addr}
  {osl:Array (Option Value)} {N ps:List Str} {sp:Sp} (lk:K.lookup f=some ⟨oc,od,.func (PySem.W.fnOf name qual params body scope dV kV doc pm an cdv ct),osl⟩) (hcd:PySem.W.codeIn K cdv qual=true) (S:dB N ps scope)
  (len:∀vs H Q E,sp vs H Q E->vs.length=ps.length)
  (hbody:∀(A:Around) (outer:List Env) (s:Shared) (H:Hp) (vs:List V) (Q:VK) (E:XK),ft k (A.deeper (envOfC qual scope s.heap.objs.size f cdv))->sp vs H Q E ->
   ∃t,PSs (om CX P w K mg base N qual scope f cdv A outer s H E) body t/\t {nx:=fun _ H'=>Q .non H',rt:=Q} (start N vs) H) :
  mM P w K mg base CX (k+1) f (PySem.W.fnOf name qual params body scope dV kV doc pm an cdv ct) ps sp:=by
 refine⟨len,fun A outer s H args us vs Q E hr e0 hb r hsp=>?_⟩;have hl:=len _ _ _ _ hsp;have KX:K.In s.heap:=e0.mod.kin.keeps fun b o e=>(e0.bs b o e).1;have lim:s.heap.NoLimit:=e0.mod.nolimit.keeps fun b o e=>(e0.bs b o e).1;have hkind:∀y∈ps.zip us,scope.names.lookup y.1=some .local\/(scope.names.lookup y.1=some .cell/\((cellsFrom (s.heap.objs.size+1) scope.names []).lookup y.1).isSome=true):=fun⟨n,v⟩ hy=>by
  rcases S.par n (List.of_mem_zip hy).1 with q|q
  ·exact .inl q
  ·exact .inr ⟨q,PySem.W.cellsFrom_some _ _ _ (.inl q)⟩
 refine codeAny_call_function hr.depth (KX _ _ lk) rfl S.co S.gen rfl (PySem.W.codeRec_of KX hcd) (hb _ _ _ _ ?_);refine wpAny_newFunctionEnv_cells S.kind hkind fun env he s1 x=>?_;subst he;refine⟨lim.keeps x.toInCall.keep,codeAny_func ?_⟩;obtain⟨t,ht,hq⟩:=hbody A outer s H vs Q E (hr.deeper _) hsp;have I:Inv (om CX P w K mg base N qual scope f cdv A outer s H E) [] (start N vs) H s1:=qY S hr.hd e0 hl r x;refine wpAny_mono (ht [] s1 (start N vs) H _ I hq) (fun fl s' hs=>?_) fun e s' hs=>hs;have fin:∀{σ':St} {H':Hp} {v:V} {u:Value},Inv (om CX P w K mg base N qual scope f cdv A outer s H E) [] σ' H' s'->RelV v u->Q v H'->CE outer P w H s Q u s' :=
  fun {σ' H' v u} J rv q=>⟨v,H',J.os,J.bare,J.base,J.hok,rv,q⟩
 cases fl with
 |ret u =>
  obtain⟨v,σ',H',J,rv,q⟩:=hs;exact fin J rv q
 |next =>
  obtain⟨σ',H',J,q⟩:=hs;exact fin (v:=V.non) (u:=Value.none) J rfl q
 |brk =>
  obtain⟨_,_,_,q⟩:=hs;exact False.elim q
 |cont =>
  obtain⟨_,_,_,q⟩:=hs;exact False.elim q
end L2
namespace L2
open PySem PySem.Spec PyProof.Rows
section
variable{X:Cx}{x:Str}{p pos:Pos}{e:Expr}{es:List Expr}{t:TA}{id T:String}{r:List V->Hp->VK->Prop}
end
end L2
namespace HT
open PySem PyProof.Rows
section
open PySem.SeqAt
open PySem.AutoSeq1 (wpAny_loadPart')
open PySem.MeetsSeq PySem.MeetsSeq2 PySem.MeetsSeq3
end
section
variable{prog:Program}{w:World}{A:Around}{E:Value->Shared->Prop}{s:Shared}
theorem vg{t b:Addr}{vs ws:List Value}{Q:Value->Shared->Prop}(ht:IsTup s.heap t vs.toArray)(hb:IsTup s.heap b ws.toArray)(hv:vs≠[])
  (h1:ws=[]->Q (.ref t) s) (h2:ws≠[]->Q (.ref s.heap.objs.size) {s with heap:=s.heap.push {cls:=.type "tuple",data:=.seq (vs++ws).toArray}})
  (hsz:vs.length+ws.length<=sizeLine):wpAny (model prog w) A (binaryOp .Add (.ref t) (.ref b)) Q E s:=by
 obtain⟨⟨cls,dd,data,sl⟩,ho,hc,n,hd⟩:=id ht;obtain⟨⟨cls2,dd2,data2,sl2⟩,ho2,hc2,n2,hd2⟩:=id hb;simp only at hc hd hc2 hd2;subst hc hd hc2 hd2;have e:vs.toArray++ws.toArray=(vs++ws).toArray:=by simp
 by_cases hw:ws=[]
 ·exact concat_meets ⟨_,ho,rfl⟩ ⟨_,ho2,rfl⟩ noFill_tuple_add seq_tuple_add PySem.F.slot_tuple_add PySem.F.entry_tuple_add (PySem.F.args_tuple_add_2 _ _)
   (tuple_addW1 t b vs.toArray ws.toArray n n2 dd dd2 sl sl2 (by simpa using hv) (by simp[hw])) ⟨ho,ho2,h1 hw⟩
 ·refine concat_meets ⟨_,ho,rfl⟩ ⟨_,ho2,rfl⟩ noFill_tuple_add seq_tuple_add PySem.F.slot_tuple_add PySem.F.entry_tuple_add (PySem.F.args_tuple_add_2 _ _)
   (tuple_addW2 t b vs.toArray ws.toArray n n2 dd dd2 sl sl2 (by simpa using hv) (by simpa using hw) (by rw[List.size_toArray,List.size_toArray];exact hsz)) ⟨ho,ho2,?_⟩
  rw[e];exact h2 hw
noncomputable def sIx(n d:Nat):Option Int->Nat
 |none=>d
 |some v=>if v<0 then(v+(n:Int)).toNat else min v.toNat n
theorem iY(n d:Nat):sIx n d none=d:=rfl
theorem ll(n d k:Nat):sIx n d (some (k:Int))=min k n:=by
 show(if (k:Int)<0 then((k:Int)+(n:Int)).toNat else min (k:Int).toNat n)=min k n;rw[if_neg (by omega),Int.toNat_natCast]
theorem x8(n d:Nat)(hd:d<=n)(o:Option Int):sIx n d o<=n:=by
 cases o with
 |none=>exact hd
 |some v =>
  show(if v<0 then(v+(n:Int)).toNat else min v.toNat n)<=n;by_cases hv:v<0
  ·rw[if_pos hv];omega
  ·rw[if_neg hv];exact Nat.min_le_right _ _
theorem pT(v:Int)(n d:Nat):(if v<0 then max (v+(n:Int)) 0 else min v (n:Int))=((sIx n d (some v):Nat):Int):=by
 show(if v<0 then max (v+(n:Int)) 0 else min v (n:Int))=(((if v<0 then(v+(n:Int)).toNat else min v.toNat n):Nat):Int)
 by_cases hv:v<0
 ·simp only[if_pos hv];omega
 ·simp only[if_neg hv];omega
theorem oo(lo hi:Option Int)(n:Nat):Builtin.Slice.sliceAdjust lo hi 1 (n:Int)=(((sIx n 0 lo:Nat):Int),((sIx n n hi:Nat):Int)):=by
 have h1:¬((1:Int)<0):=by omega
 unfold Builtin.Slice.sliceAdjust;simp only[h1,if_false];refine Prod.ext ?_ ?_
 ·cases lo with
  |none=>rfl
  |some v=>exact pT v n 0
 ·cases hi with
  |none=>rfl
  |some v=>exact pT v n n
theorem oq(i j:Nat):Builtin.Slice.slicePlaces (i:Int) (j:Int) 1=j - i:=by
 unfold Builtin.Slice.slicePlaces;have h1:(1:Int)>0:=by omega
 simp only[h1,if_true,Int.ediv_one];split<;>omega
theorem iZ{v:Value}{o:Option Int}{Q:Option Int->Shared->Prop}(p:IsPart v o)(h:Q o s):wpAny (model prog w) A (Builtin.Slice.slicePartIndex v) Q E s:=by
 cases p with
 |none=>exact slicePart_none h
 |int i t=>exact slicePart_int h
theorem di{sl:Addr}{vl vu:Value}{lo hi:Option Int}{n:Nat}{Q:Int×Int×Nat->Shared->Prop}(hs:s.heap.IsSliceOf sl vl vu .none)(pl:IsPart vl lo)(pu:IsPart vu hi)
  (h:Q (((sIx n 0 lo:Nat):Int),1,sIx n n hi - sIx n 0 lo) s):wpAny (model prog w) A (Builtin.Slice.sliceApplied (.ref sl) (pure (n:Int))) Q E s:=by
 obtain⟨os,hos,hcs,hds⟩:=id hs;unfold Builtin.Slice.sliceApplied Builtin.Slice.sliceFields;refine wpAny_bind (wpAny_bind (wpAny_field hos hds (x:=vl) rfl (wpAny_bind (wpAny_field hos hds (x:=vu) rfl (wpAny_bind (wpAny_field hos hds (x:=.none) rfl (wpAny_pure ?_)))))));refine wpAny_bind (slicePart_none ?_);show wpAny _ _ (if ((1:Int)==0)=true then _ else _) _ _ s;rw[if_neg (by decide)];refine wpAny_bind (iZ pl (wpAny_bind (iZ pu (wpAny_bind (wpAny_pure ?_)))));show wpAny _ _ (match Builtin.Slice.sliceAdjust lo hi 1 (n:Int) with|(lo,hi)=>pure (lo,(1:Int),Builtin.Slice.slicePlaces lo hi 1)) _ _ s;rw[oo lo hi n];show wpAny _ _ (pure (((sIx n 0 lo:Nat):Int),(1:Int),Builtin.Slice.slicePlaces ((sIx n 0 lo:Nat):Int) ((sIx n n hi:Nat):Int) 1)) _ _ s;rw[oq];exact wpAny_pure h
theorem sI(xs:Array Value)(i k:Nat):((List.range k).filterMap fun(m:Nat)=>xs[((i:Int)+(m:Int) * 1).toNat]?).toArray=((xs.toList.drop i).take k).toArray:=by
 have e:(fun(m:Nat)=>xs[((i:Int)+(m:Int) * 1).toNat]?)=fun m=>xs[i+m]?:=by
  funext m
  have:((i:Int)+(m:Int) * 1).toNat=i+m:=by omega
  rw[this]
 rw[e];have:=pick_run xs i k;rw[List.filterMap_map]at this;have e2:((fun x=>xs[x]?) ∘ fun x=>i+x)=fun m=>xs[i+m]?:=rfl;rw[e2]at this;rw[this]
theorem fM{t sl:Addr}{items:Array Value}{vl vu:Value}{lo hi:Option Int}{Q:Value->Shared->Prop}(ht:IsTup s.heap t items)(hs:s.heap.IsSliceOf sl vl vu .none)(pl:IsPart vl lo)(pu:IsPart vu hi)
  (hw:¬(sIx items.size 0 lo=0/\sIx items.size items.size hi=items.size))
  (h:Q (.ref s.heap.objs.size) {s with heap:=s.heap.push {cls:=.type "tuple",data:=.seq ((items.toList.drop (sIx items.size 0 lo)).take (sIx items.size items.size hi - sIx items.size 0 lo)).toArray}})
  (hsz:items.size<=sizeLine):wpAny (model prog w) A (getItem (.ref t) (.ref sl)) Q E s:=by
 have htake:sizeOk (.seq ((items.toList.drop (sIx items.size 0 lo)).take (sIx items.size items.size hi - sIx items.size 0 lo)).toArray):=by
  show((items.toList.drop (sIx items.size 0 lo)).take (sIx items.size items.size hi - sIx items.size 0 lo)).toArray.size<=sizeLine;rw[List.size_toArray,List.length_take,List.length_drop,Array.length_toList];omega
 have hj:sIx items.size items.size hi<=items.size:=x8 _ _ (Nat.le_refl _) hi;obtain⟨os,hos,hcs,hds⟩:=id hs;have hTs:s.TypeIs (.ref sl) "slice":=⟨os,hos,hcs⟩
 unfold getItem
 try with_reducible refine wpAny_holding ?_
 first|refine wpAny_bind (wpAny_pure ?_)|skip
 refine wpAny_bind (wpAny_sequenceKey ht.typeIs (by decide) ?_);refine wpAny_bind (wpAny_callSpecial?_slot (name:=Str.ofString "__getitem__") ht.typeIs PyProof.Rows.slot_tuple_getitem
  (wpAny_call_entry PyProof.Rows.slot_tuple_getitem ht.typeIs entry_tuple_getitem ?_ (args_tuple_getitem _ _)))
 show wpAny _ _ (Builtin.Tuple.tupleItemsOf (.ref t) >>= _) _ _ s;refine wpAny_bind (tupleItemsOf_ ht ?_);refine wpAny_bind (wpAny_typeOf hTs ?_);rw[if_pos (by decide)];refine wpAny_bind (di hs pl pu ?_);have hno:¬((((sIx items.size 0 lo:Nat):Int)==0&&(1:Int)==1&&(sIx items.size items.size hi - sIx items.size 0 lo)==items.size)=true):=by
  intro q;rw[Bool.and_eq_true,Bool.and_eq_true]at q;have q1:((sIx items.size 0 lo:Nat):Int)=0:=eq_of_beq q.1.1;have q2:sIx items.size items.size hi - sIx items.size 0 lo=items.size:=eq_of_beq q.2;exact hw ⟨by omega,by omega⟩
 show wpAny _ _ (if (((sIx items.size 0 lo:Nat):Int)==0&&(1:Int)==1&&(sIx items.size items.size hi - sIx items.size 0 lo)==items.size)=true then _ else _) _ _ s;rw[if_neg hno,sI]
 first
  |exact wpAny_bind (m:=Builtin.Tuple.tupleExact _) (wpAny_newObj_type (wpAny_pure ⟨_,rfl,wpAny_pure h⟩) htake)
  |exact wpAny_bind (m:=Builtin.Tuple.tupleExact _) (wpAny_newObj_type (wpAny_bind (wpAny_pure (wpAny_pure ⟨_,rfl,wpAny_pure h⟩))) htake)
  |exact wpAny_bind (wpAny_bind (m:=Builtin.Tuple.tupleExact _) (wpAny_newObj_type (wpAny_pure (wpAny_pure ⟨_,rfl,wpAny_pure h⟩)) htake))
  |exact wpAny_bind (wpAny_bind (m:=Builtin.Tuple.tupleExact _) (wpAny_newObj_type (wpAny_pure ⟨_,rfl,wpAny_pure h⟩) htake))
end
end HT
namespace L2
open PySem PySem.Spec PyProof.Rows
noncomputable abbrev TO:=St->Hp->(Option Int->Hp->Prop)->Prop
noncomputable def PO(X:Cx)(e:Option Expr)(t:TO):Prop :=
 ∀(pins:List (Addr×Obj)) (s:Shared) (σ:St) (H:Hp) (Q:Option Int->Hp->Prop),Inv X pins σ H s->t σ H Q ->
  wpAny (model X.prog X.w) X.A (evalPart e X.env) (fun u s'=>∃o H',Inv X pins σ H' s'/\IsPart u o/\Q o H') X.xe s
noncomputable def vh:TO:=fun _ H Q=>Q none H
noncomputable def zT(t:TE):TO:=fun σ H Q=>t σ H fun x H1=>∃i,x=.int i/\Q (some i) H1
theorem intsAre_of{ns:List Int}:∀{us:List Value},Vals (ns.map V.int) us->IntsAre us ns:=by
 induction ns with
 |nil=>intro us r;rw[List.map_nil]at r;cases r;exact .nil
 |cons n ns ih =>
  intro us r;rw[List.map_cons]at r;cases r with
  |cons r1 r2 =>
   obtain⟨t,e⟩:=r1;subst e;exact .cons n t (ih r2)
section
variable{X:Cx}{e:Expr}{te:TE}{lo hi:Option Expr}{tl th:TO}{pos p2:Pos}
theorem vi:PO X none vh:=by
 intro pins s σ H Q I h;rw[evalPart_none];exact wpAny_pure ⟨none,H,I,.none,h⟩
theorem vj(h:PE X e te):PO X (some e) (zT te):=by
 intro pins s σ H Q I hw;rw[evalPart_some];refine thn (h pins s σ H _ I hw) fun u s1 ⟨x,H1,I1,r1,q1⟩=>?_;obtain⟨i,rfl,q⟩:=q1;obtain⟨t,rfl⟩:=r1;exact⟨some i,H1,I1,.int i t,q⟩
noncomputable def SlR(X:Cx)(r:V->Option Int->Option Int->Hp->VK->Prop):Prop :=
 ∀(pins:List (Addr×Obj)) (s:Shared) (σ:St) (H:Hp) (x:V) (v vl vu:Value) (lo hi:Option Int) (sl:Addr) (Q:VK),Inv X pins σ H s->RelV x v->s.heap.IsSliceOf sl vl vu .none->IsPart vl lo->IsPart vu hi->r x lo hi H Q ->
  ∃T id,typeLookup (.type T) "__getitem__"=pure (some (.builtin id))/\s.TypeIs v T/\wpAny (model X.prog X.w) X.A (getItem v (.ref sl)) (EP X pins σ Q) X.xe s
theorem SlR.or{r r':V->Option Int->Option Int->Hp->VK->Prop}(h:SlR X r)(h':SlR X r'):SlR X (fun x lo hi H Q=>r x lo hi H Q\/r' x lo hi H Q):=by
 intro pins s σ H x v vl vu lo hi sl Q I rx hs pl pu q;rcases q with q|q
 ·exact h pins s σ H x v vl vu lo hi sl Q I rx hs pl pu q
 ·exact h' pins s σ H x v vl vu lo hi sl Q I rx hs pl pu q
noncomputable def tSl(r:V->Option Int->Option Int->Hp->VK->Prop)(te:TE)(tl th:TO):TE:=fun σ H Q=>te σ H fun x H1=>tl σ H1 fun l H2=>th σ H2 fun u H3=>r x l u H3 Q
theorem sJ{r:V->Option Int->Option Int->Hp->VK->Prop}(hr:SlR X r)(he:PE X e te)(hl:PO X lo tl)(hu:PO X hi th):PE X (.Subscript e (.Slice lo hi none p2) pos) (tSl r te tl th):=by
 intro pins s σ H Q I h;refine Subscript_ (thn (he pins s σ H _ I h) fun v s1 ⟨x,H1,I1,r1,q1⟩=>?_);refine wpAny_Slice (thn (hl pins s1 σ H1 _ I1 q1) fun vl s2 ⟨l,H2,I2,pl,q2⟩=>thn (hu pins s2 σ H2 _ I2 q2) fun vu s3 ⟨u,H3,I3,pu,q3⟩=>?_);rw[evalPart_none];refine wpAny_pure ?_;have I4:Inv X pins σ H3 {s3 with heap:=s3.heap.push {cls:=.type "slice",data:=.fields #[vl,vu,.none]}}:=I3.kept (t':=s3.toks) fun b ob q=>Heap.get?_push_of_some _ q;obtain⟨T,id,hT,ht,hg⟩:=hr pins {s3 with heap:=s3.heap.push {cls:=.type "slice",data:=.fields #[vl,vu,.none]}} σ H3 x v vl vu l u s3.heap.objs.size Q I4 r1 (Heap.IsSliceOf.new ..) pl pu q3;show wpAny (model X.prog X.w) X.A (subscriptTail e (.Slice lo hi none p2) v (.ref s3.heap.objs.size)) (EP X pins σ Q) X.xe {s3 with heap:=s3.heap.push {cls:=.type "slice",data:=.fields #[vl,vu,.none]}};exact tail_any (ops:=[.ref s3.heap.objs.size,v]) ht hT hg (by with_unfolding_all rfl)
noncomputable def mO(xs:List V)(lo hi:Option Int):List V:=(xs.drop (HT.sIx xs.length 0 lo)).take (HT.sIx xs.length xs.length hi - HT.sIx xs.length 0 lo)
theorem gT(xs:List V)(lo hi:Option Int):(mO xs lo hi).length<=xs.length:=by
 unfold mO;rw[List.length_take,List.length_drop];omega
noncomputable def zU(K:PySem.W.Frag):V->Option Int->Option Int->Hp->VK->Prop:=fun x lo hi H Q=>∃a xs,x=.ref a/\SqT K H a xs /\
 ¬(HT.sIx xs.length 0 lo=0/\HT.sIx xs.length xs.length hi=xs.length)/\∀p,H p=none->Q (.ref p) (upd H p (.tup (mO xs lo hi)))
theorem x9:SlR X (zU X.K):=by
 intro pins s σ H x v vl vu lo hi sl Q I rx hs pl pu h;obtain⟨a,xs,rfl,hx,hw,q⟩:=h;cases rx;obtain⟨its,r,ht,hz⟩:=I.tuple hx;have hlen:its.toArray.size=xs.length:=by rw[List.size_toArray];exact r.length.symm
 refine⟨"tuple",_,PyProof.Rows.slot_tuple_getitem.lookup,ht.typeIs,?_⟩;refine HT.fM ht hs pl pu (by rw[hlen];exact hw) ?_ (by rw[hlen];exact hz);rw[hlen];refine⟨.ref s.heap.objs.size,_,I.laid (t':=s.toks) (o:=.tup (mO xs lo hi)) (fun b ob q=>Heap.get?_push_of_some _ q) (Nat.le_refl _) ?_,rfl,q _ (I.hok.fresh (Nat.le_refl _))⟩;exact⟨Nat.le_trans (gT xs lo hi) hz,_,(r.drop (HT.sIx xs.length 0 lo)).take (HT.sIx xs.length xs.length hi - HT.sIx xs.length 0 lo),IsTup.new _ _⟩
noncomputable def zV(K:PySem.W.Frag):R2:=fun x y H Q=>∃a b xs ys,x=.ref a/\y=.ref b/\SqT K H a xs/\SqT K H b ys/\xs≠[]/\xs.length+ys.length<=sizeLine /\
 (ys=[]->Q (.ref a) H)/\(ys≠[]->∀p,H p=none->Q (.ref p) (upd H p (.tup (xs++ys))))
theorem Vals.lp{xs:List V}{us:List Value}(r:Vals xs us):us=[]↔xs=[]:=by
 cases r with
 |nil=>simp
 |cons _ _=>simp
theorem vk:OpR X (binaryOp .Add) (zV X.K):=by
 intro pins s σ H x y v u Q I rx ry h;obtain⟨a,b,xs,ys,rfl,rfl,ha,hb,hx,hz,q1,q2⟩:=h;cases rx;cases ry;obtain⟨its,r1,p1,_⟩:=I.tuple ha;obtain⟨its2,r2,p2,_⟩:=I.tuple hb;refine HT.vg p1 p2 (fun z=>hx (r1.lp.mp z)) (fun z=>⟨.ref a,H,I,rfl,q1 (r2.lp.mp z)⟩) (fun z=>?_) (by rw[<-r1.length,<-r2.length];exact hz);refine⟨.ref s.heap.objs.size,_,I.laid (t':=s.toks) (o:=.tup (xs++ys)) (fun b ob q=>Heap.get?_push_of_some _ q) (Nat.le_refl _) ?_,rfl,q2 (fun w=>z (r2.lp.mpr w)) _ (I.hok.fresh (Nat.le_refl _))⟩;exact⟨by rw[List.length_append];exact hz,_,r1.append r2,IsTup.new _ _⟩
end
end L2
namespace L2
open PySem PySem.Spec PyProof.Rows
noncomputable def ixN(n:Nat)(i:Int):Option Nat:=if 0<=i then(if i<n then some i.toNat else none) else if -(n:Int)<=i then some (i+n).toNat else none
noncomputable def atI{α:Type}(xs:List α)(i:Int):Option α:=(ixN xs.length i).bind fun j=>xs[j]?
theorem pU{n:Nat}{i:Int}{j:Nat}(h:ixN n i=some j):seqIndex? i n=some j/\j<n/\-(n:Int)<=i/\i<n:=by
 unfold ixN at h;by_cases h0:0<=i
 ·rw[if_pos h0]at h;by_cases h1:i<n
  ·rw[if_pos h1]at h;have e:i.toNat=j:=Option.some.inj h;exact⟨by rw[seqIndex_of h0 h1,e],by omega,by omega,h1⟩
  ·rw[if_neg h1]at h;cases h
 ·rw[if_neg h0]at h;by_cases h1:-(n:Int)<=i
  ·rw[if_pos h1]at h;have e:(i+n).toNat=j:=Option.some.inj h;exact⟨by rw[seqIndex_neg (by omega) h1,e],by omega,h1,by omega⟩
  ·rw[if_neg h1]at h;cases h
theorem lq{α:Type}{xs:List α}{i:Int}{v:α}(h:atI xs i=some v):∃j,seqIndex? i xs.length=some j/\xs[j]?=some v/\j<xs.length/\-(xs.length:Int)<=i/\i<xs.length:=by
 unfold atI at h;cases e:ixN xs.length i with
 |none=>rw[e]at h;cases h
 |some j =>
  rw[e]at h;obtain⟨h1,h2,h3,h4⟩:=pU e;exact⟨j,h1,h,h2,h3,h4⟩
theorem cq{α:Type}{xs:List α}{j:Nat}{v:α}(h:xs[j]?=some v):atI xs (j:Int)=some v:=by
 have hj:j<xs.length:=(List.getElem?_eq_some_iff.mp h).1;have e:ixN xs.length (j:Int)=some j:=by
  unfold ixN;rw[if_pos (by omega),if_pos (by omega)];simp
 unfold atI;rw[e];exact h
noncomputable def lr(b:Expr):Prop:=∀o i,subscripted b false o i=operate [o,i] (getItem o i)
noncomputable def IxR(X:Cx)(r:R2):Prop :=
 ∀(value slice:Expr) (pins:List (Addr×Obj)) (s:Shared) (σ:St) (H:Hp) (x y:V) (v u:Value) (Q:VK),Inv X pins σ H s->RelV x v->RelV y u->r x y H Q ->
  subscripted slice false v u=operate [v,u] (getItem v u)->wpAny (model X.prog X.w) X.A (subscriptTail value slice v u) (EP X pins σ Q) X.xe s
noncomputable def MtR(X:Cx)(id:String)(r:V->List V->Hp->VK->Prop):Prop :=
 ∀(pins:List (Addr×Obj)) (s:Shared) (σ:St) (H:Hp) (x:V) (xs:List V) (v:Value) (us:List Value) (Q:VK),Inv X pins σ H s->RelV x v->Vals xs us->r x xs H Q ->
  wpAny (model X.prog X.w) X.A (call (.builtin id) (v::us)) (EP X pins σ Q) X.xe s
section
variable{X:Cx}{a b:Expr}{ta tb:TE}{pos:Pos}
noncomputable def Bl(K:PySem.W.Frag):R2:=fun x y H Q=>∃p xs i v,x=.ref p/\y=.int i/\SqL K H p xs/\atI xs i=some v/\Q v H
noncomputable def Bm(K:PySem.W.Frag):R2:=fun x y H Q=>∃p xs i v,x=.ref p/\y=.int i/\SqT K H p xs/\atI xs i=some v/\Q v H
noncomputable def Bn:R2:=fun x y H Q=>∃z i c,x=.str z/\y=.int i/\z.length<=sizeLine/\atI z.cps.toList i=some c/\Q (.str ⟨#[c]⟩) H
theorem vm:IxR X (Bl X.K):=by
 intro value slice pins s σ H x y v u Q I rx ry h hs;obtain⟨p,xs,i,z,rfl,rfl,hq,he,q⟩:=h;cases rx;obtain⟨t,rfl⟩:=ry;obtain⟨its,r,pl,hz⟩:=I.list hq;obtain⟨j,h1,h2,h3,h4,h5⟩:=lq he;obtain⟨w,ew,rw'⟩:=r.get h2;have hl:=r.length;have hn:=eh;have fin:EP X pins σ Q w s:=⟨z,H,I,rw',q⟩
 by_cases h0:0<=i
 ·have hj:i.toNat=j:=by
   rw[seqIndex_of h0 h5]at h1;exact Option.some.inj h1
  exact item_listR pl.isList h0 (by omega) (by rw[hj];simpa using ew) fin hs
 ·have hj:(i+(its.toArray.size:Int)).toNat=j:=by
   rw[seqIndex_neg (by omega) h4]at h1;rw[List.size_toArray,<-hl];exact Option.some.inj h1
  exact subscriptTail_builtinR (x:=w) pl.isList.typeIs slot_list_getitem.lookup
   (wpAny_getItem_list_neg (Q:=fun r s'=>r=w/\EP X pins σ Q r s') pl.isList (by omega) (by rw[List.size_toArray]<;>omega) (by omega) (by rw[hj];simpa using ew) ⟨rfl,fin⟩) hs
theorem i_:IxR X (Bm X.K):=by
 intro value slice pins s σ H x y v u Q I rx ry h hs;obtain⟨p,xs,i,z,rfl,rfl,hq,he,q⟩:=h;cases rx;obtain⟨t,rfl⟩:=ry;obtain⟨its,r,pl,hz⟩:=I.tuple hq;obtain⟨j,h1,h2,h3,h4,h5⟩:=lq he;obtain⟨w,ew,rw'⟩:=r.get h2;have hl:=r.length;have hn:=eh;have fin:EP X pins σ Q w s:=⟨z,H,I,rw',q⟩
 exact subscriptTail_builtinR (x:=w) pl.typeIs slot_tuple_getitem.lookup
  (getItem_tuple (j:=j) (Q:=fun r s'=>r=w/\EP X pins σ Q r s') pl (by omega) (by omega) (by rw[List.size_toArray,<-hl];exact h1) (by simpa using ew) ⟨rfl,fin⟩) hs
theorem ja:IxR X Bn:=by
 intro value slice pins s σ H x y v u Q I rx ry h hs;obtain⟨z,i,c,rfl,rfl,hz,he,q⟩:=h;obtain⟨t,rfl⟩:=rx;obtain⟨t',rfl⟩:=ry;obtain⟨j,h1,h2,h3,h4,h5⟩:=lq he;have hl:z.cps.toList.length=z.length:=by simp[Str.length]
 rw[hl]at h1 h4 h5;have hn:=eh;exact tail_any (typeIs_str s z t) slot_str_getitem.lookup (getItem_str (c:=c) (by
  have e1:decide (i < -(2 ^ 63:Int))=false:=decide_eq_false (by omega);have e2:decide (i >= 2 ^ 63)=false:=decide_eq_false (by omega);rw[e1,e2,Bool.or_false]) (by rw[h1];simpa using h2) ⟨.str ⟨#[c]⟩,H,I.tok _,⟨_,rfl⟩,q⟩) hs
theorem ot(its:List Value)(n j:Nat)(u:Value):Obj.mapSeq (·.setIfInBounds j u) {cls:=.type "list",data:=.seq its.toArray n}={cls:=.type "list",data:=.seq (its.set j u).toArray n}:=by
 simp[Obj.mapSeq]
theorem Inv.lst{pins:List (Addr×Obj)}{σ:St}{H:Hp}{s:Shared}{p:Addr}{xs:List V}(I:Inv X pins σ H s)(h:H p=some (.lst xs)):
  ∃(its:List Value) (n:Nat),Vals xs its/\s.heap.get? p=some {cls:=.type "list",data:=.seq its.toArray n}/\xs.length<=sizeLine:=by
 obtain⟨z,its,n,r,e⟩:=I.hok p _ h;exact⟨its,n,r,e,z⟩
theorem Inv.x_{pins:List (Addr×Obj)}{σ:St}{H:Hp}{s:Shared}{p:Addr}{xs ys:List V}{its its':List Value}{n n':Nat}{f:Obj->Obj}(I:Inv X pins σ H s)(h:H p=some (.lst xs))
  (ho:s.heap.get? p=some {cls:=.type "list",data:=.seq its.toArray n}) (hf:f {cls:=.type "list",data:=.seq its.toArray n}={cls:=.type "list",data:=.seq its'.toArray n' }) (r:Vals ys its') (hz:ys.length<=sizeLine) (t:Nat) :
  Inv X pins σ (upd H p (.lst ys)) {s with heap:=s.heap.update p f,toks:=t}:=by
 have e:(s.heap.update p f).get? p=some {cls:=.type "list",data:=.seq its'.toArray n' }:=by
  rw[Heap.get?_update_self f ho (by rw[hf]<;>rfl),hf]
 refine I.write (x:=p) (e:=p) (by rw[h];trivial) (.inl rfl) (fun b u hb q=>(Heap.get?_update_other _ _ (Ne.symm hb)).trans q) ⟨_,e⟩ ?_;exact⟨hz,its',n',r,e⟩
noncomputable def zW:V->V->V->Hp->(Hp->Prop)->Prop:=fun o i v H Q=>∃p xs k j,o=.ref p/\i=.int k/\H p=some (.lst xs)/\ixN xs.length k=some j/\Q (upd H p (.lst (xs.set j v)))
theorem set_list:iQ X zW:=by
 intro pins s σ H o i v ov iv u Q I ro ri rv h;obtain⟨p,xs,k,j,rfl,rfl,hp,hj,q⟩:=h;cases ro;obtain⟨t,rfl⟩:=ri;obtain⟨its,n,r,ho,hz⟩:=I.lst hp;obtain⟨h1,h2,h3,h4⟩:=pU hj;have hl:=r.length;have hn:=eh;have I':Inv X pins σ (upd H p (.lst (xs.set j v))) {s with heap:=s.heap.update p (Obj.mapSeq (·.setIfInBounds j u))} :=
  I.x_ hp ho (ot its n j u) (r.set rv j) (by rw[List.length_set];exact hz) s.toks
 by_cases h0:0<=k
 ·have hk:k.toNat=j:=by
   rw[seqIndex_of h0 h4]at h1;exact Option.some.inj h1
  exact PySem.W.ki_setAt ho h0 (by omega) (by rw[List.size_toArray,<-hl];exact h4) (by rw[hk];exact⟨_,I',q⟩)
 ·have hk:(k+(its.toArray.size:Int)).toNat=j:=by
   rw[seqIndex_neg (by omega) h3]at h1;rw[List.size_toArray,<-hl];exact Option.some.inj h1
  exact PySem.W.ki_setBack ho (by omega) (by rw[List.size_toArray,<-hl];exact h3) (by omega) (by rw[hk];exact⟨_,I',q⟩)
theorem lu(lo hi:Option Int)(n:Nat):(sliceBounds lo hi none n).1=((HT.sIx n 0 lo:Nat):Int)/\(sliceBounds lo hi none n).2.1=((HT.sIx n n hi:Nat):Int)/\(sliceBounds lo hi none n).2.2=1:=by
 refine⟨?_,?_,rfl⟩
 ·cases lo with
  |none=>simp[sliceBounds,HT.sIx]
  |some i =>
   simp only[sliceBounds,HT.sIx,Option.getD_none,show(1:Int)>0 by decide,if_true];by_cases h:i<0
   ·simp only[h,if_true]<;>omega
   ·simp only[h,if_false]<;>omega
 ·cases hi with
  |none=>simp[sliceBounds,HT.sIx]
  |some i =>
   simp only[sliceBounds,HT.sIx,Option.getD_none,show(1:Int)>0 by decide,if_true];by_cases h:i<0
   ·simp only[h,if_true]<;>omega
   ·simp only[h,if_false]<;>omega
theorem jZ(its:List Value)(lo hi:Option Int):slicePick its.toArray lo hi none=((its.drop (HT.sIx its.length 0 lo)).take (HT.sIx its.length its.length hi - HT.sIx its.length 0 lo)).toArray:=by
 obtain⟨h1,h2,h3⟩:=lu lo hi its.toArray.size;unfold slicePick;rw[h1,h2,h3];simp only[sliceRange_one,pick_run,List.size_toArray]<;>rfl
noncomputable def zX(K:PySem.W.Frag):V->Option Int->Option Int->Hp->VK->Prop:=fun x lo hi H Q=>∃a xs,x=.ref a/\SqL K H a xs/\∀p,H p=none->Q (.ref p) (upd H p (.lst (mO xs lo hi)))
theorem vn:SlR X (zX X.K):=by
 intro pins s σ H x v vl vu lo hi sl Q I rx hs pl pu h;obtain⟨a,xs,rfl,hx,q⟩:=h;cases rx;obtain⟨its,r,ht,hz⟩:=I.list hx;have hlen:=r.length;refine⟨"list",_,slot_list_getitem.lookup,ht.isList.typeIs,?_⟩;refine wpAny_getItem_list_slice ht.isList hs pl pu .none (by simp) ?_ (by rw[List.size_toArray]<;>omega);rw[jZ,<-hlen];refine⟨.ref s.heap.objs.size,_,I.laid (t':=s.toks) (o:=.lst (mO xs lo hi)) (fun b ob q=>Heap.get?_push_of_some _ q) (Nat.le_refl _) ?_,rfl,q _ (I.hok.fresh (Nat.le_refl _))⟩;exact⟨Nat.le_trans (gT xs lo hi) hz,_,0,(r.drop (HT.sIx xs.length 0 lo)).take (HT.sIx xs.length xs.length hi - HT.sIx xs.length 0 lo),Heap.get?_push_size _ rfl⟩
theorem fN:fL X (.builtin "len") (fun xs H Q=>∃p ys,xs=[.ref p]/\(SqL X.K H p ys\/SqT X.K H p ys)/\Q (.int ys.length) H):=by
 intro pins s σ H xs us Q I r h;obtain⟨p,ys,rfl,hq,q⟩:=h;obtain⟨u,rfl,rx⟩:=vals1 r;cases rx;have hn:=eh;rcases hq with hq|hq
 ·obtain⟨its,r',pl,hz⟩:=I.list hq;have hlen:=r'.length;exact Calls.call_len_list pl.isList (by simp only[List.size_toArray]<;>omega) ⟨.int ys.length,H,I.tok _,⟨s.toks+1,by rw[List.size_toArray,hlen]⟩,q⟩
 ·obtain⟨its,r',pl,hz⟩:=I.tuple hq;have hlen:=r'.length;exact len_tuple pl (by simp only[List.size_toArray]<;>omega) ⟨.int ys.length,H,I.tok _,⟨s.toks+1,by rw[List.size_toArray,hlen]⟩,q⟩
theorem ly:fL X (.builtin "len") (fun xs H Q=>∃z,xs=[.str z]/\z.length<=sizeLine/\Q (.int z.length) H):=by
 intro pins s σ H xs us Q I r h;obtain⟨z,rfl,hz,q⟩:=h;obtain⟨u,rfl,t,rfl⟩:=vals1 r;have hn:=eh;exact len_str (by omega) ⟨.int z.length,H,I.tok _,⟨_,rfl⟩,q⟩
theorem fh:fL X (.type "tuple") (fun xs H Q=>∃p ys,xs=[.ref p]/\((SqL X.K H p ys/\∀l,H l=none->Q (.ref l) (upd H l (.tup ys)))\/(SqT X.K H p ys/\Q (.ref p) H))):=by
 intro pins s σ H xs us Q I r h;obtain⟨p,ys,rfl,h⟩:=h;obtain⟨u,rfl,rx⟩:=vals1 r;cases rx;rcases h with⟨hq,q⟩|⟨hq,q⟩
 ·obtain⟨its,r',pl,hz⟩:=I.list hq;have hlen:=r'.length;refine call_tuple_list pl.isList (fun h' kp=>?_) (by simp only[List.size_toArray]<;>omega);have I1:Inv X pins σ H {s with heap:=h' }:=I.kept (t':=s.toks) kp;have I2:Inv X pins σ (upd H h'.objs.size (.tup ys)) {s with heap:=h'.push {cls:=.type "tuple",data:=.seq its.toArray}} :=
   I1.laid (t':=s.toks) (fun b o e=>Heap.get?_push_of_some _ e) (Nat.le_refl _) (show bE X.prog X.w _ _ _ (.tup ys) from⟨hz,its,r',IsTup.new _ _⟩)
  exact⟨.ref h'.objs.size,_,I2,rfl,q _ (I1.hok.fresh (Nat.le_refl _))⟩
 ·obtain⟨its,r',pl,hz⟩:=I.tuple hq;exact call_tuple_same pl ⟨.ref p,H,I,rfl,q⟩
noncomputable def tyV(K:PySem.W.Frag)(T:String)(x:V)(H:Hp):Prop:=match x with
 |.str _=>T="str"
 |.int _=>T="int"
 |.ref p=>(T="list"/\∃xs,SqL K H p xs)\/(T="tuple"/\∃o,K.lookup p=some o/\o.cls=.type "tuple"/\o.dict=none) \/
   (T="dict"/\((∃kvs,H p=some (.dK kvs))\/∃kvs,H p=some (.dT kvs)))\/(T="set"/\∃S n,H p=some (.set S n))
 |_=>False
theorem lz{pins:List (Addr×Obj)}{σ:St}{H:Hp}{s:Shared}{T:String}{x:V}{v:Value}(I:Inv X pins σ H s)(r:RelV x v)(ty:tyV X.K T x H):
  s.TypeIs v T/\∀a,v=.ref a->∃ob,s.heap.get? a=some ob/\ob.dict=none:=by
 cases x with
 |str z =>
  obtain⟨t,rfl⟩:=r;cases(show T="str" from ty);exact⟨typeIs_str s z t,fun _ e=>nomatch e⟩
 |int i =>
  obtain⟨t,rfl⟩:=r;cases(show T="int" from ty);exact⟨typeIs_int s i t,fun _ e=>nomatch e⟩
 |ref p =>
  cases r;rcases ty with⟨rfl,xs,hq⟩|⟨rfl,o,hk,hc,hd⟩|⟨rfl,hk⟩|⟨rfl,S,n,hk⟩
  ·obtain⟨its,_,pl,_⟩:=I.list hq;refine⟨pl.isList.typeIs,fun a e=>?_⟩;cases e;obtain⟨o,n,e,c,hd,_⟩:=pl;exact⟨o,e,hd⟩
  ·refine⟨⟨o,I.kIn p o hk,hc⟩,fun a e=>?_⟩;cases e;exact⟨o,I.kIn _ o hk,hd⟩
  ·have z:∃o,s.heap.get? p=some o/\o.ExactDict:=by
    rcases hk with⟨kvs,hk⟩|⟨kvs,hk⟩
    ·obtain⟨_,_,_,_,o,_,_,e,ex,_⟩:=I.hok p _ hk;exact⟨o,e,ex⟩
    ·obtain⟨_,_,_,_,o,_,_,e,ex,_⟩:=I.hok p _ hk;exact⟨o,e,ex⟩
   obtain⟨o,e,ex⟩:=z;refine⟨⟨o,e,ex.1⟩,fun a e2=>?_⟩;cases e2;exact⟨o,e,ex.2.1⟩
  ·obtain⟨o,_,_,_,e,ex,_⟩:=I.hok p _ hk;refine⟨⟨o,e,ex.1⟩,fun a e2=>?_⟩;cases e2;exact⟨o,e,ex.2.1⟩
 |_=>exact False.elim ty
noncomputable def Bo(K:PySem.W.Frag)(T:String)(r:V->List V->Hp->VK->Prop)(to:TE):TE:=fun σ H Q=>to σ H fun x H1=>tyV K T x H1/\r x [] H1 Q
noncomputable def tBM(K:PySem.W.Frag)(T:String)(r:V->List V->Hp->VK->Prop)(to:TE)(t:TA):TE:=fun σ H Q=>to σ H fun x H1=>tyV K T x H1/\t σ H1 fun xs H2=>r x xs H2 Q
variable{o e:Expr}{es:List Expr}{to:TE}{t:TA}{name:Str}{apos cpos:Pos}{T id:String}{r:V->List V->Hp->VK->Prop}
theorem ya(pa:PlainAttrs T)(slot:Slot T name id)(hty:typeOf (.builtin id)=pure (.type "method_descriptor"))(hm:MtR X id r)(ho:PE X o to)
  (hbase:attributeBase o name X.env (eval o X.env)=eval o X.env:=by rfl) (hline:(apos.endLine==cpos.line)=true:=by rfl):PE X (.Call (.Attribute o name apos) [] [] cpos) (Bo X.K T r to):=by
 intro pins s σ H Q I h;refine wpAny_Call_method0_late hbase hline (thn (ho pins s σ H _ I h) fun v s1 ⟨x,H1,I1,r1,ty,q1⟩=>?_);obtain⟨h1,h2⟩:=lz I1 r1 ty;exact⟨T,id,pa,slot,hty,h1,h2,Calls.callWith_builtin rfl (PySem.evalArgs_none (hm pins s1 σ H1 x [] v [] Q I1 r1 .nil q1))⟩
theorem sM(pa:PlainAttrs T)(slot:Slot T name id)(hty:typeOf (.builtin id)=pure (.type "method_descriptor"))(hm:MtR X id r)(ho:PE X o to)(ha:PA X (e::es) t)
  (hbase:attributeBase o name X.env (eval o X.env)=eval o X.env:=by rfl)
  (hfew:((backTo cpos (starEach (e::es) X.env)).all (fun x=>!x.1)&&(backToKw cpos (keywordEach [] X.env)).all (fun x=>x.1.isSome)
   && decide ((e::es).length+([]:List Keyword).length+(if ([]:List Keyword).isEmpty then 0 else 1)<30))=true:=by rfl)
  (hline:(apos.endLine==cpos.line)=true:=by rfl) (hs:starEach (e::es) X.env=(false,eval e X.env)::starEach es X.env:=by rfl) (hplain:(backTo cpos (starEach es X.env)).any (·.1)=false:=by rfl) :
  PE X (.Call (.Attribute o name apos) (e::es) [] cpos) (tBM X.K T r to t):=by
 intro pins s σ H Q I h;refine wpAny_Call_method_late hbase hfew hline rfl (thn (ho pins s σ H _ I h) fun v s1 ⟨x,H1,I1,r1,ty,q1⟩=>?_);obtain⟨h1,h2⟩:=lz I1 r1 ty;refine⟨T,id,pa,slot,hty,h1,h2,?_⟩;have hA:=ha cpos pins s1 σ H1 _ I1 q1;rw[hs]at hA ⊢;refine Calls.callWith_builtin (by show(false||(backTo cpos (starEach es X.env)).any (·.1))=false;rw[hplain]<;>rfl) (Calls.evalArgs_plain ?_);exact thn hA fun us s2 ⟨vs,H2,I2,r2,q2⟩=>hm pins s2 σ H2 x vs v us Q I2 r1 r2 q2
end
end L2
namespace L2
open PySem PySem.Spec PyProof.Rows
noncomputable def MtM(X:Cx)(id:String)(r:V->List V->Hp->VK->Prop):Prop :=
 ∀(pins:List (Addr×Obj)) (s:Shared) (σ:St) (H:Hp) (x:V) (xs:List V) (v:Value) (us:List Value) (Q:VK),Inv X pins σ H s->RelV x v->Vals xs us->r x xs H Q ->
  wpAny (model X.prog X.w) X.A (call (.builtin id) (v::us)) (EP X pins σ Q) X.xe s
theorem Vals.one:∀{x:V}{us:List Value},Vals [x] us->∃u,us=[u]/\RelV x u
 |_,_,.cons r .nil=>⟨_,rfl,r⟩
theorem Vals.zero:∀{us:List Value},Vals [] us->us=[]
 |_,.nil=>rfl
theorem Vals.reverse{xs:List V}{us:List Value}(h:Vals xs us):Vals xs.reverse us.reverse:=by
 induction h with
 |nil=>exact .nil
 |cons r t ih=>rw[List.reverse_cons,List.reverse_cons];exact Vals.append ih (.cons r .nil)
section
variable{X:Cx}{pins:List (Addr×Obj)}{σ:St}{H:Hp}{s:Shared}{l b:Addr}{xs ys zs:List V}
theorem Inv.j3{its its':List Value}{n:Nat}{f:Array Value->Array Value}{t':Nat}(I:Inv X pins σ H s)(hH:H l=some (.lst xs))
  (e:s.heap.get? l=some {cls:=.type "list",data:=.seq its.toArray n}) (hf:f its.toArray=its'.toArray) (hv:Vals ys its') (hz:ys.length<=sizeLine) :
  Inv X pins σ (upd H l (.lst ys)) {s with heap:=s.heap.update l (Obj.mapSeq f),toks:=t' }:=by
 have q:=PySem.IsL.update e f;rw[hf]at q;refine I.write (x:=l) (e:=l) (by rw[hH];exact trivial) (.inl rfl) (fun b' u hb hu=>(Heap.get?_update_other s.heap (Obj.mapSeq f) (Ne.symm hb)).trans hu) ⟨_,q⟩ ?_;exact⟨hz,its',_,hv,q⟩
theorem Inv.Bp{its:List Value}{t':Nat}(I:Inv X pins σ H s)(hv:Vals ys its)(hz:ys.length<=sizeLine):
  Inv X pins σ (upd H s.heap.objs.size (.lst ys)) {s with heap:=s.heap.push {cls:=.type "list",data:=.seq its.toArray},toks:=t' } :=
 I.laid (fun _ _ q=>Heap.get?_push_of_some _ q) (Nat.le_refl _) ⟨hz,its,0,hv,Heap.get?_push_size _ rfl⟩
theorem Inv.fresh(I:Inv X pins σ H s):H s.heap.objs.size=none:=I.hok.fresh (Nat.le_refl _)
theorem Inv.yb(I:Inv X pins σ H s)(hH:H l=some (.lst xs)):xs.length<=sizeLine/\∃(its:List Value) (n:Nat),Vals xs its/\xs.length=its.length/\s.heap.get? l=some {cls:=.type "list",data:=.seq its.toArray n}:=by
 obtain⟨z,its,n,r,e⟩:=I.hok l _ hH;exact⟨z,its,n,r,r.length,e⟩
theorem sN{n:Nat}(h:n<=sizeLine):Builtin.List.listTooLong n=false:=by
 unfold Builtin.List.listTooLong;exact decide_eq_false (by omega)
end
section
variable{X:Cx}
noncomputable def vp:V->List V->Hp->VK->Prop:=fun x vs H Q=>∃l xs y,x=.ref l/\vs=[y]/\H l=some (.lst xs)/\xs.length<sizeLine/\Q .non (upd H l (.lst (xs++[y])))
theorem kr:MtM X "list.append" vp:=by
 intro pins s σ H x vs v us Q I rx rv h;obtain⟨l,xs,y,rfl,rfl,hH,hz,q⟩:=h;cases rx;obtain⟨u,rfl,ru⟩:=rv.one;obtain⟨z,its,n,r,hl,e⟩:=I.yb hH;refine call_meets F.slot_list_append ⟨_,e,rfl⟩ F.entry_list_append (F.args_list_append_2 _ _) (PySem.list_append l its.toArray n u (by rw[List.size_toArray];omega)) ⟨e,?_⟩;refine⟨.non,_,I.j3 (its':=its++[u]) hH e (by simp) (r.append (.cons ru .nil)) ?_,rfl,q⟩;rw[List.length_append,List.length_singleton];omega
noncomputable def sO:V->List V->Hp->VK->Prop:=fun x vs H Q=>∃l xs,x=.ref l/\vs=[]/\H l=some (.lst xs)/\Q .non (upd H l (.lst xs.reverse))
theorem ou:MtM X "list.reverse" sO:=by
 intro pins s σ H x vs v us Q I rx rv h;obtain⟨l,xs,rfl,rfl,hH,q⟩:=h;cases rx;have hus:=rv.zero;subst hus;obtain⟨z,its,n,r,hl,e⟩:=I.yb hH;refine call_meets F.slot_list_reverse ⟨_,e,rfl⟩ F.entry_list_reverse (F.args_list_reverse_1 _) (AutoSeq1.list_reverse_list_0 l its.toArray n (by rw[List.size_toArray];omega)) ⟨e,?_⟩;refine⟨.non,_,I.j3 (its':=its.reverse) hH e (by simp) r.reverse ?_,rfl,q⟩;rw[List.length_reverse];omega
end
section
variable{prog:Program}{w:World}{A:Around}{E:Value->Shared->Prop}{s:Shared}
set_option maxRecDepth 100000 in
end
section
variable{X:Cx}
end
end L2
namespace Att
open PySem PySem.W PySem.Calls PyProof.Rows
theorem iq{P:Params}{h:Heap}:∀(ns:List Int) (vs:List Value),WellAll P h vs (ns.map WData.int)->IntsAre vs ns:=by
 intro ns;induction ns with
 |nil =>
  intro vs w;rw[List.map_nil]at w;cases w;exact .nil
 |cons n ns ih =>
  intro vs w;rw[List.map_cons]at w;cases w with
  |cons a b =>
   cases a;exact .cons _ _ (ih _ b)
theorem qZ{l:OpenLaw}{n:Nat}(hn:l.most=some n){P:Params}{h:Heap}{args:List WData}{vals:List Value}
  (hpre:l.row.toRowW.claim.pre args=true) (hwl:WellAll P h vals args) :
  ∃a vs ns,vals=[Value.ref a]/\args=[WData.list (ns.map WData.int)]/\h.get? a=some {cls:=.type "list",data:=.seq vs.toArray}/\IntsAre vs ns/\ns.length<=n:=by
 have hsh:WShape.hasAll [] args [.list .int]=true:=(pre_splitW hpre).1;have hc:l.pre.holds [] {args:=args}=true:=(pre_splitW hpre).2;obtain⟨d,r,rfl,h1,h2⟩:=hasAllW_cons hsh;obtain rfl:=hasAllW_nil h2;obtain⟨xs,rfl,h3⟩:=hasW_list h1;obtain⟨ns,rfl⟩:=items_int h3;have hlen:ns.length<=n:=by
  unfold OpenLaw.pre at hc;have h4:(WTm.not (.lt (.lit (.int (n:Int))) (.len (.arg 0)))).holds [] {args:=[.list (ns.map .int)]}=true:=by
   have h4:=(holds_andW hc).1;rw[hn]at h4;exact h4
  have h5:=condW_of h4 (w_not (w_lt w_lit (w_len_list (w_arg rfl))));rw[List.length_map]at h5;refine Nat.le_of_not_lt fun q=>?_;have q':(n:Int)<((ns.length:Nat):Int):=by omega
  first
   |(rw[decide_eq_true q']at h5;exact absurd h5 (by decide))
   |(simp at h5;omega)
 cases hwl with
 |cons w1 w2 =>
  cases w2;cases w1 with
  |list ho hall=>exact⟨_,_,ns,rfl,rfl,ho,iq ns _ hall,hlen⟩
theorem q_(l:OpenLaw)(args:List WData):l.row.toRowW.claim.post args (.bool true) args=true :=
 postW_of (r:=l.row.toRowW) (X:=(true==true))
  (show WShape.has [] (.bool true) .bool=true by first|rfl|decide|simp[WShape.has,WShape.arms,WShape.armsAll])
  (show(WTm.eq .res (.lit (.bool true))).value [] {args:=args,res:=some (.bool true),after:=args}=some (.bool (true==true)) from w_eq_bool (w_res rfl) w_lit) rfl
theorem mP{l:OpenLaw}{n:Nat}{q:Program}{loose:List Str}{XP:(Str->Option Value)->Heap->Prop}{YP:World->Heap->Prop}{d:DefRec}
  (hn:l.most=some n) (hdf:d.params.defaults=[])
  (call:∀(w:World) (s₀ s₁:Shared) (mg mb:Str->Option Value) (fa:Addr) (o:Obj) (pm cd doc:Value) (a:Addr) (vs:List Value) (ns:List Int),
   Ground q loose [] XP w s₀ mg mb s₁.heap->YP w s₁.heap ->
   s₁.heap.get? fa=some o->o.data=.func (docDef d.name d.params d.body d.scope pm cd doc)->s₁.heap.CodeRec cd d.name->mg d.name=some (.ref fa) ->
   s₁.heap.get? a=some {cls:=.type "list",data:=.seq vs.toArray}->IntsAre vs ns->ns.length<=n->s₁.gens=#[] ->
   codeAny (model l.prog w) callerA (.call (.ref fa) ⟨[.ref a],[]⟩) (fun r s'=>r=.ok (.ret (.bool true))/\OldK s₁.heap s'.heap/\s'.os=s₁.os/\AllBare s'.gens) s₁) :
  WalkO q loose XP YP l.row.toRowW d [] (fun f vs=>PySem.call f vs):=by
 intro w s₀ s₁ mg mb G Y fa o pm cd doc dV kV ho hd hcd hD hmg hg args vals as hpre hlay hrd hwl hlo;obtain rfl:dV=.none:=Dflts.none hD hdf;obtain rfl:kV=.none:=Dflts.noKw hD;obtain⟨a,vs,ns,rfl,rfl,hobj,hints,hlen⟩:=qZ hn hpre hwl;refine enter_call (codeAny_mono (call w s₀ s₁ mg mb fa o pm cd doc a vs ns G Y ho (fd_plain hd) hcd hmg hobj hints hlen hg) fun r s' hq=>?_);obtain⟨rfl,h2,h3,h4⟩:=hq;exact⟨.inl ⟨.bool true,.bool true,[],rfl,fun _=>rfl,.bool true,q_ l _,fun _=>⟨List.Pairwise.nil,fun _ hm=>(nomatch hm)⟩⟩,h2,h3,h4⟩
section
variable{prog:Program}{w:World}{A:Around}{E:Value->Shared->Prop}{s:Shared}{K:Frag}
end
end Att
namespace L2
open PySem PySem.Spec PyProof.Rows
theorem ku:∀{vs:List Value}{ns:List Int},IntsAre vs ns->Vals (ns.map V.int) vs
 |_,_,.nil=>.nil
 |_,_,.cons n t h=>.cons ⟨t,rfl⟩ (ku h)
noncomputable def yc(H:Hp):Prop:=∀b,H b=none\/∃o xs,H b=some (.frz o (.lst xs))
theorem sP{P:Program}{w:World}{K:PySem.W.Frag}{mg mb:Str->Option Value}{CX:CXT}{k:Nat}{fa a:Addr}{fd:FuncData}{x:Str}{sp:Sp}{s₁:Shared}{vs:List Value}{ns:List Int}
  (KX:K.In s₁.heap) (hns:s₁.heap.Ns mainGlobals mg) (hb:s₁.heap.Ns builtinsNs mb) (hbb:∀x:Str,x≠"__name__"->mb x=bootBuiltins x) (hlim:s₁.heap.NoLimit) (hg:s₁.gens=#[])
  (ha:s₁.heap.get? a=some {cls:=.type "list",data:=.seq vs.toArray}) (hi:IntsAre vs ns) (hl:ns.length<=sizeLine) (hr:ft k callerA)
  (F:∀base:Heap,K.In base->base.Ns mainGlobals mg->mM P w K mg base CX k fa fd [x] sp) (hbind:∀(s:Shared) (u:Value),BindsTo s fd ⟨[u],[]⟩ [(x,u)])
  (hsp:∀H:Hp,yc H->SqL K H a (ns.map V.int)->sp [.ref a] H (fun v _=>v=.bl true) fun _ _ _=>False)
  (hCX:∀H e s',CX [] H s₁ (fun _ _ _=>False) e s'->False) :
  codeAny (model P w) callerA (.call (.ref fa) ⟨[.ref a],[]⟩) (fun r s'=>r=.ok (.ret (.bool true))/\OldK s₁.heap s'.heap/\s'.os=s₁.os/\AllBare s'.gens) s₁:=by
 have rv:=ku hi;have lenV:=hi.length;have core:∀H:Hp,yc H->SqL K H a (ns.map V.int)->HOk P w H s₁.heap->(∀b,H b≠none->b=a)->(H a≠none->K.lookup a=none) ->
   codeAny (model P w) callerA (.call (.ref fa) ⟨[.ref a],[]⟩) (fun r s'=>r=.ok (.ret (.bool true))/\OldK s₁.heap s'.heap/\s'.os=s₁.os/\AllBare s'.gens) s₁:=by
  intro H hO hS hok hA hK;have iH:∀{b:Addr} {o:Obj},s₁.heap.get? b=some o->H b=none->(lb s₁.heap H).get? b=some o:=fun e n=>sj e n;have noA:∀{b:Addr} {o:Obj} {es:Array DictEntry} {ep:Nat},s₁.heap.get? b=some o->o.data=.dict es ep->H b=none:=fun {b o es ep} e d=>by
   cases q:H b with
   |none=>rfl
   |some u =>
    have e':b=a:=hA b (by rw[q];simp);subst e';rw[ha]at e;cases e;have d':Data.seq vs.toArray _=Data.dict es ep:=d;cases d'
  have nsK:∀{b:Addr} {m:Str->Option Value},s₁.heap.Ns b m->(lb s₁.heap H).Ns b m:=fun {b m} ⟨o,es,ep,e,d,r⟩=>⟨o,es,ep,iH e (noA e d),d,r⟩
  have hKb:K.In (lb s₁.heap H):=fun b o e=>iH (KX b o e) (by
   cases q:H b with
   |none=>rfl
   |some u =>
    have e':b=a:=hA b (by rw[q];simp);subst e';rw[hK (by rw[q];simp)]at e;cases e)
  have hM:Mod K mg (lb s₁.heap H):=⟨hKb,nsK hns,⟨mb,nsK hb,hbb⟩,let ⟨mc,h1,h2⟩:=hlim;⟨mc,nsK h1,h2⟩⟩
  have e0:vf P w K mg (lb s₁.heap H) callerA [] s₁ H:=⟨rfl,hM,fun b o e=>uY e,Nat.le_of_eq (qT _ _),trivial,fun b hb=>absurd (show b∈([]:List Addr) from hb) (by simp),hok,.of_eq hg⟩
  refine codeAny_mono ((F _ hKb (nsK hns)).run callerA [] s₁ H ⟨[.ref a],[]⟩ [.ref a] [.ref a] _ _ hr e0 (hbind s₁ (.ref a)) (.cons rfl .nil) (hsp H hO hS)) fun r s' h=>?_;cases r with
  |error e=>exact(hCX H e s' h).elim
  |ok fl =>
   cases fl with
   |next=>exact False.elim h
   |brk=>exact False.elim h
   |cont=>exact False.elim h
   |ret u =>
    obtain⟨v,H',os,bare,un,hok',r',q⟩:=h;have q':v=.bl true:=q;subst q';obtain rfl:u=Value.bool true:=r';refine⟨rfl,OldK.of_keep fun b o e=>?_,os,bare⟩;cases q:H b with
    |none=>exact un.keep b o e q (by intro z;exact absurd (show b∈([]:List Addr) from z) (by simp)) (by simp)
    |some u =>
     rcases hO b with z|⟨ob,xs,z⟩
     ·rw[q]at z;cases z
     ·have z2:=un.frzs b ob _ z;obtain⟨e1,_⟩:=hok b _ z;obtain⟨e2,_⟩:=hok' b _ z2;rw[e]at e1;cases e1;exact e2
 cases hk:K.lookup a with
 |some o =>
  have e:=KX a o hk;rw[ha]at e;cases e;refine core (fun _=>none) (fun _=>.inl rfl) (.inr ⟨_,vs.toArray,_,hk,rfl,rfl,rfl,by rw[List.size_toArray,lenV];exact hl,by simpa using rv⟩) (fun b u z=>by have z':(none:Option HO)=some u:=z;cases z') (fun b z=>absurd rfl z) fun z=>absurd rfl z
 |none =>
  refine core (fun b=>if b=a then some (.frz {cls:=.type "list",data:=.seq vs.toArray} (.lst (ns.map V.int))) else none) (fun b=>?_) (.inl (.inr ⟨{cls:=.type "list",data:=.seq vs.toArray},if_pos rfl⟩)) (fun b u z=>?_) (fun b z=>?_) fun _=>hk
  ·by_cases hb:b=a
   ·exact .inr ⟨_,_,if_pos hb⟩
   ·exact .inl (if_neg hb)
  ·by_cases hb:b=a
   ·have z':=(if_pos hb).symm.trans z;cases z';subst hb;exact⟨ha,by rw[List.length_map];exact hl,vs,_,rv,ha⟩
   ·have z':=(if_neg hb).symm.trans z;cases z'
  ·by_cases hb:b=a
   ·exact hb
   ·exact absurd (if_neg hb) z
end L2
namespace L2
open PySem PySem.Spec PyProof.Rows
theorem vq{l:PySem.W.OpenLaw}{n k:Nat}{q:Program}{loose:List Str}{XP:(Str->Option Value)->Heap->Prop}{YP:World->Heap->Prop}{d:DefRec}{K:Params->PySem.W.Frag}{CX:World->CXT}{sp:World->Sp}{x:Str}
  (hn:l.most=some n) (hn2:n<=sizeLine) (hdf:d.params.defaults=[]) (hr:ft k callerA)
  (hY:∀(w:World) (h:Heap),YP w h->(K w.params).In h)
  (F:∀(w:World) (mg:Str->Option Value) (fa:Addr) (h:Heap),(K w.params).In h->h.Ns mainGlobals mg->mg d.name=some (.ref fa) ->
   ∃fd:FuncData,(∀(s:Shared) (u:Value),BindsTo s fd ⟨[u],[]⟩ [(x,u)]) /\
    ∀base:Heap,(K w.params).In base->base.Ns mainGlobals mg->mM l.prog w (K w.params) mg base (CX w) k fa fd [x] (sp w))
  (hsp:∀(w:World) (H:Hp) (a:Addr) (ns:List Int),ns.length<=n->yc H->SqL (K w.params) H a (ns.map V.int)->sp w [.ref a] H (fun v _=>v=.bl true) fun _ _ _=>False)
  (hCX:∀(w:World) (H:Hp) (s:Shared) (e:Value) (s':Shared),CX w [] H s (fun _ _ _=>False) e s'->False) :
  PySem.W.WalkO q loose XP YP l.row.toRowW d [] (fun f vs=>PySem.call f vs):=by
 refine Att.mP hn hdf fun w s₀ s₁ mg mb fa o pm cd doc a vs ns G Y ho hd hcd hmg hobj hints hlen hg=>?_;have KX:=hY w _ Y;obtain⟨fd,hb,hF⟩:=F w mg fa _ KX G.T.g hmg;exact sP KX G.T.g G.T.b G.T.builtins G.T.nolimit hg hobj hints (Nat.le_trans hlen hn2) hr hF hb (fun H hO hS=>hsp w H a ns hlen hO hS) fun H e s'=>hCX w H s₁ e s'
end L2
namespace L2
open PySem PySem.Spec PyProof.Rows
noncomputable def eU(s:Stmt):Arguments:=match s with
 |.FunctionDef _ a _ _ _ _ _ _ _ _=>a
 |_=>{posonlyargs:=[],args:=[],vararg:=none,kwonlyargs:=[],kw_defaults:=[],kwarg:=none,defaults:=[]}
noncomputable def cu(s:Stmt):List Stmt:=match s with
 |.FunctionDef _ _ b _ _ _ _ _ _ _=>b
 |_=>[]
noncomputable def aK(s:Stmt):Scope:=match s with
 |.FunctionDef _ _ _ _ _ _ sc _ _ _=>sc
 |_=>{kind:=.function,names:=[],isGenerator:=false,isCoroutine:=false}
noncomputable abbrev CX0:CXT:=fun _ _ _ _ _ _=>False
noncomputable abbrev E0:XK:=fun _ _ _=>False
theorem zY{X:Cx}:Passes CX0 X E0:=fun _ _ _ _ _ _ _ h=>h.elim
structure Fun(K:PySem.W.Frag)(x qual:Str)(st:Stmt)(f:Addr)(fd:FuncData):Prop where
 ex:∃(oc:Value) (od:Option Addr) (kV doc pm:Value) (an:Option Addr) (cdv ct:Value) (osl:Array (Option Value)),
  fd=PySem.W.fnOf x qual (eU st) (cu st) (aK st) .none kV doc pm an cdv ct/\K.lookup f=some ⟨oc,od,.func fd,osl⟩/\PySem.W.codeIn K cdv qual=true
 kp:PySem.W.keepIn K (.ref f)=true
section
variable{P:Program}{w:World}{K:PySem.W.Frag}{mg:Str->Option Value}{base:Heap}
theorem Fun.ok{x qual:Str}{st:Stmt}{f:Addr}{fd:FuncData}{N ps:List Str}{k:Nat}{sp:Sp}(F:Fun K x qual st f fd)(S:dB N ps (aK st))(len:∀vs H Q E,sp vs H Q E->vs.length=ps.length)
  (hbody:∀(cdv:Value) (A:Around) (outer:List Env) (s:Shared) (H:Hp) (vs:List V) (Q:VK) (E:XK),ft k (A.deeper (envOfC qual (aK st) s.heap.objs.size f cdv))->sp vs H Q E ->
   ∃t,PSs (om CX0 P w K mg base N qual (aK st) f cdv A outer s H E).nox (cu st) t/\t {nx:=fun _ H'=>Q .non H',rt:=Q} (start N vs) H):mM P w K mg base CX0 (k+1) f fd ps sp:=by
 obtain⟨oc,od,kV,doc,pm,an,cdv,ct,osl,rfl,lk,hcd⟩:=F.ex;refine zS lk hcd S len fun A outer s H vs Q E hr hsp=>?_;obtain⟨t,h,q⟩:=hbody cdv A outer s H vs Q E hr hsp;exact⟨t,h.nox,q⟩
theorem yd{x qual:Str}{st:Stmt}{f:Addr}{oc:Value}{od an:Option Addr}{osl:Array (Option Value)}{kV doc pm cdv ct:Value}(l:K.lookup f=some ⟨oc,od,.func (PySem.W.fnOf x qual (eU st) (cu st) (aK st) .none kV doc pm an cdv ct),osl⟩)
  (c:PySem.W.codeIn K cdv qual=true) (k:PySem.W.keepIn K (.ref f)=true):Fun K x qual st f (PySem.W.fnOf x qual (eU st) (cu st) (aK st) .none kV doc pm an cdv ct):=⟨⟨oc,od,kV,doc,pm,an,cdv,ct,osl,rfl,l,c⟩,k⟩
end
theorem rf{n:Nat}(h:n<=1000):n<sizeLine:=Nat.lt_of_le_of_lt h (by decide)
section
variable{X:Cx}
end
noncomputable def ye(H H':Hp):Prop:=∀b o,H b=some o->H' b=some o
end L2
namespace L2
open PySem PySem.Spec PyProof.Rows
section
variable{κ:Type}[DecidableEq κ]
noncomputable def cF(kvs:List (κ×V))(k:κ):Option V:=(kvs.find? fun kv=>decide (kv.1=k)).map (·.2)
noncomputable def putK(kvs:List (κ×V))(k:κ)(v:V):List (κ×V) :=
 if (kvs.any fun kv=>decide (kv.1=k))=true then kvs.map (fun kv=>if kv.1=k then(kv.1,v) else kv) else kvs++[(k,v)]
theorem dk{p:κ×V}{r:List (κ×V)}{k:κ}(e:p.1=k):cF (p::r) k=some p.2:=by simp[cF,List.find?_cons,e]
theorem dm{p:κ×V}{r:List (κ×V)}{k:κ}(e:¬p.1=k):cF (p::r) k=cF r k:=by simp[cF,List.find?_cons,e]
theorem fO(k:κ):∀kvs:List (κ×V),(kvs.any fun kv=>decide (kv.1=k))=(cF kvs k).isSome
 |[]=>rfl
 |p::r=>by
  rw[List.any_cons];by_cases e:p.1=k
  ·simp only[dk e,decide_eq_true e,Bool.true_or,Option.isSome_some]
  ·rw[dm e,decide_eq_false e,Bool.false_or];exact fO k r
theorem gU(kvs:List (κ×V))(k:κ)(v:V):(putK kvs k v).length<=kvs.length+1:=by
 unfold putK;split
 ·rw[List.length_map];omega
 ·rw[List.length_append,List.length_cons,List.length_nil];omega
theorem sQ{kvs:List (κ×V)}{k:κ}(v:V)(h:cF kvs k=none):putK kvs k v=kvs++[(k,v)]:=by
 unfold putK;rw[fO,h];exact if_neg (by decide)
theorem ip.dn{o:Option V}{u:Option Value}(r:ip o u):o.isSome=u.isSome:=by
 cases o with
 |none=>cases u with
  |none=>rfl
  |some _=>exact(show False from r).elim
 |some _=>cases u with
  |none=>exact(show False from r).elim
  |some _=>rfl
theorem ip.getD{o:Option V}{u:Option Value}{d:V}{d':Value}(r:ip o u)(rd:RelV d d'):RelV (o.getD d) (u.getD d'):=by
 cases o with
 |none=>cases u with
  |none=>exact rd
  |some _=>exact(show False from r).elim
 |some _=>cases u with
  |none=>exact(show False from r).elim
  |some _=>exact r
theorem KV.val{kvs:List (κ×V)}{vs:List (κ×Value)}(r:KV kvs vs)(k:κ):ip (cF kvs k) (valueAt vs k):=by
 unfold KV at r;induction r with
 |nil=>exact True.intro
 |@cons p q ps qs h t ih =>
  obtain⟨h1,h2⟩:=h;by_cases e:p.1=k
  ·have e':q.1=k:=h1.symm.trans e;have b:valueAt (q::qs) k=some q.2:=by simp[valueAt,List.find?_cons,e']
   rw[dk e,b];exact h2
  ·have e':¬q.1=k:=fun z=>e (h1.trans z);have b:valueAt (q::qs) k=valueAt qs k:=by simp[valueAt,List.find?_cons,e']
   rw[dm e,b];exact ih
theorem KV.any{kvs:List (κ×V)}{vs:List (κ×Value)}(r:KV kvs vs)(k:κ):(kvs.any fun kv=>decide (kv.1=k))=vs.any fun kv=>decide (kv.1=k):=by
 unfold KV at r;induction r with
 |nil=>rfl
 |cons h t ih=>rw[List.any_cons,List.any_cons,ih,h.1]
theorem KV.yf{kvs:List (κ×V)}{vs:List (κ×Value)}(r:KV kvs vs)(k:κ){y:V}{u:Value}(ry:RelV y u):
  KV (kvs.map fun kv=>if kv.1=k then(kv.1,y) else kv) (vs.map fun kv=>if kv.1=k then(kv.1,u) else kv):=by
 unfold KV at r ⊢;induction r with
 |nil=>exact .nil
 |@cons p q ps qs h t ih =>
  rw[List.map_cons,List.map_cons];refine .cons ?_ ih;obtain⟨h1,h2⟩:=h;by_cases e:p.1=k
  ·rw[if_pos e,if_pos (h1.symm.trans e)];exact⟨h1,ry⟩
  ·rw[if_neg e,if_neg (fun z=>e (h1.trans z))];exact⟨h1,h2⟩
theorem KV.put{kvs:List (κ×V)}{vs:List (κ×Value)}(r:KV kvs vs)(k:κ){y:V}{u:Value}(ry:RelV y u):KV (putK kvs k y) (stored vs k u):=by
 unfold putK stored;rw[r.any k];by_cases e:(vs.any fun kv=>decide (kv.1=k))=true
 ·rw[if_pos e,if_pos e];exact r.yf k ry
 ·rw[if_neg e,if_neg e];exact Paired.snoc r ⟨rfl,ry⟩
theorem KV.length{kvs:List (κ×V)}{vs:List (κ×Value)}(r:KV kvs vs):kvs.length=vs.length:=Paired.length r
end
theorem kA{P:Program}{w:World}{k:Key}{u:Value}(r:RelV (kV k) u):(aO P w).is k u=true:=by
 cases k with
 |inl i=>obtain⟨t,e⟩:=(show ∃t,u=Value.int i t from r);subst e;exact mI P w i t
 |inr x=>obtain⟨t,e⟩:=(show ∃t,u=Value.str x t from r);subst e;exact mJ P w x t
theorem kB{P:Program}{w:World}:∀{ks:List Key}{us:List Value},Vals (ks.map kV) us->ItemsAre (aO P w) ks us
 |[],_,r=>by rw[List.map_nil]at r;cases r;exact .nil
 |k::ks,_,r=>by
  rw[List.map_cons]at r;cases r with
  |cons h t=>exact .cons (kA h) (kB t)
noncomputable abbrev KT(H:Hp):List (List Key×V)->List (List Key×Addr×Value)->Prop:=Paired fun p q=>p.1=q.1/\H q.2.1=some (.tup (p.1.map kV))/\RelV p.2 q.2.2
theorem KT.val{H:Hp}{kvs:List (List Key×V)}{xs:List (List Key×Addr×Value)}(r:KT H kvs xs)(k:List Key):ip (cF kvs k) ((atKey xs k).map (·.2)):=by
 induction r with
 |nil=>exact True.intro
 |@cons p q ps qs h t ih =>
  obtain⟨h1,_,h2⟩:=h;by_cases e:p.1=k
  ·have e':q.1=k:=h1.symm.trans e;have b:atKey (q::qs) k=some q.2:=by simp[atKey,List.find?_cons,e']
   rw[dk e,b];exact h2
  ·have e':¬q.1=k:=fun z=>e (h1.trans z);have b:atKey (q::qs) k=atKey qs k:=by simp[atKey,List.find?_cons,e']
   rw[dm e,b];exact ih
theorem KT.yf{H:Hp}{kvs:List (List Key×V)}{xs:List (List Key×Addr×Value)}(r:KT H kvs xs)(k:List Key){y:V}{u:Value}(ry:RelV y u):
  KT H (kvs.map fun kv=>if kv.1=k then(kv.1,y) else kv) (xs.map (putAt k u)):=by
 induction r with
 |nil=>exact .nil
 |@cons p q ps qs h t ih =>
  rw[List.map_cons,List.map_cons];refine .cons ?_ ih;obtain⟨h1,h2,h3⟩:=h;unfold putAt;by_cases e:p.1=k
  ·rw[if_pos e,if_pos (h1.symm.trans e)];exact⟨h1,h2,ry⟩
  ·rw[if_neg e,if_neg (fun z=>e (h1.trans z))];exact⟨h1,h2,h3⟩
theorem KT.put{H:Hp}{kvs:List (List Key×V)}{xs:List (List Key×Addr×Value)}(r:KT H kvs xs)(k:List Key){b:Addr}{y:V}{u:Value}(hb:H b=some (.tup (k.map kV)))(ry:RelV y u):
  KT H (putK kvs k y) (storedH xs k b u):=by
 have e:(kvs.any fun kv=>decide (kv.1=k))=(atKey xs k).isSome:=by
  rw[fO,(r.val k).dn,Option.isSome_map]
 unfold putK storedH;rw[e];by_cases q:(atKey xs k).isSome=true
 ·rw[if_pos q,if_pos q];exact r.yf k ry
 ·rw[if_neg q,if_neg q];exact Paired.snoc r ⟨rfl,hb,ry⟩
theorem KT.keeps{H H':Hp}{kvs:List (List Key×V)}{xs:List (List Key×Addr×Value)}(r:KT H kvs xs)(ht:∀b ys,H b=some (.tup ys)->H' b=some (.tup ys)):KT H' kvs xs :=
 Paired.xH r fun _ _ z=>⟨z.1,ht _ _ z.2.1,z.2.2⟩
section
variable{P:Program}{w:World}{H:Hp}{h:Heap}{a:Addr}
theorem xg{u:HO}(ok:HOk P w H h)(e:Rd H a u):bE P w H h a u:=e.ok ok
theorem jb{kvs:List (Key×V)}(ok:HOk P w H h)(e:Rd H a (.dK kvs)):kvs.length<=sizeLine/\(a==sysModules)=false/\∃vs,KV kvs vs/\h.DictOf (aO P w) a vs :=
 show bE P w H h a (.dK kvs) from xg ok e
theorem sR{kvs:List (Key×V)}(ok:HOk P w H h)(e:H a=some (.dK kvs)):kvs.length<=sizeLine/\(a==sysModules)=false/\∃vs,KV kvs vs/\h.DictOf (aO P w) a vs:=jb ok (.inl e)
theorem gB{ks:List Key}(ok:HOk P w H h)(e:H a=some (.tup (ks.map kV))):(tupleKind (aO P w)).is h ks a:=by
 obtain⟨_,its,r,o,h1,h2,n,h3⟩:=(show bE P w H h a (.tup (ks.map kV)) from ok a _ e)
 exact⟨o,its.toArray,n,h1,h2,h3,by simpa using kB r⟩
theorem jc{kvs:List (List Key×V)}(ok:HOk P w H h)(e:Rd H a (.dT kvs)):kvs.length<=sizeLine/\(a==sysModules)=false /\
  ∃xs,KT H kvs xs/\h.DictOfH (tupleKind (aO P w)) a xs:=by
 obtain⟨z,y,xs,r,o,es,ep,h1,h2,h3,h4,h5⟩:=(show bE P w H h a (.dT kvs) from xg ok e)
 refine⟨z,y,xs,r,o,es,ep,h1,h2,h3,h4,fun x hx=>?_,h5⟩;have all:∀{l:List (List Key×V)} {m:List (List Key×Addr×Value)},KT H l m->∀x∈m,(tupleKind (aO P w)).is h x.1 x.2.1:=by
  intro l m q;induction q with
  |nil=>intro x hx;exact nomatch hx
  |@cons p q ps qs hq t ih =>
   intro x hx;rcases List.mem_cons.mp hx with e|hx
   ·subst e;exact gB ok (by rw[<-hq.1];exact hq.2.1)
   ·exact ih x hx
 exact all r x hx
theorem zZ{kvs:List (List Key×V)}(ok:HOk P w H h)(e:H a=some (.dT kvs)):kvs.length<=sizeLine/\(a==sysModules)=false /\
  ∃xs,KT H kvs xs/\h.DictOfH (tupleKind (aO P w)) a xs:=jc ok (.inl e)
end
noncomputable def da(H:Hp)(a:Addr)(y:V)(r:Option V):Prop :=
 (∃kvs k,Rd H a (.dK kvs)/\y=kV k/\r=cF kvs k)\/∃kvs k b,Rd H a (.dT kvs)/\y=.ref b/\H b=some (.tup (k.map kV))/\r=cF kvs k
noncomputable def rg(H:Hp)(a:Addr)(y v:V)(H':Hp):Prop :=
 (∃kvs k,H a=some (.dK kvs)/\y=kV k/\kvs.length<sizeLine/\H'=upd H a (.dK (putK kvs k v))) \/
 ∃kvs k b,H a=some (.dT kvs)/\y=.ref b/\H b=some (.tup (k.map kV))/\kvs.length<sizeLine/\H'=upd H a (.dT (putK kvs k v))
theorem da.k{H:Hp}{a:Addr}{kvs:List (Key×V)}{k:Key}(e:H a=some (.dK kvs)):da H a (kV k) (cF kvs k):=.inl ⟨kvs,k,.inl e,rfl,rfl⟩
theorem rg.k{H:Hp}{a:Addr}{kvs:List (Key×V)}{k:Key}{v:V}(e:H a=some (.dK kvs))(hl:kvs.length<sizeLine):rg H a (kV k) v (upd H a (.dK (putK kvs k v))):=.inl ⟨kvs,k,e,rfl,hl,rfl⟩
section
variable{X:Cx}{pins:List (Addr×Obj)}{σ:St}{H:Hp}{s:Shared}{a:Addr}{y v:V}{u r:Value}{o:Option V}{A:Around}{E:Value->Shared->Prop}
theorem Inv.big(I:Inv X pins σ H s):sysModules<s.heap.objs.size:=by
 have h:mainGlobals<s.heap.objs.size:=(I.mod.glob.keeps I.bk).lt;exact Nat.lt_trans (by decide) h
theorem rh{Q:Value->Shared->Prop}(hu:A.units+1<cLine)(I:Inv X pins σ H s)(g:da H a y (some v))(ry:RelV y u)(h:∀w' s',Inv X pins σ H s'->RelV v w'->Q w' s'):
  wpAny (model X.prog X.w) A (getItem (.ref a) u) Q E s:=by
 rcases g with⟨kvs,k,e,ey,l⟩|⟨kvs,k,b,e,ey,eb,l⟩
 ·subst ey;obtain⟨z,hd,vs,rel,dd⟩:=jb I.hok e;obtain⟨w',hw,rw'⟩:=ip.some_of (v:=v) (o:=valueAt vs k) (by rw[l];exact rel.val k);exact wpAny_getItem_of (kA ry) dd.mapOf hw (h w' _ (I.tok _) rw')
 ·subst ey;cases(show u=Value.ref b from ry);obtain⟨z,hd,xs,rel,dd⟩:=jc I.hok e;obtain⟨w',hw,rw'⟩:=ip.some_of (v:=v) (o:=(atKey xs k).map (·.2)) (by rw[l];exact rel.val k);obtain⟨p,hp,hp2⟩:=Option.map_eq_some_iff.mp hw;refine wpAny_getItem_heap (tupleKind_room_in1 hu) (gB I.hok eb) dd hp ?_;rw[hp2];exact h w' _ (I.tok _) rw'
theorem z9{Q:Value->Shared->Prop}(hu:A.units+1<cLine)(I:Inv X pins σ H s)(g:da H a y o)(ry:RelV y u)(h:∀s',Inv X pins σ H s'->Q (.bool o.isSome) s'):
  wpAny (model X.prog X.w) A (compareOp .In u (.ref a)) Q E s:=by
 rcases g with⟨kvs,k,e,ey,l⟩|⟨kvs,k,b,e,ey,eb,l⟩
 ·subst ey;obtain⟨z,hd,vs,rel,dd⟩:=jb I.hok e;refine wpAny_in_of (kA ry) hd dd.mapOf ?_;rw[<-(rel.val k).dn,<-l];exact h _ (I.tok _)
 ·subst ey;cases(show u=Value.ref b from ry);obtain⟨z,hd,xs,rel,dd⟩:=jc I.hok e;refine wpAny_in_heap (tupleKind_room_in1 hu) (gB I.hok eb) hd dd ?_;have q:=(rel.val k).dn;rw[Option.isSome_map]at q;rw[<-q,<-l];exact h _ (I.tok _)
theorem pV{Q:Value->Shared->Prop}(hu:A.units+1<cLine)(I:Inv X pins σ H s)(g:da H a y o)(ry:RelV y u)(h:∀s',Inv X pins σ H s'->Q (.bool (!o.isSome)) s'):
  wpAny (model X.prog X.w) A (compareOp .NotIn u (.ref a)) Q E s:=by
 rcases g with⟨kvs,k,e,ey,l⟩|⟨kvs,k,b,e,ey,eb,l⟩
 ·subst ey;obtain⟨z,hd,vs,rel,dd⟩:=jb I.hok e;refine wpAny_notIn_of (kA ry) hd dd.mapOf ?_;rw[<-(rel.val k).dn,<-l];exact h _ (I.tok _)
 ·subst ey;cases(show u=Value.ref b from ry);obtain⟨z,hd,xs,rel,dd⟩:=jc I.hok e;refine wpAny_notIn_heap (tupleKind_room_in1 hu) (gB I.hok eb) hd dd ?_;have q:=(rel.val k).dn;rw[Option.isSome_map]at q;rw[<-q,<-l];exact h _ (I.tok _)
theorem pW{h':Heap}{t':Nat}{ob:HO}(I:Inv X pins σ H s)(mu:Mut (H a))(hs:Heap.SameBut a s.heap h')(he:∃q,h'.get? a=some q)(new:bE X.prog X.w (upd H a ob) h' a ob):
  Inv X pins σ (upd H a ob) {s with heap:=h',toks:=t' } :=
 I.write (x:=a) (e:=a) mu (.inl rfl) (fun b q hb z=>(hs.2 b hb).trans z) he new
theorem yg{P:Program}{w:World}{H':Hp}{h':Heap}{kvs:List (Key×V)}{vs:List (Key×Value)}(z:kvs.length<=sizeLine)(hd:(a==sysModules)=false)(rel:KV kvs vs)(dd:h'.DictOf (aO P w) a vs):
  bE P w H' h' a (.dK kvs):=⟨z,hd,vs,rel,dd⟩
theorem rj{H':Hp}{Q:Unit->Shared->Prop}(hu:A.units+1<cLine)(I:Inv X pins σ H s)(g:rg H a y v H')(ry:RelV y u)(rv:RelV v r)(h:∀s',Inv X pins σ H' s'->Q () s'):
  wpAny (model X.prog X.w) A (setItem (.ref a) u r) Q E s:=by
 rcases g with⟨kvs,k,e,ey,l,eH⟩|⟨kvs,k,b,e,ey,eb,l,eH⟩
 ·subst ey eH;obtain⟨z,hd,vs,rel,dd⟩:=sR I.hok e;have hz:vs.length<=sizeLine:=by rw[<-rel.length];exact z
  have hl:(putK kvs k v).length<=sizeLine:=by have:=gU kvs k v;omega
  refine wpAny_setItem_pairs (hsz:=hz) (kA ry) dd fun h' dd' hs=>h _ ?_;have he:∃q,h'.get? a=some q:=let ⟨q,_,_,hq,_⟩:=dd';⟨q,hq⟩;exact pW I (by rw[e];exact True.intro) hs he (yg hl hd (rel.put k rv) dd')
 ·subst ey eH;cases(show u=Value.ref b from ry);obtain⟨z,hd,xs,rel,dd⟩:=zZ I.hok e;have hz:xs.length<=sizeLine:=by rw[<-Paired.length rel];exact z
  have hl:(putK kvs k v).length<=sizeLine:=by have:=gU kvs k v;omega
  refine wpAny_setItem_heap (hsz:=hz) (tupleKind_room_in1 hu) (gB I.hok eb) dd fun h' dd' hs=>h _ ?_;obtain⟨q,es,ep,hq,h2,h3,h4,_,h5⟩:=dd';refine pW I (by rw[e];exact True.intro) hs ⟨q,hq⟩ ⟨hl,hd,_,(rel.put k eb rv).keeps fun c ys ec=>?_,q,es,ep,hq,h2,h3,h4,h5⟩;rw[ak (si ec e (fun z=>nomatch z))];exact ec
end
section
variable{X:Cx}{pins:List (Addr×Obj)}{σ:St}{H:Hp}{s:Shared}{a:Addr}{kvs:List (Key×V)}{k:Key}{u:Value}{A:Around}{E:Value->Shared->Prop}
end
noncomputable def yh(i:Expr):Prop:=∀ov iv,subscripted i false ov iv=operate [ov,iv] (getItem ov iv)
theorem vt{prog:Program}{w:World}{A:Around}{E:Value->Shared->Prop}{s:Shared}{env:Env}{value slice:Expr}{pos:Pos}{T id:String}{Q:Value->Shared->Prop}
  (hl:typeLookup (.type T) "__getitem__"=pure (some (.builtin id))) (hs:yh slice)
  (h:wpAny (model prog w) A (eval value env) (fun o s₁=>wpAny (model prog w) A (eval slice env) (fun i s₂=>s₂.TypeIs o T/\wpAny (model prog w) A (getItem o i) Q E s₂) E s₁) E s) :
  wpAny (model prog w) A (eval (.Subscript value slice pos) env) Q E s:=by
 refine Subscript_ (wpAny_mono h (fun o s₁ h₁=>wpAny_mono h₁ (fun i s₂ h₂=>?_) fun _ _ x=>x) fun _ _ x=>x);obtain⟨hT,h₂⟩:=h₂;unfold subscriptTail;refine wpAny_bind ?_;rw[getitemInPython_of_ne hT.not_modules];refine wpAny_bind (wpAny_specialOf hT hl ?_);have fin:wpAny (model prog w) A (subscripted slice false o i) (fun r s₃=>wpAny (model prog w) A (letTemporaryGo value o r >>= fun _=>pure r) Q E s₃) E s₂:=by
  rw[hs o i];exact wpAny_operating (wpAny_mono h₂ (fun r s₃ h₃=>wpAny_bind (wpAny_letTemporaryGo (wpAny_pure h₃))) fun _ _ x=>x)
 first
  |exact wpAny_pure (wpAny_bind fin)
  |exact wpAny_bind (wpAny_pure (wpAny_bind fin))
  |exact wpAny_bind fin
theorem mQ{X:Cx}{pins:List (Addr×Obj)}{σ:St}{H:Hp}{s:Shared}{a:Addr}{y:V}{o:Option V}(I:Inv X pins σ H s)(g:da H a y o):s.TypeIs (.ref a) "dict":=by
 rcases g with⟨kvs,k,e,_,_⟩|⟨kvs,k,b,e,_,_,_⟩
 ·obtain⟨_,_,vs,_,dd⟩:=jb I.hok e;exact dd.typeIs
 ·obtain⟨_,_,xs,_,dd⟩:=jc I.hok e;exact dd.typeIs
noncomputable def z_(td ty:TE):TE:=fun σ H Q=>td σ H fun x H1=>ty σ H1 fun y H2=>∃a v,x=.ref a/\da H2 a y (some v)/\Q v H2
noncomputable def Bq(ty td:TE):TE:=fun σ H Q=>ty σ H fun y H1=>td σ H1 fun x H2=>∃a o,x=.ref a/\da H2 a y o/\Q (.bl o.isSome) H2
noncomputable def vv(ty td:TE):TE:=fun σ H Q=>ty σ H fun y H1=>td σ H1 fun x H2=>∃a o,x=.ref a/\da H2 a y o/\Q (.bl (!o.isSome)) H2
section
variable{X:Cx}{o i e value:Expr}{pos pos' tpos:Pos}{td ty tv:TE}
theorem vA(hu:X.A.units+1<cLine)(ho:PE X o td)(hi:PE X i ty)(hs:yh i):PE X (.Subscript o i pos) (z_ td ty):=by
 intro pins s σ H Q I h;refine vt PySem.F.slot_dict_getitem.lookup hs (thn (ho pins s σ H _ I h) fun u s1 ⟨x,H1,I1,rx,q1⟩=>thn (hi pins s1 σ H1 _ I1 q1) fun iv s2 ⟨y,H2,I2,ry,a,v,ex,g,q2⟩=>?_);subst ex;obtain rfl:u=Value.ref a:=rx;exact⟨mQ I2 g,rh hu I2 g ry fun w' s3 I3 rw'=>⟨v,H2,I3,rw',q2⟩⟩
theorem sT(hu:X.A.units+1<cLine)(hi:PE X i ty)(ho:PE X o td):PC X .In i o (Bq ty td):=by
 intro pins s σ H Q I h;refine thn (hi pins s σ H _ I h) fun iv s1 ⟨y,H1,I1,ry,q1⟩=>thn (ho pins s1 σ H1 _ I1 q1) fun u s2 ⟨x,H2,I2,rx,a,ov,ex,g,q2⟩=>?_;subst ex;obtain rfl:u=Value.ref a:=rx;exact z9 hu I2 g ry fun s3 I3=>⟨.bl ov.isSome,H2,I3,rfl,q2⟩
theorem kC(hu:X.A.units+1<cLine)(hi:PE X i ty)(ho:PE X o td):PC X .NotIn i o (vv ty td):=by
 intro pins s σ H Q I h;refine thn (hi pins s σ H _ I h) fun iv s1 ⟨y,H1,I1,ry,q1⟩=>thn (ho pins s1 σ H1 _ I1 q1) fun u s2 ⟨x,H2,I2,rx,a,ov,ex,g,q2⟩=>?_;subst ex;obtain rfl:u=Value.ref a:=rx;exact pV hu I2 g ry fun s3 I3=>⟨.bl (!ov.isSome),H2,I3,rfl,q2⟩
end
theorem sU{P:Program}{w:World}{H:Hp}(h:Heap)(hb:sysModules<h.objs.size):bE P w H (h.push {cls:=.type "dict",data:=.dict #[]}) h.objs.size (.dK []) :=
 ⟨Nat.zero_le _,beq_eq_false_iff_ne.mpr (Ne.symm (Nat.ne_of_lt hb)),[],.nil,Heap.DictOf.new h⟩
noncomputable def yi:TE:=fun _ H Q=>∀p,H p=none->Q (.ref p) (upd H p (.dK []))
section
variable{X:Cx}{pos:Pos}
theorem mR:PE X (.Dict [] [] pos) yi:=fun pins s σ H Q I h =>
 wpAny_Dict_empty ⟨.ref s.heap.objs.size,_,I.laid (a:=s.heap.objs.size) (o:=.dK []) (t':=s.toks) (fun _ _ q=>Heap.get?_push_of_some _ q) (Nat.le_refl _) (sU s.heap I.big),rfl,h _ (I.hok.fresh (Nat.le_refl _))⟩
end
structure M2(X:Cx)(o:Expr)(m:Str)(apos:Pos)(e f:Expr)(cpos:Pos):Prop where
 base:attributeBase o m X.env (eval o X.env)=eval o X.env
 few:((backTo cpos (starEach [e,f] X.env)).all (fun x=>!x.1)&&(backToKw cpos (keywordEach [] X.env)).all (fun x=>x.1.isSome)
  && decide (([e,f]:List Expr).length+([]:List Keyword).length+(if ([]:List Keyword).isEmpty then 0 else 1)<30))=true
 line:(apos.endLine==cpos.line)=true
 trees:backTo cpos (starEach [e,f] X.env)=[(false,eval e X.env),(false,eval f X.env)]
noncomputable def IsD(H:Hp)(a:Addr):Prop:=(∃kvs,Rd H a (.dK kvs))\/∃kvs,Rd H a (.dT kvs)
theorem yj{X:Cx}{pins:List (Addr×Obj)}{σ:St}{H:Hp}{s:Shared}{a:Addr}(I:Inv X pins σ H s)(d:IsD H a):
  s.TypeIs (.ref a) "dict"/\(∀b,Value.ref a=.ref b->∃ob,s.heap.get? b=some ob/\ob.dict=none)/\(a==sysModules)=false:=by
 rcases d with⟨kvs,e⟩|⟨kvs,e⟩
 ·obtain⟨_,hd,vs,_,dd⟩:=jb I.hok e;refine⟨dd.typeIs,fun b q=>?_,hd⟩;cases q;obtain⟨ob,_,_,h1,h2,_⟩:=dd;exact⟨ob,h1,h2.2.1⟩
 ·obtain⟨_,hd,xs,_,dd⟩:=jc I.hok e;refine⟨dd.typeIs,fun b q=>?_,hd⟩;cases q;obtain⟨ob,_,_,h1,h2,_⟩:=dd;exact⟨ob,h1,h2.2.1⟩
section
variable{X:Cx}{pins:List (Addr×Obj)}{σ:St}{H:Hp}{s:Shared}{a:Addr}{y d:V}{u r:Value}{o:Option V}{A:Around}{E:Value->Shared->Prop}
theorem yk{Q:Value->Shared->Prop}(hu:A.units+1<cLine)(I:Inv X pins σ H s)(g:da H a y o)(ry:RelV y u)(rd:RelV d r)(h:∀w' s',Inv X pins σ H s'->RelV (o.getD d) w'->Q w' s'):
  wpAny (model X.prog X.w) A (call (.builtin "dict.get") [.ref a,u,r]) Q E s:=by
 rcases g with⟨kvs,k,e,ey,l⟩|⟨kvs,k,b,e,ey,eb,l⟩
 ·subst ey;obtain⟨z,hd,vs,rel,dd⟩:=jb I.hok e;refine call_meetsIn PySem.F.slot_dict_get dd.typeIs PySem.F.entry_dict_get (PySem.F.args_dict_get_3 _ _ _) (meets_dict_get_default (aO X.prog X.w) a (kA ry) hd r) ⟨_,dd.mapOf,h _ _ (I.tok _) ?_⟩;rw[l];exact(rel.val k).getD rd
 ·subst ey;cases(show u=Value.ref b from ry);obtain⟨z,hd,xs,rel,dd⟩:=jc I.hok e;refine call_meetsIn PySem.F.slot_dict_get dd.typeIs PySem.F.entry_dict_get (PySem.F.args_dict_get_3 _ _ _) (meetsH_dict_get_default (tupleKind (aO X.prog X.w)) a b hd r) ⟨tupleKind_room_in1 hu,k,xs,gB I.hok eb,dd,h _ _ (I.tok _) ?_⟩;rw[l];exact(rel.val k).getD rd
end
noncomputable def yl(td ty tx:TE):TE:=fun σ H Q=>td σ H fun x H1=>∃a,x=.ref a/\IsD H1 a/\ty σ H1 fun y H2=>tx σ H2 fun z H3=>∃o,da H3 a y o/\Q (o.getD z) H3
section
variable{X:Cx}{o e f:Expr}{apos cpos:Pos}{td ty tx:TE}
theorem sV(hu:X.A.units+1<cLine)(ho:PE X o td)(he:PE X e ty)(hf:PE X f tx)(m:M2 X o "get" apos e f cpos):PE X (.Call (.Attribute o "get" apos) [e,f] [] cpos) (yl td ty tx):=by
 intro pins s σ H Q I h;refine wpAny_Call_method m.base m.few m.line PySem.F.plainAttrs_dict PySem.F.slot_dict_get PySem.F.type_dict_get (thn (ho pins s σ H _ I h) fun u s1 ⟨x,H1,I1,rx,a,ex,d,q1⟩=>?_);subst ex;obtain rfl:u=Value.ref a:=rx;obtain⟨t1,t2,_⟩:=yj I1 d;refine⟨t1,t2,?_⟩;rw[m.trees];refine Calls.callWith_builtin rfl (Calls.evalArgs_plain (Calls.spliced_cons (thn (he pins s1 σ H1 _ I1 q1) fun iv s2 ⟨y,H2,I2,ry,q2⟩ =>
  Calls.spliced_cons (thn (hf pins s2 σ H2 _ I2 q2) fun fv s3 ⟨z,H3,I3,rz,ov,g,q3⟩=>Calls.spliced_nil ?_))))
 exact yk hu I3 g ry rz fun w' s4 I4 rw'=>⟨_,H3,I4,rw',q3⟩
end
section
variable{X:Cx}{pins:List (Addr×Obj)}{σ:St}{H:Hp}{s:Shared}{a:Addr}{kvs:List (Key×V)}{A:Around}{E:Value->Shared->Prop}
end
section
variable{X:Cx}{pins:List (Addr×Obj)}{σ:St}{H:Hp}{s:Shared}{a:Addr}{y:V}{u:Value}{A:Around}{E:Value->Shared->Prop}
end
end L2
namespace W01
open PySem PySem.Builtin.Str PySem.StrLaws
noncomputable def low(c:Nat):Bool:=decide (97<=c)&&decide (c<=122)
noncomputable def dZ(l:List Nat):Bool:=decide (1<=l.length)&&decide (l.length<=8)&&l.all low
theorem cj(l:List Nat):dZ l=true↔1<=l.length/\l.length<=8/\∀c∈l,97<=c/\c<=122:=by
 simp[dZ,low,List.all_eq_true,and_assoc]
theorem mT{l:List Nat}(h:dZ l=true):47∉l:=fun m=>by
 have:=((cj l).mp h).2.2 47 m;omega
theorem vB{x y:Str}(h:x.cps.toList=y.cps.toList):x=y:=by
 cases x;cases y;congr
 exact Array.toList_inj.mp h
theorem lA(x:Str)(c i:Nat):At x ⟨#[c]⟩ x.length i↔x.cps.toList[i]?=some c:=subAt_one x c i
theorem ym{x:Str}{a b:List Nat}{c:Nat}(h:x.cps.toList=a++c::b)(hn:c∉a)(limit:Nat)(hl:1<=limit):∃r,occurrences x ⟨#[c]⟩ 0 x.length limit=a.length::r:=by
 have hat:x.cps.toList[a.length]?=some c:=by rw[h];simp
 rcases occ_head x ⟨#[c]⟩ limit hl with⟨_,hno⟩|⟨i,r,e,hi,hmin⟩
 ·exact absurd ((lA x c a.length).mpr hat) (hno _)
 ·have e1:=(lA x c i).mp hi;have:i=a.length:=by
   rcases Nat.lt_trichotomy i a.length with z|z|z
   ·exfalso
    rw[h,List.getElem?_append_left z]at e1;exact hn (List.mem_of_getElem? e1)
   ·exact z
   ·exact absurd ((lA x c a.length).mpr hat) (hmin _ z)
  subst this;exact⟨r,e⟩
theorem ox{x:Str}{c:Nat}(h:c∉x.cps.toList):Txt.split x ⟨#[c]⟩=[x]:=by
 unfold Txt.split;split
 ·rfl
 ·rw[if_pos];rcases occ_head x ⟨#[c]⟩ (x.length+1) (by omega) with⟨e,_⟩|⟨i,r,e,hi,_⟩
  ·rw[e];rfl
  ·exact absurd (List.mem_of_getElem? ((lA x c i).mp hi)) h
theorem mU(c:Nat)(h:c<256)(x:Str):¬(PySem.Builtin.Str.strKind x<PySem.Builtin.Str.strKind ⟨#[c]⟩):=by
 have e:PySem.Builtin.Str.strKind ⟨#[c]⟩=1:=by simp[PySem.Builtin.Str.strKind,h]
 rw[e];unfold PySem.Builtin.Str.strKind;split
 ·omega
 ·split<;>omega
theorem sW{x:Str}{a b:List Nat}{c:Nat}(h:x.cps.toList=a++c::b)(hn:c∉a)(hc:c<256):∃r,Txt.split x ⟨#[c]⟩=⟨a.toArray⟩::r:=by
 obtain⟨r,e⟩:=ym h hn (x.length+1) (by omega);have l1:(⟨#[c]⟩:Str).length=1:=rfl;have lx:x.length=a.length+1+b.length:=by
  have:=congrArg List.length h;simp[Str.length]at this ⊢;omega
 unfold Txt.split;rw[if_neg (by
  have h1:¬(x.length<(⟨#[c]⟩:Str).length):=by rw[l1];omega
  have h2:=mU c hc x;simp[h1,h2]),if_neg (by rw[e];simp),partsBetween_eq,e]
 refine⟨_,congrArg (·::_) ?_⟩;apply vB;rw[strSub_toList,h];simp
end W01
namespace W01
open PySem PySem.Builtin.Str PySem.StrLaws
noncomputable def mV(i:Int):Str:=Str.ofString (toString i)
noncomputable def xh:Str:=⟨#[47]⟩
end W01
namespace L2
open PySem PySem.Spec PyProof.Rows
noncomputable def a9(env:Env):List (Str×NameKind)->List (Str×Addr)->List (Str×Addr)
 |[],cs=>cs
 |(n,k)::r,cs=>a9 env r (if k==.free then(match env.cells.lookup n with|some a=>(n,a)::cs|none=>cs) else cs)
theorem dq{scope:Scope}{env:Env}(h:∀y∈scope.names,y.2=.free->∃a,env.cells.lookup y.1=some a):closureFor scope env=pure (a9 env scope.names []):=by
 unfold closureFor;generalize scope.names=names at h
 suffices H:∀cs,(forIn names cs (fun(x:Str×NameKind) (r:List (Str×Addr))=>if (x.2==NameKind.free)=true then do let a <-cellOf env x.1;pure (ForInStep.yield ((x.1,a)::r)) else pure (ForInStep.yield r)):Sem (List (Str×Addr)))=pure (a9 env names cs) by
  have:=H [];exact congrArg (fun(m:Sem (List (Str×Addr)))=>m >>= pure) this
 induction names with
 |nil=>intro cs;rfl
 |cons y r ih =>
  intro cs;obtain⟨n,k⟩:=y;rw[List.forIn_cons];have ih':=ih fun y hy=>h y (List.mem_cons_of_mem _ hy);by_cases hk:(k==NameKind.free)=true
  ·obtain⟨a,ha⟩:=h (n,k) List.mem_cons_self (by simpa using hk);have ha':env.cells.lookup n=some a:=ha;simp only[hk,if_true,cellOf,ha',a9];exact ih' _
  ·simp only[hk,if_false,a9];exact ih' _
theorem dC{env:Env}:∀(names:List (Str×NameKind)) (cs:List (Str×Addr)),(∀n c,cs.lookup n=some c->env.cells.lookup n=some c)->∀n c,(a9 env names cs).lookup n=some c->env.cells.lookup n=some c
 |[],_,h=>h
 |(m,k)::r,cs,h=>by
  unfold a9;refine dC r _ fun n c e=>?_;by_cases hk:(k==NameKind.free)=true
  ·rw[if_pos hk]at e;cases q:env.cells.lookup m with
   |none=>rw[q]at e;exact h n c e
   |some a =>
    rw[q]at e;simp only[List.lookup_cons]at e;cases hx:n==m with
    |true =>
     rw[hx]at e;have e':n=m:=by simpa using hx
     subst e';simp only at e;rw[q];exact e
    |false=>rw[hx]at e;exact h n c e
  ·rw[if_neg hk]at e;exact h n c e
theorem gW{env:Env}{n:Str}{a:Addr}(ha:env.cells.lookup n=some a):∀(names:List (Str×NameKind)) (cs:List (Str×Addr)),cs.lookup n=some a->(a9 env names cs).lookup n=some a
 |[],_,h=>h
 |(m,k)::r,cs,h=>by
  unfold a9;refine gW ha r _ ?_;by_cases hk:(k==NameKind.free)=true
  ·rw[if_pos hk];cases q:env.cells.lookup m with
   |none=>exact h
   |some b =>
    simp only[List.lookup_cons];cases hx:n==m with
    |true =>
     have e':n=m:=by simpa using hx
     subst e';rw[ha]at q;cases q;rfl
    |false=>exact h
  ·rw[if_neg hk];exact h
theorem fu{env:Env}{n:Str}{a:Addr}(ha:env.cells.lookup n=some a):∀(names:List (Str×NameKind)) (cs:List (Str×Addr)),(n,NameKind.free)∈names->(a9 env names cs).lookup n=some a
 |[],_,h=>by cases h
 |(m,k)::r,cs,h=>by
  unfold a9;rcases List.mem_cons.mp h with e|e
  ·cases e;refine gW ha r _ ?_;rw[if_pos (by decide),ha];simp[List.lookup_cons]
  ·exact fu ha r _ e
theorem bo{env:Env}:∀{names:List (Str×NameKind)}{x:Str}{k:NameKind},
  (names.map fun(n,k)=>if (k==NameKind.free&&env.scope.kind==.function&&env.kindOf n==some .cell) then(n,NameKind.cell) else(n,k)).lookup x=some k ->
  names.lookup x=some k\/(k=.cell/\names.lookup x=some .free)
 |[],_,_,h=>by simp at h
 |(n,k0)::r,x,k,h=>by
  have ih:=@bo env r x k;rw[List.map_cons]at h;by_cases hc:(k0==NameKind.free&&env.scope.kind==.function&&env.kindOf n==some .cell)=true
  ·simp only[if_pos hc,List.lookup_cons]at h;cases hx:x==n with
   |true =>
    rw[hx]at h;have hf:k0=.free:=by
     have:=(Bool.and_eq_true_iff.mp (Bool.and_eq_true_iff.mp hc).1).1;simpa using this
    refine .inr ⟨by simpa using h.symm,by simp[List.lookup_cons,hx,hf]⟩
   |false =>
    rw[hx]at h;rcases ih h with z|⟨z1,z2⟩
    ·exact .inl (by simp[List.lookup_cons,hx,z])
    ·exact .inr ⟨z1,by simp[List.lookup_cons,hx,z2]⟩
  ·simp only[if_neg hc,List.lookup_cons]at h;cases hx:x==n with
   |true=>rw[hx]at h;exact .inl (by simpa[List.lookup_cons,hx] using h)
   |false =>
    rw[hx]at h;rcases ih h with z|⟨z1,z2⟩
    ·exact .inl (by simp[List.lookup_cons,hx,z])
    ·exact .inr ⟨z1,by simp[List.lookup_cons,hx,z2]⟩
noncomputable def cxC(X:Cx)(N:List Str)(scope:Scope)(C:Addr)(s:Shared)(H:Hp)(ex:List Addr):Cx where
 prog:=X.prog
 w:=X.w
 K:=X.K
 mg:=X.mg
 base:=X.base
 A:=X.A
 N:=N
 s₀:=s
 H₀:=H
 env:=compEnvC scope (a9 X.env scope.names []) C X.env
 outer:=X.stack
 stack:=X.stack
 ex:=ex
 fn:=fun _=>false
 calm:=X.calm
 pn:=[]
 xe:=fun _ _=>False
noncomputable def dc(D N:List Str):Prop:=D.length=N.length/\∀(i:Nat) (y:Str),D[i]?=some y->N[i]?=some y\/y="."\/y=".."
theorem dc.refl(N:List Str):dc N N:=⟨rfl,fun _ _ h=>.inl h⟩
theorem dc.set{D N:List Str}(h:dc D N)(j:Nat){m:Str}(hm:m="."\/m=".."):dc (D.set j m) N:=by
 refine⟨by rw[List.length_set];exact h.1,fun i y e=>?_⟩;by_cases hj:j=i
 ·subst hj;rw[List.getElem?_set,if_pos rfl]at e;split at e
  ·cases e;exact .inr hm
  ·cases e
 ·rw[List.getElem?_set_ne hj]at e;exact h.2 i y e
structure de(X:Cx)(N own:List Str)(scope:Scope):Prop where
 kind:scope.kind=.function
 nocell:∀y∈scope.names,y.2≠.cell
 names:∀y∈scope.names,y.2=.local->scope.names.lookup y.1=some .local
 nd:N.Nodup
 pre:N.take own.length=own
 loc:∀y∈scope.names,y.2=.local->y.1∈own\/y.1=".0"
 no0:(".0":Str)∉N
 tail:dc (N.drop own.length) X.N
 free:∀y∈scope.names,y.2=.free->X.env.scope.names.lookup y.1=some .cell\/X.env.scope.names.lookup y.1=some .free
 dot:∀y∈scope.names,y.1≠"."/\y.1≠".."
theorem mem_lookup{names:List (Str×NameKind)}{x:Str}{k:NameKind}(h:names.lookup x=some k):(x,k)∈names:=PySem.mem_of_lookup h
theorem de.cells{X:Cx}{N own:List Str}{scope:Scope}(S:de X N own scope)(ok:X.Ok):∀y∈scope.names,y.2=.free->∃a,X.env.cells.lookup y.1=some a:=fun y hy hf=>by
 rcases S.free y hy hf with z|z
 ·exact ok.has y.1 (.inl z)
 ·exact ok.has y.1 (.inr z)
theorem sX{X:Cx}{pins:List (Addr×Obj)}{σ:St}{H:Hp}{s s4:Shared}{N own:List Str}{scope:Scope}{C:Addr}{ex:List Addr}(S:de X N own scope)(I:Inv X pins σ H s)
  (hC:s.heap.objs.size<=C) (hos:s4.os=s.os) (hg:s4.gens=s.gens) (keep:∀b o,s.heap.get? b=some o->s4.heap.get? b=some o) (ns:∃m,s4.heap.Ns C m)
  (hex:∀b∈ex,fK X pins H b/\b<s.heap.objs.size):Inv (cxC X N scope C s H ex) [] (List.replicate own.length none++σ) H s4:=by
 obtain⟨m0,hm0⟩:=ns;have sub:=dC (env:=X.env) scope.names [] (fun n c e=>by simp at e);have exlt:∀b∈ex,b<C:=fun b hb=>Nat.lt_of_lt_of_le (hex b hb).2 hC;have tl:own.length<=N.length:=by have:=congrArg List.length S.pre;rw[List.length_take]at this;omega
 refine⟨⟨I.ok.mod,?_,I.ok.glob,I.ok.blt,hC,fun x y c h1 h2=>I.ok.inj x y c (sub x c h1) (sub y c h2),fun x hx=>?_,fun x c h _=>absurd (show false=true from h) (by decide),I.ok.hd,I.ok.frames,.inl rfl,fun b hb=>⟨Nat.ne_of_lt (exlt b hb),fun x c e=>?_⟩,fun b o e=>I.bs b o e,?_,fun b o e hb=>?_,fun b hb=>?_,I.stack,I.pQ⟩,
  hos,(by rw[hg];exact I.bare),Un.kept keep,⟨m0,hm0,fun i y v h1 h2 h3=>?_⟩,fun x c e=>?_,I.hok.fresh hC,fun x c e=>I.freeC x c (sub x c e),fun p hp=>absurd (show p∈([]:List (Addr×Obj)) from hp) (by simp),I.hok.kept keep,?_⟩
 ·show(relabel scope X.env).kind=.function;exact S.kind
 ·
  have hx':(relabel scope X.env).names.lookup x=some .cell\/(relabel scope X.env).names.lookup x=some .free:=hx;have hfree:scope.names.lookup x=some .free:=by
   rcases hx' with z|z
   ·rcases bo z with q|⟨_,q⟩
    ·exact absurd rfl (S.nocell _ (mem_lookup q))
    ·exact q
   ·rcases bo z with q|⟨q,_⟩
    ·exact q
    ·cases q
  obtain⟨a,ha⟩:=S.cells I.ok (x,.free) (mem_lookup hfree) rfl;exact⟨a,fu ha scope.names [] (mem_lookup hfree)⟩
 ·exact(hex b hb).1.2.2.2.2.1 x c (sub x c e)
 ·exact Nat.le_trans I.ok.bsz I.sz
 ·obtain⟨f0,f1,f2,f3,f4,f5⟩:=(hex b hb).1;rcases f3 with z|z
  ·exact I.ok.noex b o e z
  ·exact absurd (Nat.lt_of_lt_of_le (Heap.lt_size e) (Nat.le_trans I.ok.bsz z)) (Nat.lt_irrefl _)
 ·intro hb';obtain⟨f0,f1,f2,f3,f4,f5⟩:=(hex b hb).1;rcases List.mem_cons.mp (I.iN b hb') with z|z
  ·exact f1 z
  ·exact f2 z
 ·
  have hi:own.length<=i:=by
   by_cases hi:i<own.length
   ·rw[List.getElem?_append_left (by simpa using hi),List.getElem?_replicate]at h2;split at h2<;>cases h2
   ·omega
  rw[List.getElem?_append_right (by simpa using hi),List.length_replicate]at h2;have hNd:(N.drop own.length)[i - own.length]?=some y:=by
   rw[List.getElem?_drop];have e:own.length+(i - own.length)=i:=by omega
   rw[e];exact h1
  have h3':(relabel scope X.env).names.lookup y=some .local\/(relabel scope X.env).names.lookup y=some .cell\/(relabel scope X.env).names.lookup y=some .free:=h3;have hfree:scope.names.lookup y=some .free:=by
   rcases h3' with z|z|z
   ·rcases bo z with q|⟨q,_⟩
    ·exfalso
     have hmem:y∈own:=by
      rcases S.loc (y,.local) (mem_lookup q) rfl with z|z
      ·exact z
      ·have z':y=".0":=z;exact absurd (List.mem_of_getElem? h1) (by rw[z'];exact S.no0)
     obtain⟨j,hj,ej⟩:=List.getElem_of_mem hmem;have hj':N[j]?=some y:=by
      have e1:(N.take own.length)[j]?=some y:=by rw[S.pre,List.getElem?_eq_getElem hj,ej]
      rw[List.getElem?_take_of_lt hj]at e1;exact e1
     have:=iO S.nd hj' h1;omega
    ·cases q
   ·rcases bo z with q|⟨_,q⟩
    ·exact absurd rfl (S.nocell _ (mem_lookup q))
    ·exact q
   ·rcases bo z with q|⟨q,_⟩
    ·exact q
    ·cases q
  have hX:X.N[i - own.length]?=some y:=by
   rcases S.tail.2 _ _ hNd with e|e|e
   ·exact e
   ·exact absurd e (S.dot _ (mem_lookup hfree)).1
   ·exact absurd e (S.dot _ (mem_lookup hfree)).2
  obtain⟨m,hn,hl⟩:=I.loc;have hv:X.env.scope.names.lookup y=some .cell\/X.env.scope.names.lookup y=some .free:=S.free (y,.free) (mem_lookup hfree) rfl;obtain⟨u,r,l⟩:=hl _ y v hX h2 (.inr hv);refine⟨u,r,?_⟩;rcases l with⟨k,_⟩|⟨k,c,e,z⟩
  ·have k':X.env.scope.names.lookup y=some .local:=k;rcases hv with q|q<;>(rw[k']at q;cases q)
  ·have hk:(relabel scope X.env).names.lookup y=some .cell\/(relabel scope X.env).names.lookup y=some .free:=by
    rcases h3' with q|q|q
    ·rcases bo q with q'|⟨q',_⟩
     ·rw[hfree]at q';cases q'
     ·cases q'
    ·exact .inl q
    ·exact .inr q
   obtain⟨o,ho,hd⟩:=z;exact .inr ⟨hk,c,fu e scope.names [] (mem_lookup hfree),o,keep c o ho,hd⟩
 ·obtain⟨v,o,ho,hd⟩:=I.cell x c (sub x c e);exact⟨v,o,keep c o ho,hd⟩
 ·rw[List.length_append,List.length_replicate,I.len];have e:N.length=own.length+(N.drop own.length).length:=by rw[List.length_drop];omega
  show _=N.length;rw[e,S.tail.1]
theorem mW{X:Cx}{pins pins':List (Addr×Obj)}{σ σ':St}{H H4:Hp}{s s4:Shared}{N:List Str}{scope:Scope}{C D:Addr}{ex:List Addr}{ys:List V}{its:List Value}{h':Heap}(I:Inv X pins σ H s)
  (I4:Inv (cxC X N scope C s H ex) pins' σ' H4 s4) (hD:s.heap.objs.size<=D) (hC:s.heap.objs.size<=C) (hDC:D≠C) (nD:H4 D=none) (rv:Vals ys its) (pl:s4.heap.PlainList D its.toArray) (hl:ys.length<=sizeLine)
  (sb:Heap.SameBut C s4.heap h') (hex:∀b∈ex,fK X pins H b):Inv X pins σ (upd H4 D (.lst ys)) {s4 with heap:=h' }:=by
 have nC:H4 C=none:=I4.free;have lt:∀{b:Addr} {o:Obj},s.heap.get? b=some o->b≠C/\b≠D:=fun e=>⟨Nat.ne_of_lt (Nat.lt_of_lt_of_le (Heap.lt_size e) hC),Nat.ne_of_lt (Nat.lt_of_lt_of_le (Heap.lt_size e) hD)⟩
 refine I.zx (s':={s4 with heap:=h' }) (ch:=ex) I4.os ⟨fun b o e n hb hx=>?_,fun b o e n hb hx=>?_,fun b o e n hx=>?_,fun b o e hx=>?_,fun b xs e=>?_,fun b o u e=>?_,fun b ps e=>?_⟩ (fun a o e=>?_) I4.bare fun b hb=>?_
 ·exact(sb.2 b (lt e).1).trans (I4.base.keep b o e n hb hx)
 ·obtain⟨sl,q⟩:=I4.base.slot b o e n hb hx;exact⟨sl,(sb.2 b (lt e).1).trans q⟩
 ·rw[ak (lt e).2];exact I4.base.free b o e n hx
 ·obtain⟨o',q⟩:=I4.base.there b o e hx;exact⟨o',(sb.2 b (lt e).1).trans q⟩
 ·have q:=I4.base.iy b xs e;rw[ak (bc q nD)];exact q
 ·have q:=I4.base.frzs b o u e;rw[ak (bc q nD)];exact q
 ·obtain⟨more,q⟩:=I4.base.tbls b ps e;exact⟨more,by rw[ak (bc q nD)];exact q⟩
 ·by_cases ha:a=D
  ·subst ha;rw[ar]at e;cases e;obtain⟨n,q⟩:=pl;exact⟨hl,its,n,rv,(sb.2 _ hDC).trans q⟩
  ·rw[ak ha]at e;refine(I4.hok a o e).la (fun c v hc q=>(sb.2 c ?_).trans q) (fun c q=>?_) fun c xs q=>?_
   ·rintro rfl;rcases hc with z|z
    ·rw[<-z,nC]at e;cases e
    ·rw[nC]at z;cases z
   ·rw[ak (bc q nD)];exact q
   ·rw[ak (bc q nD)];exact q
 ·obtain⟨f0,f1,f2,f3,f4,f5⟩:=hex b hb;exact⟨f3,f1,f4,f5⟩
end L2
namespace L2
open PySem PySem.Spec PyProof.Rows
section
variable{prog:Program}{w:World}{A:Around}{E:Value->Shared->Prop}{R:Result->Shared->Prop}{s:Shared}
theorem lB{elt target iter:Expr}{ifs:List Expr}{scope:Scope}{pos:Pos}{it acc:Value}{env:Env}(I:Nat->Shared->Prop)
  (turn:∀n s,I n s->wpAny (model prog w) A (pyNext it) (fun r s₁=>match r with
   |none=>R (.ok .next) s₁
   |some v=>wpAny (model prog w) A (letOwnedTupleGo target it v) (fun _ s₁=>wpAny (model prog w) A (assign target env v) (fun _ s₂ =>
     wpAny (model prog w) A (forIn ifs true fun c r=>if r=true then do let ok <-isTrue c env (eval c env);pure (ForInStep.yield ok) else pure (ForInStep.yield r)) (fun ok s₃ =>
      if ok=true then wpAny (model prog w) A (eval elt env) (fun x s₄ =>
       wpAny (model prog w) A (call (.builtin "list.append") [acc,x]) (fun _ s₅=>∃m,m<n/\I m s₅) (notedBy (model prog w) A env fun e s'=>R (.error e) s') s₄) (notedBy (model prog w) A env fun e s'=>R (.error e) s') s₃
      else ∃m,m<n/\I m s₃) (notedBy (model prog w) A env fun e s'=>R (.error e) s') s₂) (notedBy (model prog w) A env fun e s'=>R (.error e) s') s₁) (notedBy (model prog w) A env fun e s'=>R (.error e) s') s₁) (notedBy (model prog w) A env fun e s'=>R (.error e) s') s)
  (n:Nat) (h:I n s) :
  codeAny (model prog w) A (.compLoop (.ListComp elt [⟨target,iter,ifs,0⟩] scope pos) 0 it acc env) R s:=by
 refine codeAny_loop rfl I (fun n s hI=>?_) n h;show wpAny _ A ((compTurn (.ListComp elt [⟨target,iter,ifs,0⟩] scope pos) 0 it acc env).onRaise (fun x=>do noteFrame x env;theTreesLotGoes x)) _ _ s;refine wpAny_noted ?_;rw[compTurn_list];refine wpAny_bind (wpAny_standAt (wpAny_bind (wpAny_mono (turn n s hI) (fun r s₁ h₁=>?_) fun _ _ h'=>h')));cases r with
 |none=>exact wpAny_pure h₁
 |some v =>
  refine wpAny_bind (wpAny_mono h₁ (fun _ s₁' h₁'=>?_) fun _ _ h'=>h');refine wpAny_bind (wpAny_mono h₁' (fun _ s₂ h₂=>wpAny_bind (wpAny_mono h₂ (fun ok s₃ h₃=>?_) fun _ _ h'=>h')) fun _ _ h'=>h');cases ok with
  |false=>exact wpAny_pure ⟨rfl,h₃⟩
  |true =>
   exact wpAny_bind (wpAny_bind (wpAny_mono h₃ (fun x s₄ h₄=>wpAny_bind (wpAny_mono h₄ (fun _ s₅ h₅=>wpAny_pure (wpAny_pure ⟨rfl,h₅⟩)) fun _ _ h'=>h')) fun _ _ h'=>h'))
end
noncomputable def PIf(X:Cx)(ifs:List Expr)(t:TT):Prop :=
 ∀(pins:List (Addr×Obj)) (s:Shared) (σ:St) (H:Hp) (Q:Bool->Hp->Prop),Inv X pins σ H s->t σ H Q ->
  wpAny (model X.prog X.w) X.A (forIn ifs true fun c r=>if r=true then do let ok <-isTrue c X.env (eval c X.env);pure (ForInStep.yield ok) else pure (ForInStep.yield r)) (TP X pins σ Q) X.xe s
noncomputable def Br:TT:=fun _ H Q=>Q true H
theorem pX{X:Cx}:PIf X [] Br:=fun _ _ _ H _ I h=>wpAny_tests_nil ⟨H,I,h⟩
theorem pY{X:Cx}{c:Expr}{t:TT}(h:PT X c t):PIf X [c] t:=fun pins s σ H Q I q=>wpAny_tests_one (h pins s σ H Q I q)
noncomputable def sY(k:Nat)(J:It)(g:TG)(tt:TT)(te:TE)(Q:VK)(σ:St)(H1:Hp):Prop :=
  ∃W:Nat->Nat->List V->Hp->Prop,(∃m,W 0 m [] H1)/\∀i m ys H,W i m ys H->ys.length<=sizeLine /\
    ((J.stop i H/\∀p,H p=none->Q (.ref p) (upd H p (.lst ys))) \/
     (J.go i H/\∃NN:List V->Hp->Prop,(∀ys' H',NN ys' H'->∃m',m'<m/\W (i+1) m' ys' H')/\∀x H',J.yld i H x H'->g x (List.replicate k none++σ) H' fun σ2 H2=>∃own:St,own.length=k/\σ2=own++σ /\
        tt σ2 H2 fun b H3=>if b=true then te σ2 H3 fun y H4=>NN (ys++[y]) H4 else NN ys H3))
noncomputable def sZ(k:Nat)(wi:TI)(g:TG)(tt:TT)(te:TE):TE:=fun σ H Q=>wi σ H fun J H1=>sY k J g tt te Q σ H1
section
variable{X:Cx}{N own:List Str}{scope:Scope}{tg iter elt:Expr}{ifs:List Expr}{wi:TI}{g:TG}{tt:TT}{te:TE}{pos:Pos}
theorem s9{pins:List (Addr×Obj)}{σ:St}{H:Hp}{s s4:Shared}{C D it:Addr}{fp:List Addr}{tn:Nat->Heap->Prop}{J:It}{Q:VK}{R:Result->Shared->Prop}
  (S:de X N own scope) (hc:X.calm=true) (hg:∀C s H ex,PG (cxC X N scope C s H ex) tg g) (hf:∀C s H ex,PIf (cxC X N scope C s H ex) ifs tt) (he:∀C s H ex,PE (cxC X N scope C s H ex) elt te)
  (I:Inv X pins σ H s) (T:Turn X.prog X.w X.K tg J fp it tn) (st:tn 0 s.heap) (f2:∀b∈fp,fK X pins H b) (W:sY own.length J g tt te Q σ H)
  (hD:@Eq Nat D s.heap.objs.size) (hC:@Eq Nat C (s.heap.objs.size+1)) (hos:s4.os=s.os) (hgs:s4.gens=s.gens) (keep:∀b o,s.heap.get? b=some o->s4.heap.get? b=some o) (ns:∃m,s4.heap.Ns C m) (pl:s4.heap.PlainList D #[])
  (fin:∀s5 H5 ys its,Inv (cxC X N scope C s H fp) [] (List.replicate own.length none++σ) H5 s5->H5 D=none->Vals ys its->s5.heap.PlainList D its.toArray->ys.length<=sizeLine->(∀p,H5 p=none->Q (.ref p) (upd H5 p (.lst ys)))->R (.ok .next) s5) :
  codeAny (model X.prog X.w) X.A (.compStart (.ListComp elt [⟨tg,iter,ifs,0⟩] scope pos) 0 (.ref it) (.ref D) (compEnvC scope (a9 X.env scope.names []) C X.env)) R s4:=by
 have fplt:∀b∈fp,@LT.lt Nat _ b s.heap.objs.size:=fun b hb=>by
  obtain⟨o,e,_⟩:=T.obj 0 s.heap st b hb;exact Heap.lt_size e
 have I4:Inv (cxC X N scope C s H fp) [] (List.replicate own.length none++σ) H s4:=sX S I (by omega) hos hgs keep ns fun b hb=>⟨f2 b hb,fplt b hb⟩
 have st4:tn 0 s4.heap:=T.keep 0 s.heap s4.heap st fun b _ o e=>keep b o e;have nD:H D=none:=I.hok.fresh (by omega);obtain⟨W,⟨m0,w0⟩,step⟩:=W;generalize hX':cxC X N scope C s H fp=X' at I4 fin;have eP:X'.prog=X.prog:=by rw[<-hX'];rfl
 have ew:X'.w=X.w:=by rw[<-hX'];rfl
 have eK:X'.K=X.K:=by rw[<-hX'];rfl
 have ec:X'.calm=true:=by rw[<-hX'];exact hc
 have eA:X'.A=X.A:=by rw[<-hX'];rfl
 have ee:X'.env=compEnvC scope (a9 X.env scope.names []) C X.env:=by rw[<-hX'];rfl
 have exe:X'.xe=fun _ _=>False:=by rw[<-hX'];rfl
 have el:X'.env.locals=C:=by rw[ee];rfl
 have hg':PG X' tg g:=by rw[<-hX'];exact hg _ _ _ _
 have hf':PIf X' ifs tt:=by rw[<-hX'];exact hf _ _ _ _
 have he':PE X' elt te:=by rw[<-hX'];exact he _ _ _ _
 have s0:X'.s₀=s:=by rw[<-hX'];rfl
 have pn0:X'.pn=[]:=by rw[<-hX'];rfl
 have fpC:∀{H':Hp} {o:Obj},(∀b∈fp,H' b=none)->∀b∈fp,fK X' [(D,o)] H' b:=fun {H' o} hn b hb=>by
  have ex:X'.ex=fp:=by rw[<-hX'];rfl
  refine⟨hn b hb,?_,?_,.inl (by rw[ex];exact hb),fun x c e=>?_,fun p hp=>?_⟩
  ·rw[el];have:=fplt b hb;exact Nat.ne_of_lt (by show @LT.lt Nat _ b C;omega)
  ·have e1:X'.fs=frs X.stack:=by rw[<-hX'];rfl
   rw[e1];intro z;obtain⟨f0,f1,f2',f3,f4,f5⟩:=f2 b hb;rcases List.mem_cons.mp (I.iN b z) with q|q
   ·exact f1 q
   ·exact f2' q
  ·have e1:X'.env.cells=a9 X.env scope.names []:=by rw[ee];rfl
   rw[e1]at e;exact(f2 b hb).2.2.2.2.1 x c (dC scope.names [] (fun n c e=>by simp at e) x c e)
  ·rw[pn0,List.nil_append]at hp;have:p=(D,o):=by simpa using hp
   subst this;have:=fplt b hb;exact Nat.ne_of_gt (by show @LT.lt Nat _ b D;omega)
 have pinD:∀{σ':St} {H':Hp} {s':Shared} {o:Obj},Inv X' [] σ' H' s'->H' D=none->s'.heap.get? D=some o->(∀v,o.data≠.cell v)->Inv X' [(D,o)] σ' H' s':=fun {σ' H' s' o} I' n e d =>
  I'.eR fun p hp=>by
   have:p=(D,o):=by simpa using hp
   subst this;refine⟨e,n,?_,?_,d⟩
   ·rw[el];exact Nat.ne_of_lt (by show @LT.lt Nat _ D C;omega)
   ·have e1:X'.fs=frs X.stack:=by rw[<-hX'];rfl
    rw[e1];intro z;have zz:(D:Addr)∈frs X.stack:=z;rcases List.mem_cons.mp (I.iN D zz) with q|q
    ·have:=I.lt;rw[<-q]at this;exact absurd this (by show ¬@LT.lt Nat _ D s.heap.objs.size;omega)
    ·exact I.zw (a:=D) (by omega) q
 have start:∀s':Shared,s'=s4->codeAny (model X.prog X.w) X.A (.compLoop (.ListComp elt [⟨tg,iter,ifs,0⟩] scope pos) 0 (.ref it) (.ref D) (compEnvC scope (a9 X.env scope.names []) C X.env)) R s':=by
  rintro s' rfl;refine lB (fun n s'=>∃i ys its H',Inv X' [] (List.replicate own.length none++σ) H' s'/\tn i s'.heap/\(∀b∈fp,H' b=none)/\H' D=none/\Vals ys its/\s'.heap.PlainList D its.toArray/\W i n ys H') ?_ m0
   ⟨0,[],[],H,I4,st4,fun b hb=>(f2 b hb).1,nD,.nil,pl,w0⟩
  rintro n s3 ⟨i,ys,its,H3,I3,st3,fr3,nD3,rv3,⟨nn,pl3⟩,w3⟩;obtain⟨hlen,hstep⟩:=step i n ys H3 w3;have IP:=pinD I3 nD3 pl3 (fun v z=>by have z':Data.seq _ _=Data.cell v:=z;cases z');rcases hstep with⟨stop,qn⟩|⟨go,NN,hNN,turn⟩
  ·have d:=T.done X' eP ew eK ec i _ s3 _ H3 (notedBy (model X.prog X.w) X.A (compEnvC scope (a9 X.env scope.names []) C X.env) fun e s'=>R (.error e) s') IP (fpC fr3) st3 stop;rw[eA]at d;refine thn d fun r s4 ⟨hr,I5⟩=>?_;subst hr;have e5:=(I5.pin (D,({cls:=.type "list",data:=.seq its.toArray nn}:Obj)) (by rw[pn0];simp)).1;exact fin s4 H3 ys its (I5.eR fun p hp=>by cases hp) nD3 rv3 ⟨nn,e5⟩ hlen qn
  ·have d:=T.item X' eP ew eK ec i _ s3 _ H3 (notedBy (model X.prog X.w) X.A (compEnvC scope (a9 X.env scope.names []) C X.env) fun e s'=>R (.error e) s') IP (fpC fr3) st3 go;rw[eA]at d;refine thn d fun r s4 ⟨u,hr,h4⟩=>?_;subst hr;refine thn h4 fun _ s5 ⟨x,H5,I5,r5,y5,st5,fr5⟩=>?_;have nD5:H5 D=none:=(I5.pin (D,({cls:=.type "list",data:=.seq its.toArray nn}:Obj)) (by rw[pn0];simp)).2.1;have I5':=I5.pinned (fpC fr5) (T.obj _ _ st5);have a6:=hg' _ s5 _ H5 x u _ I5' r5 (turn x H5 y5);rw[eP,ew,eA,ee,exe]at a6;refine wpAny_mono a6 (fun _ s6 ⟨σ6,H6,I6,q6⟩=>?_) fun _ _ z=>False.elim z;obtain⟨ow,how,rfl,q6⟩:=q6;have a7:=hf' _ s6 _ H6 _ I6 q6;rw[eP,ew,eA,ee,exe]at a7;refine wpAny_mono a7 (fun b s7 ⟨H7,I7,q7⟩=>?_) fun _ _ z=>False.elim z;have back:∀{s8:Shared} {H8:Hp} {ys':List V} {its':List Value} {nn':Nat},Inv X' [] (ow++σ) H8 s8->tn (i+1) s8.heap->(∀b∈fp,H8 b=none)->H8 D=none->Vals ys' its'->s8.heap.PlainList D its'.toArray->(∃m',m'<n/\W (i+1) m' ys' H8) ->
     ∃m,m<n/\∃i ys its H',Inv X' [] (List.replicate own.length none++σ) H' s8/\tn i s8.heap/\(∀b∈fp,H' b=none)/\H' D=none/\Vals ys its/\s8.heap.PlainList D its.toArray/\W i m ys H':=fun {s8 H8 ys' its' nn'} I8 st8 fr8 n8 rv8 pl8 w8=>by
    obtain⟨m',hm,w8⟩:=w8;refine⟨m',hm,i+1,ys',its',H8,I8.weak (by simp[how]) (fun j v e=>?_),st8,fr8,n8,rv8,pl8,w8⟩;by_cases hj:j<own.length
    ·rw[List.getElem?_append_left (by simpa using hj),List.getElem?_replicate]at e;split at e<;>cases e
    ·rw[List.getElem?_append_right (by simpa using(Nat.not_lt.mp hj)),List.length_replicate]at e;rw[List.getElem?_append_right (by omega),how];exact e
   have tell:∀{σ':St} {H8:Hp} {s8:Shared},Inv X' ([(D,({cls:=.type "list",data:=.seq its.toArray nn}:Obj))]++iR fp s5.heap) σ' H8 s8->s8.heap.get? D=some {cls:=.type "list",data:=.seq its.toArray nn}/\H8 D=none/\tn (i+1) s8.heap/\∀b∈fp,H8 b=none:=fun {σ' H8 s8} I8=>by
    have p1:=I8.pin (D,({cls:=.type "list",data:=.seq its.toArray nn}:Obj)) (by rw[pn0];simp);refine⟨p1.1,p1.2.1,T.keep _ _ _ st5 fun b hb o e=>(I8.pin (b,o) (List.mem_append_right _ (List.mem_append_right _ (dA hb e)))).1,fun b hb=>?_⟩;obtain⟨o,e,d⟩:=T.obj _ _ st5 b hb;exact(I8.pin (b,o) (List.mem_append_right _ (List.mem_append_right _ (dA hb e)))).2.1
   cases b with
   |false =>
    rw[if_neg Bool.false_ne_true]at q7 ⊢;obtain⟨p1,p2,p3,p4⟩:=tell I7;exact back (nn':=0) (I7.eR fun p hp=>by cases hp) p3 p4 p2 rv3 ⟨nn,p1⟩ (hNN _ _ q7)
   |true =>
    rw[if_pos rfl]at q7 ⊢;have a8:=he' _ s7 _ H7 _ I7 q7;rw[eP,ew,eA,ee,exe]at a8;refine wpAny_mono a8 (fun y s8 ⟨yv,H8,I8,r8,q8⟩=>?_) fun _ _ z=>False.elim z;obtain⟨p1,p2,p3,p4⟩:=tell I8;have hsz:its.toArray.size<=sizeLine:=by rw[List.size_toArray,<-rv3.length];exact hlen
    refine wpAny_list_append_plain (hsz:=hsz) ⟨nn,p1⟩ fun h9 pl9 sb9=>?_;have I8':Inv X' [] (ow++σ) H8 s8:=I8.eR fun p hp=>by cases hp
    have ltC:∀x c,X'.env.cells.lookup x=some c->c≠D:=fun x c e=>by
     have e1:X'.env.cells=a9 X.env scope.names []:=by rw[ee];rfl
     rw[e1]at e;have q:=dC scope.names [] (fun n c e=>by simp at e) x c e;obtain⟨v,z⟩:=I.cell x c q;have:@LT.lt Nat _ c s.heap.objs.size:=z.lt;exact Nat.ne_of_lt (by show @LT.lt Nat _ c D;omega)
    have I9:Inv X' [] (ow++σ) H8 {s8 with heap:=h9,toks:=s8.toks}:=I8'.turned (it:=D) (fun b o hb e=>(sb9.2 b hb).trans e) p2 (by rw[el];exact Nat.ne_of_lt (by show @LT.lt Nat _ D C;omega)) (.inr (by rw[s0];show @LE.le Nat _ s.heap.objs.size D;omega)) ltC (fun p hp=>by rw[pn0]at hp;cases hp);have pe9:(its++[y]).toArray=its.toArray.push y:=by simp
    refine back (nn':=0) (s8:={s8 with heap:=h9,toks:=s8.toks}) I9 (T.keep _ _ _ p3 fun b hb o e=>(sb9.2 b ?_).trans e) p4 p2 (rv3.append (.cons r8 .nil)) (by rw[pe9];exact pl9) (hNN _ _ q8);have:=fplt b hb;exact Nat.ne_of_lt (by show @LT.lt Nat _ b D;omega)
 exact codeAny_compStart_list (start _ rfl) (T.self _ _ _ _ _ st4 (start _ rfl))
theorem jd{pins:List (Addr×Obj)}{σ:St}{H:Hp}{s:Shared}{Q:VK}{RR:Value->Addr->Result->Shared->Prop}{E:Value->Shared->Prop}
  (S:de X N own scope) (hc:X.calm=true) (hg:∀C s H ex,PG (cxC X N scope C s H ex) tg g) (hf:∀C s H ex,PIf (cxC X N scope C s H ex) ifs tt) (he:∀C s H ex,PE (cxC X N scope C s H ex) elt te)
  {it:Addr} {fp:List Addr} {tn:Nat->Heap->Prop} {J:It} (I:Inv X pins σ H s) (T:Turn X.prog X.w X.K tg J fp it tn) (st:tn 0 s.heap) (f2:∀b∈fp,fK X pins H b) (W:sY own.length J g tt te Q σ H)
  (fin:∀D C s5 H5 ys its,@Eq Nat D s.heap.objs.size->@Eq Nat C (s.heap.objs.size+1)->Inv (cxC X N scope C s H fp) [] (List.replicate own.length none++σ) H5 s5->H5 D=none->Vals ys its->s5.heap.PlainList D its.toArray->ys.length<=sizeLine->(∀p,H5 p=none->Q (.ref p) (upd H5 p (.lst ys)))->RR (.ref D) C (.ok .next) s5) :
  wpAny (model X.prog X.w) X.A (newList []) (fun acc s₃=>wpAny (model X.prog X.w) X.A (newFunctionEnv scope X.env.globals (a9 X.env scope.names []) [] X.env.qual none .none (some X.env)) (fun cenv s₄ =>
   codeAny (model X.prog X.w) X.A (.compStart (.ListComp elt [⟨tg,iter,ifs,0⟩] scope pos) 0 (.ref it) acc {cenv with scope:=relabel scope X.env}) (RR acc cenv.locals) s₄) E s₃) E s:=by
 refine wpAny_newObj_type (wpAny_newFunctionEnv S.nocell (by intro y hy;simp at hy) (fun h₁ hns₁ hsb₁=>?_) S.kind)
 dsimp only at hns₁ hsb₁ ⊢
 generalize hH2:s.heap.push {cls:=.type "list",dict:=none,data:=.seq ([]:List Value).toArray}=H2 at hns₁ hsb₁ ⊢;have hC:H2.objs.size=s.heap.objs.size+1:=by rw[<-hH2,Heap.size_push]
 have hDC:s.heap.objs.size≠H2.objs.size:=by rw[hC];exact Nat.ne_of_lt (Nat.lt_succ_self _)
 have below:∀b:Addr,b<s.heap.objs.size->b≠H2.objs.size:=fun b hb=>Nat.ne_of_lt (by have hb':@LT.lt Nat _ b s.heap.objs.size:=hb;show @LT.lt Nat _ b H2.objs.size;omega);have old:∀b o,s.heap.get? b=some o->h₁.get? b=some o:=fun b o e=>hsb₁.extBut b o (below b (Heap.lt_size e)) (Heap.get?_push_of_some _ (hH2▸Heap.get?_push_of_some _ e));have hacc:h₁.PlainList s.heap.objs.size #[]:=⟨_,hsb₁.extBut _ _ hDC (Heap.get?_push_of_some _ (hH2▸Heap.get?_push_size _ rfl))⟩
 exact s9 (s:=s) (s4:={s with heap:=h₁,toks:=s.toks+([]:List (Str×Value)).length}) (C:=H2.objs.size) (D:=s.heap.objs.size) S hc hg hf he I T st f2 W rfl hC rfl rfl old ⟨_,hns₁⟩ hacc
  fun s5 H5 ys its I5 n5 rv5 pl5 hl5 q5=>fin _ _ s5 H5 ys its rfl hC I5 n5 rv5 pl5 hl5 q5
theorem vC(S:de X N own scope)(hc:X.calm=true)(hi:PI X tg iter wi)(hg:∀C s H ex,PG (cxC X N scope C s H ex) tg g)(hf:∀C s H ex,PIf (cxC X N scope C s H ex) ifs tt)(he:∀C s H ex,PE (cxC X N scope C s H ex) elt te)
  (hs:∀x,foldedSetIterable iter X.env x=pure x:=by intro _;rfl):PE X (.ListComp elt [⟨tg,iter,ifs,0⟩] scope pos) (sZ own.length wi g tt te):=by
 intro pins s σ H Q I h;rw[eval_ListComp];refine wpAny_comprehension_free (use:=none) (cl:=a9 X.env scope.names []) rfl hs (dq (S.cells I.ok)) S.kind S.names ?_;refine thn (hi pins s σ H _ I h) fun v s1 h1=>thn h1 fun itv s2 h2=>?_;obtain⟨it,fp,tn,J,H2,e,I2,T,st2,f2,W⟩:=h2;subst e;refine jd (RR:=fun acc C=>compPost (model X.prog X.w) X.A X.xe none (EP X pins σ Q) acc C) S hc hg hf he I2 T st2 f2 W ?_;intro D C s5 H5 ys its hD hC I5 n5 rv5 pl5 hl5 q5;obtain⟨m5,hn5,_⟩:=I5.loc;exact⟨m5,hn5,fun h' sb=>⟨.ref D,_,mW I2 I5 (Nat.le_of_eq hD.symm) (by show @LE.le Nat _ s2.heap.objs.size C;omega) (Nat.ne_of_lt (by show @LT.lt Nat _ D C;omega)) n5 rv5 pl5 hl5 sb f2,rfl,q5 D n5⟩⟩
theorem vD{i:Nat}{y:Str}{py spos:Pos}(S:de X N own scope)(hc:X.calm=true)(hN:X.N.Nodup)(hiN:X.N[i]?=some y)(hy:X.env.scope.names.lookup y=some .local)
  (hi:PI X tg iter wi) (hg:∀C s H ex,PG (cxC X N scope C s H ex) tg g) (hf:∀C s H ex,PIf (cxC X N scope C s H ex) ifs tt) (he:∀C s H ex,PE (cxC X N scope C s H ex) elt te)
  (hsw:swapsWith (.ListComp elt [⟨tg,iter,ifs,0⟩] scope pos) (some (.Name y py)) spos.line X.env=pure true:=by rfl)
  (hs:∀x,foldedSetIterable iter X.env x=pure x:=by intro _;rfl):PS X (.Assign [.Name y py] (.ListComp elt [⟨tg,iter,ifs,0⟩] scope pos) spos) (xR (sZ own.length wi g tt te) (pR i)):=by
 intro pins s σ H D I h;rw[exec_Assign_Name_used _ _ _ _ hsw];refine wpAny_bind (wpAny_standAt (wpAny_bind ?_));show wpAny _ X.A (do let _ <-comprehension (.ListComp elt [⟨tg,iter,ifs,0⟩] scope pos) scope X.env _ (newList []) false (eval iter X.env) (some (assign (.Name y py) X.env))) _ _ s;refine wpAny_bind (wpAny_mono (wpAny_comprehension_free (use:=some (assign (.Name y py) X.env)) (cl:=a9 X.env scope.names []) (Q:=fun _ s'=>SP X pins D .next s') rfl hs (dq (S.cells I.ok)) S.kind S.names ?_) (fun _ s' hq=>wpAny_pure (wpAny_pure hq)) fun _ _ e=>e);refine thn (hi pins s σ H _ I h) fun v s1 h1=>thn h1 fun itv s2 h2=>?_;obtain⟨it,fp,tn,J,H2,e,I2,T,st2,f2,W⟩:=h2;subst e;refine jd (RR:=fun acc C=>compPost (model X.prog X.w) X.A X.xe (some (assign (.Name y py) X.env)) (fun _ s'=>SP X pins D .next s') acc C) S hc hg hf he I2 T st2 f2 W ?_;intro DD C s5 H5 ys its hD hC I5 n5 rv5 pl5 hl5 q5;obtain⟨m5,hn5,_⟩:=I5.loc;have nC5:H5 C=none:=I5.free;have B:Inv X pins σ (upd H5 DD (.lst ys)) {s5 with heap:=s5.heap}:=mW I2 I5 (Nat.le_of_eq hD.symm) (by show @LE.le Nat _ s2.heap.objs.size C;omega) (Nat.ne_of_lt (by show @LT.lt Nat _ DD C;omega)) n5 rv5 pl5 hl5 (Heap.SameBut.refl ..) f2;show wpAny _ X.A (assign (.Name y py) X.env (.ref DD)) _ _ s5;refine wpAny_assign_Name (kh (s:=s5) B hN hiN (.inl hy) (show RelV (.ref DD) (.ref DD) from rfl) (fun s6 I6 ⟨a,sb,ha⟩=>?_) (.inr hy));have ltC:@LT.lt Nat _ X.env.locals C:=by have:@LT.lt Nat _ X.env.locals s2.heap.objs.size:=I2.lt;omega
 have cellsC:∀x c,X.env.cells.lookup x=some c->c≠C:=fun x c e=>by
  obtain⟨v,z⟩:=I2.cell x c e;have:@LT.lt Nat _ c s2.heap.objs.size:=z.lt;exact Nat.ne_of_lt (by show @LT.lt Nat _ c C;omega)
 have hCa:C≠a:=by
  rcases ha with z|z
  ·rw[z];exact Nat.ne_of_gt ltC
  ·exact(cellsC _ _ z).symm
 refine⟨m5,hn5.sameBut sb hCa,fun h' sb'=>?_⟩;refine⟨σ.set i (some (.ref DD)),upd H5 DD (.lst ys),I6.turned (it:=C) (t':=s6.toks) (fun b o hb e=>(sb'.2 b hb).trans e) ?_ (Nat.ne_of_gt ltC) (.inr (by have:@LE.le Nat _ X.s₀.heap.objs.size s2.heap.objs.size:=I2.sz;show @LE.le Nat _ X.s₀.heap.objs.size C;omega)) cellsC (fun p hp=>?_),q5 DD n5⟩
 ·rw[ak (Nat.ne_of_gt (by show @LT.lt Nat _ DD C;omega))];exact nC5
 ·have:@LT.lt Nat _ p.1 s2.heap.objs.size:=Heap.lt_size (I2.pin p hp).1;exact Nat.ne_of_lt (by show @LT.lt Nat _ p.1 C;omega)
end
end L2
namespace L2
open PySem PySem.Spec PyProof.Rows
section
variable{X:Cx}{tg:Expr}
end
section
variable{X:Cx}
noncomputable def Aa:V->Option Int->Option Int->Hp->VK->Prop:=fun x lo hi H Q=>∃z,x=.str z/\z.length<=sizeLine/\Q (.str (PySem.StrLaws.sliceText z lo hi)) H
theorem j4(x:Str)(lo hi:Option Int)(hz:x.length<=sizeLine):(PySem.StrLaws.sliceText x lo hi).length<=sizeLine:=Nat.le_trans (Txt.slice_le x lo hi) hz
theorem yn:SlR X Aa:=by
 intro pins s σ H x v vl vu lo hi sl Q I rx hs pl pu h;obtain⟨z,rfl,hz,q⟩:=h;obtain⟨t,rfl⟩:=rx;refine⟨"str",_,slot_str_getitem.lookup,typeIs_str _ _ _,?_⟩;have fin:(PySem.StrLaws.sliceText z lo hi).length<=sizeLine/\∀t' k,EP X pins σ Q (.str (PySem.StrLaws.sliceText z lo hi) t') {s with toks:=k}:=⟨j4 z lo hi hz,fun t' k=>⟨.str _,H,I.tok k,⟨_,rfl⟩,q⟩⟩
 cases pl with
 |none =>
  cases pu with
  |none=>exact wpAny_getItem_str_slice (l:=none) (u:=none) (st:=none) hs rfl (post_val_or_str fin)
  |int j tj=>exact wpAny_getItem_str_slice (l:=none) (u:=some (j,tj)) (st:=none) hs rfl (post_val_or_str fin)
 |int i ti =>
  cases pu with
  |none=>exact wpAny_getItem_str_slice (l:=some (i,ti)) (u:=none) (st:=none) hs rfl (post_val_or_str fin)
  |int j tj=>exact wpAny_getItem_str_slice (l:=some (i,ti)) (u:=some (j,tj)) (st:=none) hs rfl (post_val_or_str fin)
theorem kD:∀(l:List (Str×Tok)),Vals (l.map fun p=>V.str p.1) (strValues l)
 |[]=>.nil
 |(x,t)::r=>.cons ⟨t,rfl⟩ (kD r)
theorem fP:∀{ys:List Str}{its:List Value},Vals (ys.map V.str) its->∃l:List (Str×Tok),its=strValues l/\l.map (·.1)=ys
 |[],_,.nil=>⟨[],rfl,rfl⟩
 |y::ys,_,.cons r t=>by
  obtain⟨tk,rfl⟩:=r;obtain⟨l,rfl,e⟩:=fP t;exact⟨(y,tk)::l,rfl,by rw[List.map_cons,e]⟩
theorem s_:MtR X "str.split" (fun x xs H Q=>∃a b,x=.str a/\xs=[.str b]/\(b.length==0)=false/\a.length+2<=sizeLine /\
  ∀p,H p=none->Q (.ref p) (upd H p (.lst ((Txt.split a b).map V.str)))):=by
 intro pins s σ H x xs v us Q I rx rs h;obtain⟨x,y,rfl,rfl,hy,hz,q⟩:=h;obtain⟨t,rfl⟩:=rx;obtain⟨u0,rfl,u,rfl⟩:=vals1 rs;have hf:H s.heap.objs.size=none:=I.hok.fresh (Nat.le_refl _);have q':=q _ hf;have fin:∀(l:List (Str×Tok)) (k:Nat),l.length<=sizeLine->l.map (·.1)=Txt.split x y->EP X pins σ Q (.ref s.heap.objs.size) {s with toks:=k,heap:=s.heap.push {cls:=.type "list",data:=.seq (strValues l).toArray}}:=fun l k hl e =>
  ⟨.ref s.heap.objs.size,_,I.laid (t':=k) (o:=.lst ((Txt.split x y).map V.str)) (fun b u e=>Heap.get?_push_of_some _ e) (Nat.le_refl _)
   ⟨by rw[<-e,List.length_map,List.length_map];exact hl,strValues l,_,by rw[<-e,List.map_map];exact kD l,Heap.get?_push_size _ rfl⟩,rfl,q'⟩
 have one:1<=sizeLine:=by decide
 cases h1:(decide (x.length<y.length)||decide (Builtin.Str.strKind x<Builtin.Str.strKind y))
 ·cases hf:(Builtin.Str.occurrences x y 0 x.length (x.length+1)).isEmpty
  ·have hn:(Builtin.Str.partsBetween x (Builtin.Str.occurrences x y 0 x.length (x.length+1)) y.length).length<=sizeLine:=by
    have:=PySem.StrLaws.occ_length_le x y 0 x.length (x.length+1);simp only[Builtin.Str.partsBetween,List.length_map,List.length_zip,List.length_cons,List.length_append];omega
   refine call_meets F.slot_str_split (typeIs_str _ _ _) F.entry_str_split (F.args_str_split_2 _ _) (meets_str_split_sep x y t u h1 hy hf (by omega) hn) ?_;show wants _ _ _ {s with toks:=_,heap:=s.heap.push {cls:=.type "list",data:=.seq (strsFrom s.toks (Builtin.Str.partsBetween x (Builtin.Str.occurrences x y 0 x.length (x.length+1)) y.length)).toArray}};rw[strsFrom_eq];refine fin (numbered s.toks _) _ ?_ ((numbered_texts _ _).trans ((if_neg (ne_true_of_eq_false h1)).trans (if_neg (ne_true_of_eq_false hf))).symm);have e:=congrArg List.length (numbered_texts s.toks (Builtin.Str.partsBetween x (Builtin.Str.occurrences x y 0 x.length (x.length+1)) y.length));rw[List.length_map]at e;omega
  ·exact call_meets F.slot_str_split (typeIs_str _ _ _) F.entry_str_split (F.args_str_split_2 _ _) (meets_str_split_not_found x y t u h1 hy hf)
    (fin [(x,t)] _ one ((if_neg (ne_true_of_eq_false h1)).trans (if_pos hf)).symm)
 ·exact call_meets F.slot_str_split (typeIs_str _ _ _) F.entry_str_split (F.args_str_split_2 _ _) (meets_str_split_cannot_occur x y t u h1)
   (fin [(x,t)] _ one (if_pos h1).symm)
theorem vE:MtR X "str.join" (fun x xs H Q=>∃a p ys,x=.str a/\xs=[.ref p]/\SqL X.K H p (ys.map V.str)/\JoinOk a ys=true/\Q (.str (Txt.join a ys)) H):=by
 intro pins s σ H x xs v us Q I rx rs h;obtain⟨a,p,ys,rfl,rfl,hq,hok,q⟩:=h;obtain⟨t,rfl⟩:=rx;obtain⟨u,rfl,r⟩:=vals1 rs;cases r;obtain⟨its,rv,pl,hz⟩:=I.list hq;obtain⟨l,rfl,e⟩:=fP rv;exact SC.join pl.isList e hok fun t' k=>⟨.str _,H,I.tok k,⟨_,rfl⟩,q⟩
theorem gX:∀{bs:List Bool}{its:List Value},Vals (bs.map V.bl) its->its=bs.map Value.bool
 |[],_,.nil=>rfl
 |b::bs,_,.cons r t=>by
  cases r;rw[gX t];rfl
theorem tf:X.calm=true->fL X (.builtin "all") (fun xs H Q=>∃(p:Addr) (bs:List Bool),xs=[.ref p]/\SqL X.K H p (bs.map V.bl)/\Q (.bl (bs.all id)) H):=by
 intro hc pins s σ H xs us Q I rs h;obtain⟨p,bs,rfl,hq,q⟩:=h;obtain⟨u,rfl,r⟩:=vals1 rs;cases r;obtain⟨its,rv,pl,hz⟩:=I.list hq;have e:=gX rv;subst e;have hlt:p<s.heap.objs.size:=by obtain⟨_,_,e,_⟩:=pl;exact Heap.lt_size e
 refine call_all_walk (wpAny_pyIter_list pl.isList ?_);refine⟨s.heap.objs.size,[s.heap.objs.size,p],[s.heap.objs.size],(bs.map Value.bool).toArray.size,_,_,fun i=>(bs[i]?).getD true,rfl,Walks.list (A:=X.A.in1) (I.ok.hd hc) _ p (Nat.ne_of_lt hlt) (bs.map Value.bool).toArray,
  ⟨⟨_,Heap.get?_push_size _ rfl,rfl,rfl⟩,pl.isList.push _⟩,fun i v s' Q' E' hP hQ=>?_,fun h' tk hk=>?_⟩
 ·have hP':(bs.map Value.bool)[i]?=some v:=by simpa using hP
  rw[List.getElem?_map]at hP';cases e:bs[i]? with
  |none=>rw[e]at hP';cases hP'
  |some b =>
   rw[e]at hP';cases hP';simp only[e,Option.getD_some]at hQ;exact wpAny_truthy_bool hQ
 ·have e:((List.range (bs.map Value.bool).toArray.size).all fun i=>(bs[i]?).getD true)=bs.all id:=by
   rw[List.size_toArray,List.length_map];exact PyProof.Rows.LSm.range_all bs
  rw[e];exact⟨.bl _,H,I.kept (t':=tk) (PyProof.Rows.LSm.kept_iter hk),rfl,q⟩
end
section
variable{X:Cx}
end
end L2
namespace L2
open PySem PySem.Spec PyProof.Rows
noncomputable def yo(N own:List Str)(scope:Scope)(out:List (Str×NameKind)):Bool :=
 decide (scope.kind=.function)&&scope.names.all (fun y=>decide (y.2≠.cell))&&scope.names.all (fun y=>decide (y.2≠.local)||decide (scope.names.lookup y.1=some .local))&&decide N.Nodup&&decide (N.take own.length=own) &&
 scope.names.all (fun y=>decide (y.2≠.local)||decide (y.1∈own)||decide (y.1=".0"))&&decide ((".0":Str)∉N)&&scope.names.all (fun y=>decide (y.2≠.free)||decide (out.lookup y.1=some .cell)||decide (out.lookup y.1=some .free))&&scope.names.all (fun y=>decide (y.1≠".")&&decide (y.1≠".."))
theorem tm{X:Cx}{N own:List Str}{scope:Scope}{out:List (Str×NameKind)}(hn:X.env.scope.names=out)(ht:dc (N.drop own.length) X.N)(h:yo N own scope out=true):de X N own scope:=by
 unfold yo at h;simp only[Bool.and_eq_true,List.all_eq_true,Bool.or_eq_true,decide_eq_true_eq]at h;obtain⟨⟨⟨⟨⟨⟨⟨⟨h1,h2⟩,h3⟩,h4⟩,h5⟩,h6⟩,h7⟩,h8⟩,h9⟩:=h;refine⟨h1,h2,fun y hy e=>?_,h4,h5,fun y hy e=>?_,h7,ht,fun y hy e=>?_,h9⟩
 ·rcases h3 y hy with z|z
  ·exact absurd e z
  ·exact z
 ·rcases h6 y hy with(z|z)|z
  ·exact absurd e z
  ·exact .inl z
  ·exact .inr z
 ·rw[hn];rcases h8 y hy with(z|z)|z
  ·exact absurd e z
  ·exact .inl z
  ·exact .inr z
end L2
namespace L2
open PySem PySem.Spec PyProof.Rows
section
variable{prog:Program}{w:World}
noncomputable def aV(prog:Program)(w:World)(h:Heap)(k:Str×List Str)(a:Addr):Prop :=
 ∃o n t b,h.get? a=some o/\o.cls=.type "tuple"/\o.data=.seq #[.str k.1 t,.ref b] n/\IsTupleKey (PySem.strKind prog w) h k.2 b
theorem aV.typeIs{s:Shared}{k:Str×List Str}{a:Addr}(x:aV prog w s.heap k a):s.TypeIs (.ref a) "tuple":=let ⟨o,_,_,_,ho,hc,_⟩:=x;⟨o,ho,hc⟩
theorem aV.inj{h:Heap}{a:Addr}{x y:Str×List Str}(hx:aV prog w h x a)(hy:aV prog w h y a):x=y:=by
 obtain⟨o,n,t,b,ho,_,hd,hi⟩:=hx;obtain⟨o',n',t',b',ho',_,hd',hi'⟩:=hy;obtain rfl:o=o':=Option.some.inj (ho.symm.trans ho');rw[hd]at hd';injection hd' with h1 _
 simp only[Array.mk.injEq,List.cons.injEq,Value.str.injEq,Value.ref.injEq,and_true]at h1;obtain⟨⟨e1,_⟩,e2⟩:=h1;subst e2;exact Prod.ext e1 (hi.inj hi')
theorem aV.keeps{h h':Heap}{k:Str×List Str}{a d:Addr}{o:Obj}{es ep}(x:aV prog w h k a)(ho:h.get? d=some o)(hd:o.data=.dict es ep)(hs:Heap.SameBut d h h'):aV prog w h' k a:=by
 obtain⟨o',n,t,b,ho',hc,hd',hi⟩:=x;have hne:a≠d:=by
  rintro rfl;obtain rfl:o'=o:=Option.some.inj (ho'.symm.trans ho);rw[hd]at hd';exact nomatch hd'
 exact⟨o',n,t,b,(hs.2 a hne).trans ho',hc,hd',hi.keeps ho hd hs⟩
noncomputable def lC(prog:Program)(w:World)(k:Str×List Str):Int:=reduceHash (Builtin.Tuple.tupleHashOf [(PySem.strKind prog w).hash k.1,tupleKeyHash (PySem.strKind prog w) k.2])
variable{A:Around}{E:Value->Shared->Prop}{s:Shared}
noncomputable def tp(prog:Program)(w:World)(hh:Heap)(v:Value)(n:Int)(d:Nat):Prop :=
 ∀{A:Around} {E:Value->Shared->Prop} {s:Shared} {Q:Int->Shared->Prop},s.heap=hh->A.units<cLine->Q n {s with toks:=s.toks+d}->wpAny (model prog w) A (pyHash v) Q E s
theorem oy{hh:Heap}(x:Str)(t:Tok):tp prog w hh (.str x t) ((PySem.strKind prog w).hash x) 1:=fun _ _ h=>(PySem.strKind prog w).pyHash (by simp[PySem.strKind,Value.isStrOf]) h
theorem lD{hh:Heap}{ks:List Str}{b:Addr}(hk:IsTupleKey (PySem.strKind prog w) hh ks b):tp prog w hh (.ref b) (tupleKeyHash (PySem.strKind prog w) ks) (ks.length+1):=fun e hu h=>by
 subst e;exact wpAny_pyHash_tuple hu hk h
theorem gC{k:Str×List Str}{a:Addr}{Q:Int->Shared->Prop}(hu:A.units+1<cLine)(hk:aV prog w s.heap k a)(h:Q (lC prog w k) {s with toks:=s.toks+(k.2.length+3)}):
  wpAny (model prog w) A (pyHash (.ref a)) Q E s:=by
 have hT:=hk.typeIs;obtain⟨o,n,t,b,ho,_,hd,hi⟩:=hk;unfold pyHash
 first|unfold pyHashByItsType|skip
 first|refine wpAny_bind (wpAny_cRoomFor_or (.inr (by omega)) ?_)|skip
 refine wpAny_bind (wpAny_specialOf hT PySem.F.slot_tuple_hash.lookup ?_);show wpAny _ _ (if (some (Value.builtin "tuple.__hash__")==some Value.none)=true then _ else _) Q E s;rw[if_neg (by rw[beq_builtin_none];exact Bool.false_ne_true)];refine wpAny_bind (wpAny_specialOf hT PySem.F.slot_tuple_hash.lookup ?_);show wpAny _ _ (callSpecialIfBoundUnlessNone? (.ref a) "__hash__" _ >>= _) Q E s;refine wpAny_bind (wpAny_callSpecialIfBoundUnlessNone?_slot hT PySem.F.slot_tuple_hash (wpAny_call_entry PySem.F.slot_tuple_hash hT PySem.F.entry_tuple_hash ?_ (PySem.F.args_tuple_hash_1 _)));show wpAny _ _ (Builtin.Tuple.tupleItemsOf (.ref a) >>= _) _ _ s;refine wpAny_bind (wpAny_tupleItemsOf ho hd ?_);refine wpAny_bind ?_;rw[<-Array.forIn_toList];refine wpAny_forIn_list _
  (fun rest (b':Array Int) s'=>(rest=[Value.str k.1 t,Value.ref b]/\b'=#[]/\s'=s)\/(rest=[Value.ref b]/\b'.toList=[(PySem.strKind prog w).hash k.1]/\s'={s with toks:=s.toks+1}) \/
   (rest=[]/\b'.toList=[(PySem.strKind prog w).hash k.1,tupleKeyHash (PySem.strKind prog w) k.2]/\s'={s with toks:=s.toks+1+(k.2.length+1)}))
  _ ?_ ?_ _ _ (.inl ⟨rfl,rfl,rfl⟩)
 ·rintro x rest b' s' (⟨e,rfl,rfl⟩|⟨e,hb,rfl⟩|⟨e,_,_⟩)
  ·cases e;refine wpAny_bind (oy k.1 t (hh:=s'.heap) rfl (by show A.units+1<cLine;exact hu) ?_)
   first
    |exact wpAny_pure (.inr (.inl ⟨rfl,rfl,rfl⟩))
    |exact wpAny_bind (wpAny_pure (wpAny_pure (.inr (.inl ⟨rfl,rfl,rfl⟩))))
  ·cases e;refine wpAny_bind (lD hi rfl (by show A.units+1<cLine;exact hu) ?_)
   first
    |exact wpAny_pure (.inr (.inr ⟨rfl,by simp[hb],rfl⟩))
    |exact wpAny_bind (wpAny_pure (wpAny_pure (.inr (.inr ⟨rfl,by simp[hb],rfl⟩))))
  ·cases e
 ·rintro b' s' (⟨e,_,_⟩|⟨e,_,_⟩|⟨_,hb,rfl⟩)
  ·cases e
  ·cases e
  ·show wpAny _ _ (retInt (Builtin.Tuple.tupleHashOf b'.toList)) _ _ _;rw[hb];refine wpAny_ret_mkInt ?_;have et:s.toks+1+(k.2.length+1)+1=s.toks+(k.2.length+3):=by omega
   show wpAny _ _ (if (decide (-(2:Int) ^ 63<=Builtin.Tuple.tupleHashOf [(PySem.strKind prog w).hash k.1,tupleKeyHash (PySem.strKind prog w) k.2])&&decide (Builtin.Tuple.tupleHashOf [(PySem.strKind prog w).hash k.1,tupleKeyHash (PySem.strKind prog w) k.2]<2 ^ 63))=true then _ else _) Q E _;unfold lC reduceHash at h;by_cases hr:(decide (-(2:Int) ^ 63<=Builtin.Tuple.tupleHashOf [(PySem.strKind prog w).hash k.1,tupleKeyHash (PySem.strKind prog w) k.2])&&decide (Builtin.Tuple.tupleHashOf [(PySem.strKind prog w).hash k.1,tupleKeyHash (PySem.strKind prog w) k.2]<2 ^ 63))=true
   ·rw[if_pos hr];rw[if_pos hr]at h;exact wpAny_pure (by rw[et];exact h)
   ·rw[if_neg hr];rw[if_neg hr]at h;exact wpAny_bind (wpAny_rule (wpAny_pure (by rw[et];exact h)))
theorem mX{x y:Str×List Str}{a b:Addr}{P:Fin->Shared->Prop}(hu:A.units<cLine)(hx:aV prog w s.heap x a)(hy:aV prog w s.heap y b)(h:P (.done (.ret (.bool (decide (x=y))))) s):
  wpAny (model prog w) A (Builtin.«tuple.__eq__» ⟨[.ref a,.ref b],[]⟩) P E s:=by
 have hTb:=hy.typeIs;obtain⟨oa,na,ta,pa,hoa,_,hda,hia⟩:=hx;obtain⟨ob,nb,tb,pb,hob,_,hdb,hib⟩:=hy;show wpAny _ _ (isInstance (.ref b) (.type "tuple") >>= _) _ _ s;refine wpAny_bind (wpAny_isInstance hTb isSubtype_tuple_tuple ?_);simp only[Bool.not_true,Bool.false_eq_true,if_false];refine wpAny_bind (wpAny_tupleItemsOf hoa hda ?_);refine wpAny_bind (wpAny_tupleItemsOf hob hdb ?_);refine wpAny_bind ?_;refine wpAny_forIn_list _
  (fun rest r s'=>r.1=none/\s'=s/\((rest=[(Value.str x.1 ta,Value.str y.1 tb),(Value.ref pa,Value.ref pb)])\/(rest=[(Value.ref pa,Value.ref pb)]/\x.1=y.1)\/(rest=[]/\x=y)))
  _ ?_ ?_ _ _ ⟨rfl,rfl,.inl rfl⟩
 ·rintro⟨u,v⟩ rest r s' ⟨hr,rfl,(e|⟨e,e1⟩|⟨e,_⟩)⟩
  ·cases e;refine wpAny_bind ((PySem.strKind prog w).eqBool (a:=x.1) (b:=y.1) (by simp[PySem.strKind,Value.isStrOf]) (by simp[PySem.strKind,Value.isStrOf]) ?_);by_cases hk:x.1=y.1
   ·rw[decide_eq_true hk];simp only[Bool.not_true,Bool.false_eq_true,if_false];exact wpAny_pure ⟨rfl,rfl,.inr (.inl ⟨by first|rfl|trivial,hk⟩)⟩
   ·rw[decide_eq_false hk];simp only[Bool.not_false,if_true];rw[decide_eq_false (fun z=>hk (by rw[z]))]at h;exact wpAny_bind (wpAny_pure (wpAny_pure (wpAny_pure h)))
  ·cases e;refine wpAny_bind (wpAny_eqBool_tuple hu hia hib ?_);by_cases hk:x.2=y.2
   ·rw[decide_eq_true hk];simp only[Bool.not_true,Bool.false_eq_true,if_false];exact wpAny_pure ⟨rfl,rfl,.inr (.inr ⟨by first|rfl|trivial,Prod.ext e1 hk⟩)⟩
   ·rw[decide_eq_false hk];simp only[Bool.not_false,if_true];rw[decide_eq_false (fun z=>hk (by rw[z]))]at h;exact wpAny_bind (wpAny_pure (wpAny_pure (wpAny_pure h)))
  ·cases e
 ·rintro⟨r1,r2⟩ s' ⟨hr,rfl,(e|⟨e,_⟩|⟨_,rfl⟩)⟩
  ·cases e
  ·cases e
  ·simp only at hr;subst hr;refine wpAny_pure ?_;rw[decide_eq_true rfl]at h;exact h
theorem gD{x y:Str×List Str}{a b:Addr}{Q:Bool->Shared->Prop}(hu:A.units+2<cLine)(hx:aV prog w s.heap x a)(hy:aV prog w s.heap y b)(h:Q (decide (x=y)) s):
  wpAny (model prog w) A (eqBool (.ref a) (.ref b)) Q E s:=by
 unfold eqBool
 try with_reducible refine wpAny_holding ?_
 show wpAny _ _ (if (Value.ref a==Value.ref b)=true then _ else _) Q E s;by_cases hab:(Value.ref a==Value.ref b)=true
 ·rw[if_pos hab];have e:a=b:=by have:=eq_of_beq hab;injection this
  subst e;obtain rfl:=hx.inj hy;exact wpAny_bind (wpAny_rule (wpAny_pure (by simpa using h)))
 ·rw[if_neg hab];exact wpAny_bind (wpAny_richCompare_same_room (op:=.Eq) hx.typeIs hy.typeIs PySem.F.slot_tuple_eq
   (wpAny_call_entry PySem.F.slot_tuple_eq hx.typeIs PySem.F.entry_tuple_eq (mX (by first|(show A.units+1<cLine;omega)|(show A.units<cLine;omega)|(show A.units+1+1<cLine;omega)) hx hy ⟨_,rfl,(fun e=>nomatch e),wpAny_truthy_bool h⟩) (PySem.F.args_tuple_eq_2 _ _)) (by omega))
theorem fQ{ks:List Str}{a:Addr}{n:Nat}{Q:Bool->Shared->Prop}(hk:IsTupleKey (PySem.strKind prog w) s.heap ks a)(h:Q true s):wpAny (model prog w) A (eqIsQuiet (n+1) (.ref a)) Q E s:=by
 have hT:=hk.typeIs;obtain⟨o,items,n',ho,_,hd,hi⟩:=hk;unfold eqIsQuiet;refine wpAny_bind (wpAny_specialOf hT PySem.F.slot_tuple_eq.lookup ?_);show wpAny _ _ (isInstance (.ref a) (.type "tuple") >>= _) _ _ s;refine wpAny_bind (wpAny_isInstance hT isSubtype_tuple_tuple ?_);simp only[Bool.not_true,Bool.false_eq_true,if_false];refine wpAny_bind (wpAny_seqItems ho hd ?_);refine wpAny_bind ?_;show wpAny _ _ (forIn items _ _) _ _ s;rw[<-Array.forIn_toList];refine wpAny_forIn_list _ (fun rest r s'=>r.1=none/\s'=s/\∀v∈rest,carriedByValue v=true) _ ?_ ?_ _ _ ⟨rfl,rfl,hi.byValue⟩
 ·rintro v rest r s' ⟨hr,rfl,hall⟩;rw[eqIsQuiet_byValue _ (hall v List.mem_cons_self)];refine wpAny_bind (wpAny_pure ?_);simp only[Bool.not_true,Bool.false_eq_true,if_false];exact wpAny_pure ⟨rfl,rfl,fun u hu'=>hall u (List.mem_cons_of_mem _ hu')⟩
 ·rintro⟨r1,r2⟩ s' ⟨hr,rfl,_⟩;simp only at hr;subst hr;exact wpAny_pure h
theorem ir{k:Str×List Str}{a:Addr}{Q:Bool->Shared->Prop}(hk:aV prog w s.heap k a)(h:Q true s):wpAny (model prog w) A (eqIsQuiet 8 (.ref a)) Q E s:=by
 have hT:=hk.typeIs;obtain⟨o,n,t,b,ho,_,hd,hi⟩:=hk;unfold eqIsQuiet;refine wpAny_bind (wpAny_specialOf hT PySem.F.slot_tuple_eq.lookup ?_);show wpAny _ _ (isInstance (.ref a) (.type "tuple") >>= _) _ _ s;refine wpAny_bind (wpAny_isInstance hT isSubtype_tuple_tuple ?_);simp only[Bool.not_true,Bool.false_eq_true,if_false];refine wpAny_bind (wpAny_seqItems ho hd ?_);refine wpAny_bind ?_;rw[<-Array.forIn_toList];refine wpAny_forIn_list _ (fun rest r s'=>r.1=none/\s'=s/\(rest=[Value.str k.1 t,Value.ref b]\/rest=[Value.ref b]\/rest=[])) _ ?_ ?_ _ _ ⟨rfl,rfl,.inl rfl⟩
 ·rintro v rest r s' ⟨hr,rfl,(e|e|e)⟩
  ·cases e;rw[eqIsQuiet_byValue _ rfl];refine wpAny_bind (wpAny_pure ?_);simp only[Bool.not_true,Bool.false_eq_true,if_false];exact wpAny_pure ⟨rfl,rfl,.inr (.inl (by first|rfl|trivial))⟩
  ·cases e;refine wpAny_bind (fQ hi ?_);simp only[Bool.not_true,Bool.false_eq_true,if_false];exact wpAny_pure ⟨rfl,rfl,.inr (.inr (by first|rfl|trivial))⟩
  ·cases e
 ·rintro⟨r1,r2⟩ s' ⟨hr,rfl,_⟩;simp only at hr;subst hr;exact wpAny_pure h
end
noncomputable def fR(prog:Program)(w:World):HeapKind prog w (Str×List Str) where
 is:=aV prog w
 hash:=lC prog w
 draws:=fun k=>k.2.length+3
 room:=fun A=>A.units+2<cLine
 inj:=fun hx hy=>hx.inj hy
 keeps:=fun x ho hd hs=>x.keeps ho hd hs
 pyHash:=fun hu hk h=>gC (by omega) hk h
 eqBool:=fun hu hx hy h=>gD hu hx hy h
 quiet:=fun hk h=>ir hk h
end L2
namespace L2
open PySem PySem.Spec PyProof.Rows
noncomputable abbrev ei:=Str×List Str
noncomputable def eu(K:PySem.W.Frag)(H:Hp)(v:V)(k:ei):Prop:=∃a b,v=.ref a/\SqT K H a [.str k.1,.ref b]/\SqT K H b (k.2.map V.str)
noncomputable def gY(P:Program)(w:World)(d:Addr)(xs:List (ei×Addr×Value)):HO:=.ext fun h=>(d==sysModules)=false/\∃o es ep,h.get? d=some o/\o.ExactDict/\o.data=.dict es ep/\es.toList=xs.map (entryOfKey (fR P w))/\(xs.map (·.1)).Nodup
noncomputable def d0(P:Program)(w:World)(K:PySem.W.Frag)(H:Hp)(d:Addr)(ks:List ei):Prop:=∃xs,H d=some (gY P w d xs)/\xs.map (·.1)=ks/\∀x∈xs,eu K H (.ref x.2.1) x.1
theorem je{P:Program}{w:World}:∀{ks:List Str}{its:List Value},Vals (ks.map V.str) its->ItemsAre (PySem.strKind P w) ks its
 |[],_,.nil=>.nil
 |k::ks,_,.cons r t=>by
  obtain⟨tk,rfl⟩:=r;exact .cons (by simp[PySem.strKind,Value.isStrOf]) (je t)
theorem vF{X:Cx}{pins:List (Addr×Obj)}{σ:St}{H:Hp}{s:Shared}{b:Addr}{ks:List Str}(I:Inv X pins σ H s)(e:SqT X.K H b (ks.map V.str)):IsTupleKey (PySem.strKind X.prog X.w) s.heap ks b:=by
 obtain⟨its,r,⟨o,h1,h2,n,h3⟩,_⟩:=I.tuple e;exact⟨o,its.toArray,n,h1,h2,h3,by simpa using je r⟩
theorem iE{X:Cx}{pins:List (Addr×Obj)}{σ:St}{H:Hp}{s:Shared}{a:Addr}{k:ei}(I:Inv X pins σ H s)(e:eu X.K H (.ref a) k):aV X.prog X.w s.heap k a:=by
 obtain⟨a',b,q,e1,e2⟩:=e;cases q;obtain⟨its,r,⟨o,h1,h2,n,h3⟩,_⟩:=I.tuple e1;cases r with
 |cons r1 r2 =>
  cases r2 with
  |cons r2 r3 =>
   cases r3;obtain⟨t,rfl⟩:=r1;cases r2;exact⟨o,n,t,b,h1,h2,h3,vF I e2⟩
section
variable{X:Cx}{pins:List (Addr×Obj)}{σ:St}{H:Hp}{s:Shared}{pos:Pos}
theorem Inv.Bs(I:Inv X pins σ H s):sysModules<s.heap.objs.size:=by
 obtain⟨o,es,ep,ho,_⟩:=I.mod.glob;have h1:@LT.lt Nat _ mainGlobals s.heap.objs.size:=Heap.lt_size (I.bk _ _ ho);obtain⟨mb,⟨o',es',ep',ho',_⟩,_⟩:=I.mod.blt;have h2:@LT.lt Nat _ builtinsNs s.heap.objs.size:=Heap.lt_size (I.bk _ _ ho');revert h1 h2;show @LT.lt Nat _ mainGlobals s.heap.objs.size->@LT.lt Nat _ builtinsNs s.heap.objs.size->@LT.lt Nat _ sysModules s.heap.objs.size;unfold mainGlobals builtinsNs sysModules;omega
theorem jf(I:Inv X pins σ H s){d:Addr}{xs:List (ei×Addr×Value)}(h:H d=some (gY X.prog X.w d xs))(hk:∀x∈xs,eu X.K H (.ref x.2.1) x.1):(d==sysModules)=false/\s.heap.DictOfH (fR X.prog X.w) d xs:=by
 obtain⟨⟨h1,o,es,ep,h2,h3,h4,h5,h6⟩,_⟩:=I.hok d _ h;exact⟨h1,o,es,ep,h2,h3,h4,h5,fun x hx=>iE I (hk x hx),h6⟩
theorem xi{P:Program}{w:World}{H':Hp}{h:Heap}{d:Addr}{xs:List (ei×Addr×Value)}(hd:(d==sysModules)=false)(x:h.DictOfH (fR P w) d xs):bE P w H' h d (gY P w d xs):=by
 obtain⟨o,es,ep,h2,h3,h4,h5,_,h6⟩:=x;exact⟨⟨hd,o,es,ep,h2,h3,h4,h5,h6⟩,⟨o,h2⟩,fun h1 h2 ⟨q0,o,es,ep,q1,q2,q3,q4,q5⟩ k=>⟨q0,o,es,ep,k _ q1,q2,q3,q4,q5⟩⟩
theorem vG:PE X (.Dict [] [] pos) (fun _ H Q=>∀p,H p=none->Q (.ref p) (upd H p (gY X.prog X.w p []))):=fun pins s σ H Q I h =>
 wpAny_Dict_empty ⟨.ref s.heap.objs.size,_,I.laid (a:=s.heap.objs.size) (o:=gY X.prog X.w s.heap.objs.size []) (t':=s.toks) (fun _ _ q=>Heap.get?_push_of_some _ q) (Nat.le_refl _)
  (xi (beq_eq_false_iff_ne.mpr (Ne.symm (Nat.ne_of_lt I.Bs))) (Heap.DictOfH.new s.heap)),rfl,h _ (I.hok.fresh (Nat.le_refl _))⟩
theorem fw{xs:List (ei×Addr×Value)}(k:ei):(atKey xs k).isSome=decide (k∈xs.map (·.1)):=by
 unfold atKey;rw[Option.isSome_map,Bool.eq_iff_iff,List.find?_isSome,decide_eq_true_eq,List.mem_map];constructor
 ·rintro⟨x,hx,e⟩;exact⟨x,hx,of_decide_eq_true e⟩
 ·rintro⟨x,hx,e⟩;exact⟨x,hx,decide_eq_true e⟩
theorem rl(hu:X.A.units+3<cLine):OpR X (compareOp .NotIn) (fun x y H Q=>∃k d ks,eu X.K H x k/\y=.ref d/\d0 X.prog X.w X.K H d ks/\Q (.bl (!decide (k∈ks))) H):=by
 intro pins s σ H x y v u Q I rx ry h;obtain⟨k,d,ks,hx,rfl,⟨xs,hd,hks,hall⟩,q⟩:=h;cases ry;obtain⟨a,b,rfl,e1,e2⟩:=id hx;cases rx;obtain⟨h1,h2⟩:=jf I hd hall;refine wpAny_notIn_heap (knd:=fR X.prog X.w) (k:=k) (by show X.A.units+1+2<cLine;omega) (iE I hx) h1 h2 ?_;rw[fw,hks];exact⟨.bl _,H,I.tok _,rfl,q⟩
theorem vH(hu:X.A.units+3<cLine):iQ X (fun o i v H Q=>∃d k ks,o=.ref d/\eu X.K H i k/\d0 X.prog X.w X.K H d ks/\k∉ks/\ks.length<=1000/\∀H',d0 X.prog X.w X.K H' d (ks++[k])->(∀b,b≠d->H' b=H b)->Q H'):=by
 intro pins s σ H o i v ov iv u Q I ro ri rv h;obtain⟨d,k,ks,rfl,hi,⟨xs,hd,hks,hall⟩,hn,hl,q⟩:=h;cases ro;obtain⟨a,b,rfl,e1,e2⟩:=id hi;cases ri;obtain⟨h1,h2⟩:=jf I hd hall;have hxl:xs.length<=sizeLine:=by
  have:=congrArg List.length hks;rw[List.length_map]at this;rw[this];exact Nat.le_of_lt (rf hl)
 refine wpAny_setItem_heap (hsz:=hxl) (knd:=fR X.prog X.w) (k:=k) (by show X.A.units+1+2<cLine;omega) (iE I hi) h2 fun h' h2' sb=>?_;have hno:atKey xs k=none:=by
  have:=fw (xs:=xs) k;rw[hks,decide_eq_false hn]at this;cases e:atKey xs k with
  |none=>rfl
  |some _=>rw[e]at this;cases this
 rw[storedH_new hno]at h2';obtain⟨o',es',ep',g1,_⟩:=id h2';refine⟨upd H d (gY X.prog X.w d (xs++[(k,a,u)])),I.write (x:=d) (e:=d) (by rw[hd];exact True.intro) (.inl rfl) (fun b q hb z=>(sb.2 b hb).trans z) ⟨o',g1⟩ (xi h1 h2'),q _ ⟨_,ar,by rw[List.map_append,hks];rfl,fun x hx=>?_⟩ fun b hb=>ak hb⟩;have kT:∀{a':Addr} {ys:List V},SqT X.K H a' ys->SqT X.K (upd H d (gY X.prog X.w d (xs++[(k,a,u)]))) a' ys:=fun {a' ys} z=>by
  rcases z with(z|⟨o,z⟩)|z
  ·exact .inl (.inl (by rw[ak (si z hd (fun z=>nomatch z))];exact z))
  ·exact .inl (.inr ⟨o,by rw[ak (si z hd (fun z=>nomatch z))];exact z⟩)
  ·exact .inr z
 have keep:∀{y:V} {k':ei},eu X.K H y k'->eu X.K (upd H d (gY X.prog X.w d (xs++[(k,a,u)]))) y k':=fun {y k'} ⟨a',b',z1,z2,z3⟩=>⟨a',b',z1,kT z2,kT z3⟩
 rcases List.mem_append.mp hx with m|m
 ·exact keep (hall x m)
 ·have:x=(k,a,u):=by simpa using m
  subst this;exact keep hi
end
end L2
namespace L2
open PySem PySem.Spec PyProof.Rows
noncomputable def leS(a b:Str):Bool:=!decide (b.cps.toList<a.cps.toList)
theorem iF(a b:Str):leS a b=true↔a.cps.toList<=b.cps.toList:=by
 simp only[leS,Bool.not_eq_true',decide_eq_false_iff_not];exact List.not_lt
theorem kF(a b c:Str)(h1:leS a b=true)(h2:leS b c=true):leS a c=true:=by
 rw[iF]at h1 h2 ⊢;exact List.le_trans h1 h2
theorem rm(a b:Str):(leS a b||leS b a)=true:=by
 rw[Bool.or_eq_true,iF,iF];exact List.le_total _ _
theorem tq{x y:Str}(h:x.cps.toList=y.cps.toList):x=y:=by
 cases x;cases y;congr
 exact Array.toList_inj.mp h
theorem lE{a b:Str}(h1:leS a b=true)(h2:leS b a=true):a=b:=by
 rw[iF]at h1 h2;exact tq (List.le_antisymm h1 h2)
noncomputable def aH(l:List Str):List Str:=l.mergeSort leS
theorem cm(l:List Str):(aH l).Perm l:=List.mergeSort_perm l leS
theorem jg(l:List Str):(aH l).Pairwise (fun a b=>leS a b=true):=List.pairwise_mergeSort kF rm l
theorem fS:∀(l:List Str) (p:Str),risingS p l=true->(p::l).Pairwise (fun a b=>leS a b=true)
 |[],p,_=>by simp
 |x::r,p,h=>by
  have h':(!ltCps x.cps.toList p.cps.toList&&risingS x r)=true:=h;obtain⟨h1,h2⟩:=Bool.and_eq_true_iff.mp h';have ih:=fS r x h2;have hpx:leS p x=true:=by rw[ltCps_eq]at h1;exact h1
  refine List.pairwise_cons.mpr ⟨fun y hy=>?_,ih⟩;rcases List.mem_cons.mp hy with e|e
  ·rw[e];exact hpx
  ·exact kF _ _ _ hpx ((List.pairwise_cons.mp ih).1 y e)
theorem lF{l:List Str}(h:sortedS l=true):l.Pairwise (fun a b=>leS a b=true):=by
 cases l with
 |nil=>exact .nil
 |cons x r=>exact fS r x h
theorem gE:∀{l m:List Str},l.Perm m->l.Pairwise (fun a b=>leS a b=true)->m.Pairwise (fun a b=>leS a b=true)->l=m
 |[],m,hp,_,_=>(List.Perm.nil_eq hp)
 |x::l,m,hp,h1,h2=>by
  cases m with
  |nil=>exact absurd hp.length_eq (by simp)
  |cons y m =>
   obtain⟨a1,a2⟩:=List.pairwise_cons.mp h1;obtain⟨b1,b2⟩:=List.pairwise_cons.mp h2;have hxy:x=y:=by
    have m1:x∈y::m:=hp.mem_iff.mp List.mem_cons_self;have m2:y∈x::l:=hp.mem_iff.mpr List.mem_cons_self;rcases List.mem_cons.mp m1 with e|e
    ·exact e
    ·rcases List.mem_cons.mp m2 with e'|e'
     ·exact e'.symm
     ·exact lE (a1 y e') (b1 x e)
   subst hxy;rw[gE (List.Perm.cons_inv hp) a2 b2]
theorem tu{l m:List Str}(hp:l.Perm m)(hs:sortedS l=true):l=aH m:=gE (hp.trans (cm m).symm) (lF hs) (jg m)
theorem c6{l m:List Str}(hp:l.Perm m):aH l=aH m:=gE ((cm l).trans (hp.trans (cm m).symm)) (jg l) (jg m)
theorem rn{l m:List Str}:aH l=aH m↔l.Perm m:=⟨fun h=>(cm l).symm.trans (h▸cm m),c6⟩
theorem cG(l:List Str):(aH l).length=l.length:=(cm l).length_eq
section
variable{prog:Program}{w:World}{A:Around}{E:Value->Shared->Prop}{s:Shared}
theorem cS:∀{ys:List Str}{its:List Value},Vals (ys.map V.str) its->StrsAre its ys
 |[],_,.nil=>.nil
 |y::ys,_,.cons r t=>by
  obtain⟨tk,rfl⟩:=r;exact .cons y tk (cS t)
theorem cH:∀{its:List Value}{ys:List Str},StrsAre its ys->Vals (ys.map V.str) its
 |_,_,.nil=>.nil
 |_,_,.cons x t h=>.cons ⟨t,rfl⟩ (cH h)
theorem dE{x:Value}{Q:Value->Shared->Prop}(hc:wpAny (model prog w) A.in1 (collect x) (fun vs s1=>∃ss,StrsAre vs ss/\vs.length<64 /\
      ∀(h':Heap) (vs':List Value) (e:Nat),(∀b o,s1.heap.get? b=some o->h'.get? b=some o)->h'.get? s1.heap.objs.size=some (seqObj "list" vs'.toArray e)->StrsAre vs' (aH ss)->Q (.ref s1.heap.objs.size) {s1 with heap:=h' }) E s) :
    wpAny (model prog w) A (call (.builtin "sorted") [x]) Q E s:=by
  refine Calls.call_function_entry kind_sorted plain_sorted entry_sorted (args_sorted1 _) ?_;unfold Builtin.«sorted»;refine wpAny_bind (m:=checkCount "sorted" 1 1 _) (wpAny_pure ?_);refine wpAny_bind (wpAny_mono hc (fun vs s1 h1=>?_) fun _ _ e=>e);obtain⟨ss,hS,h64,h⟩:=h1
  refine wpAny_bind (wpAny_newList ?_ (by have : (64 : Nat) ≤ sizeLine := by decide
                                          omega))
  have hoL:(s1.heap.push (seqObj "list" vs.toArray 0)).get? s1.heap.objs.size=some (seqObj "list" vs.toArray 0):=Heap.get?_push_size _ rfl;show wpAny _ _ _ _ _ {s1 with heap:=s1.heap.push (seqObj "list" vs.toArray 0)};refine wpAny_bind (wpAny_holding (wpAny_call_entry slot_list_sort ⟨_,hoL,rfl⟩ entry_list_sort (list_sort_treeK strKind_oneLt hoL hS.keysOf (fun v₁ v₂ rest e=>keyKind_strs (by rw[<-e];exact hS)) h64 fun st' a1 a2=>⟨_,rfl,?_⟩) (args_list_sort _)));obtain⟨ss',b1,b2,b3⟩:=sorted_out_str hS a1 a2;obtain⟨e,he⟩:=sortedHeap_at (out:=(arrOf st').map (·.2)) hoL;rw[tu b2 b3]at b1;refine wpAny_pure ⟨_,rfl,h _ ((arrOf st').map (·.2)).toList e (fun b o q=>?_) (by rw[Array.toArray_toList];exact he) b1⟩;have hlt:b<s1.heap.objs.size:=Heap.lt_size q;show(sortedHeap (s1.heap.push (seqObj "list" vs.toArray 0)) s1.heap.objs.size vs ((arrOf st').map (·.2))).get? b=some o;rw[sortedHeap_old (Nat.ne_of_lt hlt) (by rw[size_push'];exact Nat.lt_succ_of_lt hlt)];exact Heap.get?_push_of_some _ q
theorem j5{l:Addr}{vs:List Value}{Q:List Value->Shared->Prop}(hl:IsTup s.heap l vs.toArray)
  (h:Q vs {s with heap:=(s.heap.push (seqObj "list" #[] 0)).update s.heap.objs.size (Obj.mapSeq (·++vs.toArray))}) (hsz:vs.length<=sizeLine) :
  wpAny (model prog w) A (collect (.ref l)) Q E s:=by
 obtain⟨o,ho,hc,n,hd⟩:=id hl;unfold collect;refine wpAny_bind (wpAny_runValue (codeAny_builtin entry_proto_collect' ?_));show wpAny _ _ (do again (.builtin "list.__iadd__" ⟨[<-newList [],.ref l],[]⟩)) _ _ s;refine wpAny_bind (wpAny_newList (wpAny_pure ⟨Code.quiet_builtin _ (by decide +kernel),codeAny_builtin entry_list_iadd' ?_⟩));show wpAny _ _ (Builtin.List.listExtendWith (.ref s.heap.objs.size) (.ref l) (.ref s.heap.objs.size)) _ _ {s with heap:=s.heap.push (seqObj "list" #[] 0)};unfold Builtin.List.listExtendWith;have ho':(s.heap.push (seqObj "list" #[] 0)).get? l=some o:=Heap.get?_push_of_some _ ho;refine wpAny_bind (wpAny_typeOf (T:="tuple") ⟨o,ho',hc⟩ ?_);have ht:(Value.type "tuple"==Value.type "tuple")=true:=by rfl
 rw[if_pos (by rw[ht];simp)];refine wpAny_bind (listItems_at ho' hd ?_);refine wpAny_bind (listItems_at (xs:=#[]) (n:=0) (Heap.get?_push_size _ rfl) rfl ?_);rw[if_neg (by simp)];refine wpAny_bind (listUpdate_at (xs:=#[]) (n:=0) (Heap.get?_push_size _ rfl) rfl ?_ (Nat.zero_le _) (by show(#[]++vs.toArray).size<=sizeLine+1;simp only[Array.size_append,List.size_toArray,List.length_nil];omega));refine wpAny_pure ?_;show wpAny (model prog w) A (do
   let o <-load s.heap.objs.size
   match o.data with
   |.seq xs _=>pure xs.toList
   |_=>unsupported "internal:collect") Q E {s with heap:=(s.heap.push (seqObj "list" #[] 0)).update s.heap.objs.size (Obj.mapSeq (·++vs.toArray))}
 refine wpAny_bind (wpAny_load (get?_update_seq (Heap.get?_push_size _ rfl) _) ?_);show wpAny _ _ (pure ((#[]:Array Value)++vs.toArray).toList) Q E _;rw[show((#[]:Array Value)++vs.toArray).toList=vs by simp];exact wpAny_pure h
end
section
variable{X:Cx}
theorem fi{h:Heap}{vs:List Value}{b:Addr}{o:Obj}(e:h.get? b=some o):((h.push (seqObj "list" #[] 0)).update h.objs.size (Obj.mapSeq (·++vs.toArray))).get? b=some o:=by
 rw[Heap.get?_update_ne _ _ _ _ (Nat.ne_of_lt (Heap.lt_size e))];exact Heap.get?_push_of_some _ e
theorem mY{pins:List (Addr×Obj)}{σ:St}{H:Hp}{s s1:Shared}{Q:VK}{ss:List Str}{h':Heap}{vs':List Value}{e:Nat}(I:Inv X pins σ H s)(k1:∀b o,s.heap.get? b=some o->s1.heap.get? b=some o)(hs1:∃h1 t1,s1={s with heap:=h1,toks:=t1})
  (hk:∀b o,s1.heap.get? b=some o->h'.get? b=some o) (hat:h'.get? s1.heap.objs.size=some (seqObj "list" vs'.toArray e)) (hS:StrsAre vs' (aH ss)) (hsz:s.heap.objs.size<=s1.heap.objs.size) (hl:ss.length<=sizeLine)
  (q:∀p,H p=none->Q (.ref p) (upd H p (.lst ((aH ss).map V.str)))):EP X pins σ Q (.ref s1.heap.objs.size) {s1 with heap:=h' }:=by
 obtain⟨h1,t1,rfl⟩:=hs1;have I1:Inv X pins σ H {s with heap:=h1,toks:=t1}:=I.kept (t':=t1) k1;refine⟨.ref h1.objs.size,_,I1.laid (t':=t1) (o:=.lst ((aH ss).map V.str)) hk (Nat.le_refl _) ⟨by rw[List.length_map,cG];exact hl,vs',e,cH hS,hat⟩,rfl,q _ (I1.hok.fresh (Nat.le_refl _))⟩
theorem gZ:fL X (.builtin "sorted") (fun xs H Q=>∃(p:Addr) (ys:List Str),xs=[.ref p]/\(SqL X.K H p (ys.map V.str)\/SqT X.K H p (ys.map V.str))/\ys.length<64/\∀q,H q=none->Q (.ref q) (upd H q (.lst ((aH ys).map V.str)))):=by
 intro pins s σ H xs us Q I rs h;obtain⟨p,ys,rfl,hq,h64,q⟩:=h;obtain⟨u,rfl,r⟩:=vals1 rs;cases r;have hl:ys.length<=sizeLine:=Nat.le_of_lt (Nat.lt_of_lt_of_le h64 (by decide));have fin:∀(its:List Value),Vals (ys.map V.str) its->∀(h':Heap) (vs':List Value) (e:Nat),(∀b o,((s.heap.push (seqObj "list" #[] 0)).update s.heap.objs.size (Obj.mapSeq (·++its.toArray))).get? b=some o->h'.get? b=some o) ->
   h'.get? ((s.heap.push (seqObj "list" #[] 0)).update s.heap.objs.size (Obj.mapSeq (·++its.toArray))).objs.size=some (seqObj "list" vs'.toArray e)->StrsAre vs' (aH ys) ->
   EP X pins σ Q (.ref ((s.heap.push (seqObj "list" #[] 0)).update s.heap.objs.size (Obj.mapSeq (·++its.toArray))).objs.size) {s with heap:=h' }:=fun its rv h' vs' e hk hat hS =>
  mY (s1:={s with heap:=(s.heap.push (seqObj "list" #[] 0)).update s.heap.objs.size (Obj.mapSeq (·++its.toArray))}) I (fun b o z=>fi z) ⟨_,s.toks,rfl⟩ hk hat hS (by show s.heap.objs.size<=((s.heap.push (seqObj "list" #[] 0)).update s.heap.objs.size (Obj.mapSeq (·++its.toArray))).objs.size;rw[Heap.size_update,size_push'];exact Nat.le_succ _) hl q
 rcases hq with hq|hq
 ·obtain⟨its,rv,pl,hz⟩:=I.list hq;have el:its.length=ys.length:=by rw[<-rv.length,List.length_map]
  exact dE (collect_list pl.isList ⟨ys,cS rv,by omega,fun h' vs' e hk hat hS=>fin its rv h' vs' e hk hat hS⟩ (by omega))
 ·obtain⟨its,rv,pl,hz⟩:=I.tuple hq;have el:its.length=ys.length:=by rw[<-rv.length,List.length_map]
  exact dE (j5 pl ⟨ys,cS rv,by omega,fun h' vs' e hk hat hS=>fin its rv h' vs' e hk hat hS⟩ (by omega))
end
end L2
namespace L2
open PySem PySem.Spec PyProof.Rows
noncomputable abbrev sK(P:Program)(w:World):=PySem.strKind P w
noncomputable def dF(P:Program)(w:World)(h:Heap)(a:Addr)(led:Bool)(D:List Str):Prop :=
 ∃(L:List (Str×Tok)) (es:Array (Int×Value)) (ep:Nat) (t:SetTable),h.get? a=some {cls:=.type "set",dict:=none,data:=.set es ep t}/\es.toList=L.map (fun p=>((sK P w).hash p.1,Value.str p.1 p.2)) /\
  (L.map (·.1)).Perm D/\D.Nodup/\t.fits es.size=true/\es.size<scanBound/\t.led=led/\(es.size=0\/t.plain=false)
section
variable{prog:Program}{w:World}{A:Around}{E:Value->Shared->Prop}{s:Shared}
theorem tw{L:List (Str×Tok)}:ElemsOf (sK prog w) (L.map fun p=>((sK prog w).hash p.1,Value.str p.1 p.2)):=by
 intro e he;obtain⟨p,_,rfl⟩:=List.mem_map.mp he;exact⟨⟨p.1,by simp[PySem.strKind,Value.isStrOf],rfl⟩,rfl⟩
theorem pZ(x y:Str)(t:Tok):(sK prog w).is x (.str y t)=decide (x=y):=by
 rw[Bool.eq_iff_iff];simp[PySem.strKind,Value.isStrOf];exact⟨fun h=>h.symm,fun h=>h.symm⟩
theorem oz(t:SetTable)(es:Array (Int×Value))(h:Int)(x:Value):(layNew t es h x).2.1.led=t.led:=by
 unfold layNew;split
 ·show(SetTable.orStandIn (t.put _).1 _).led=t.led;unfold SetTable.orStandIn;split<;>rfl
 ·rfl
theorem lG(t:SetTable)(es:Array (Int×Value))(n:Nat):(relayAll t es n).2.1.led=t.led:=by
 unfold relayAll;split
 ·rename_i t' order he;have:t'.led=t.led:=by
   unfold SetTable.relaid SetTable.laid at he;cases hc:SetTable.layClean (SetTable.sizeAbove n - 1) (es.map (·.1)) with
   |none=>rw[hc]at he;cases he
   |some o=>rw[hc]at he;cases he;rfl
  dsimp only
  split
  ·exact this
  ·rfl
 ·rfl
theorem jh(t:SetTable)(es:Array (Int×Value))(n:Nat)(h:t.plain=false):(relayAll t es n).2.1.plain=false:=by
 unfold relayAll;split
 ·rename_i t' order he;have:t'.plain=t.plain:=by
   unfold SetTable.relaid SetTable.laid at he;cases hc:SetTable.layClean (SetTable.sizeAbove n - 1) (es.map (·.1)) with
   |none=>rw[hc]at he;cases he
   |some o=>rw[hc]at he;cases he;rfl
  dsimp only
  split
  ·rw[this];exact h
  ·rfl
 ·rfl
theorem fy{L:List (Str×Tok)}{l:List (Int×Value)}(h:l.Perm (L.map fun p=>((sK prog w).hash p.1,Value.str p.1 p.2))):∃L':List (Str×Tok),l=L'.map (fun p=>((sK prog w).hash p.1,Value.str p.1 p.2))/\L'.Perm L:=by
 have all:∀e∈l,∃p:Str×Tok,e=((sK prog w).hash p.1,Value.str p.1 p.2):=fun e he=>by
  obtain⟨p,_,rfl⟩:=List.mem_map.mp (h.mem_iff.mp he);exact⟨p,rfl⟩
 have ex:∀l:List (Int×Value),(∀e∈l,∃p:Str×Tok,e=((sK prog w).hash p.1,Value.str p.1 p.2))->∃L':List (Str×Tok),l=L'.map (fun p=>((sK prog w).hash p.1,Value.str p.1 p.2)):=by
  intro l;induction l with
  |nil=>intro _;exact⟨[],rfl⟩
  |cons e l ih =>
   intro ha;obtain⟨p,rfl⟩:=ha e List.mem_cons_self;obtain⟨L',rfl⟩:=ih fun e he=>ha e (List.mem_cons_of_mem _ he);exact⟨p::L',rfl⟩
 obtain⟨L',rfl⟩:=ex l all;refine⟨L',rfl,?_⟩;have g:(L'.map fun p=>((sK prog w).hash p.1,Value.str p.1 p.2)).map (fun e=>match e.2 with|.str x t=>(x,t)|_=>(Str.empty,0))=L':=by
  rw[List.map_map];exact List.map_id _
 have g2:(L.map fun p=>((sK prog w).hash p.1,Value.str p.1 p.2)).map (fun e=>match e.2 with|.str x t=>(x,t)|_=>(Str.empty,0))=L:=by
  rw[List.map_map];exact List.map_id _
 have:=h.map (fun e=>match e.2 with|.str x t=>(x,t)|_=>(Str.empty,0));rw[g,g2]at this;exact this
theorem oA{a:Addr}{led:Bool}{D:List Str}{x:Str}{tk:Tok}{Q:Bool->Shared->Prop}(hS:dF prog w s.heap a led D)(hroom:D.length+1<scanBound)
    (h:∀h',Heap.SameBut a s.heap h'->dF prog w h' a led (if x∈D then D else D++[x])->Q (decide (x∉D)) {s with heap:=h' }) :
    wpAny (model prog w) A (setAddHashed a (.str x tk) ((sK prog w).hash x)) Q E s:=by
  obtain⟨L,es,ep,t,ho,hes,hperm,hnd,hf,hb,hled,hpl⟩:=hS;have hkey:(sK prog w).is x (.str x tk)=true:=by rw[pZ];simp
  have hel:ElemsOf (sK prog w) es.toList:=by rw[hes];exact tw
  have hlen:es.size=D.length:=by rw[<-Array.length_toList,hes,List.length_map,<-List.length_map (f:=Prod.fst) (as:=L),hperm.length_eq]
  unfold setAddHashed setAddHashedIn;refine wpAny_holding (wpAny_bind (wpAny_setState_of ho rfl hf ?_))
  dsimp only
  rw[byScan_of (knd:=sK prog w) rfl hb hel];simp only[↓reduceIte];unfold setAddByScan;refine wpAny_bind ?_;refine wpAny_bind (wpAny_rule ?_);refine wpAny_bind (wpAny_setScan_of (knd:=sK prog w) hkey ho rfl hf hel ?_);have mem_iff:(∃e∈es.toList,(sK prog w).is x e.2=true)↔x∈D:=by
    rw[hes,<-hperm.mem_iff,List.mem_map];constructor
    · rintro⟨e,he,hi⟩
      obtain⟨p,hp,rfl⟩:=List.mem_map.mp he;rw[pZ,decide_eq_true_eq]at hi;exact⟨p,hp,hi.symm⟩
    · rintro⟨p,hp,e⟩
      exact⟨_,List.mem_map.mpr ⟨p,hp,rfl⟩,by rw[pZ];simp[e]⟩
  cases hr:List.findIdx? (fun e=>(sK prog w).is x e.2) es.toList with
  | some j =>
    dsimp only
    obtain⟨hj,hpj,_⟩:=List.findIdx?_eq_some_iff_getElem.mp hr;have hx:x∈D:=mem_iff.mp ⟨es.toList[j],List.getElem_mem hj,hpj⟩;refine wpAny_pure (wpAny_pure ?_);have e:s={s with heap:=s.heap}:=by cases s;rfl
    have:=h s.heap (Heap.SameBut.refl a s.heap) (by rw[if_pos hx];exact⟨L,es,ep,t,ho,hes,hperm,hnd,hf,hb,hled,hpl⟩);rw[decide_eq_false (fun z=>z hx)]at this;rw[e];exact this
  | none =>
    dsimp only
    have hx:x∉D:=fun hx=>by
      obtain⟨e,he,hp⟩:=mem_iff.mpr hx;have:=List.findIdx?_eq_none_iff.mp hr e he;rw[hp]at this;exact Bool.noConfusion this
    have hgw:∀(b:Bool) {s₁:Shared} {Q':Unit->Shared->Prop},Q' () s₁->wpAny (model prog w) A (match b with|true=>rule "set.scan.the-table-gave-way"|false=>pure ()) Q' E s₁ :=
      fun b s₁ Q' hq=>by cases b<;>first|exact wpAny_pure hq|exact wpAny_rule hq
    have hp1:=layNew_perm t es ((sK prog w).hash x) (.str x tk);have hfits:=layNew_fits t es ((sK prog w).hash x) (.str x tk);have hl1:=oz t es ((sK prog w).hash x) (.str x tk);generalize hL:layNew t es ((sK prog w).hash x) (.str x tk)=NL at hp1 hfits hl1 ⊢;obtain⟨es1,t1,wasDummy,gave⟩:=NL
    dsimp only at hp1 hfits hl1 ⊢
    rw[Array.toList_push,hes,show [((sK prog w).hash x,Value.str x tk)]=[(x,tk)].map (fun p=>((sK prog w).hash p.1,Value.str p.1 p.2)) from rfl,<-List.map_append]at hp1;obtain⟨L1,e1,pL1⟩:=fy hp1;have hsz1:es1.size=D.length+1:=by rw[<-Array.length_toList,hp1.length_eq,List.length_map,List.length_append,<-hlen,<-Array.length_toList,hes,List.length_map];rfl
    have hb1:es1.size<scanBound:=by omega
    have perm1:(L1.map (·.1)).Perm (D++[x]):=(pL1.map _).trans (by rw[List.map_append];exact hperm.append_right _);have nd1:(D++[x]).Nodup:=by
      rw[List.nodup_append]
      exact ⟨hnd, by simp, fun y hy z hz => by have : z = x := by simpa using hz
                                               subst this;rintro rfl;exact hx hy⟩
    refine wpAny_bind (hgw _ ?_);have hend:∀h',Heap.SameBut a s.heap h'->dF prog w h' a led (D++[x])->Q true {s with heap:=h' }:=fun h' sb hs=>by
      have:=h h' sb (by rw[if_neg hx];exact hs);rw[decide_eq_true hx]at this;exact this
    have tail:∀(g:Bool->Sem Unit),(∀(b:Bool) (s₁:Shared) (Q':Unit->Shared->Prop),Q' () s₁->wpAny (model prog w) A (g b) Q' E s₁)->∀(R:Option Bool->Shared->Prop),(∀h',Heap.SameBut a s.heap h'->dF prog w h' a led (D++[x])->R (some true) {s with heap:=h' })->∀t2:SetTable,t2.fits es1.size=true->t2.led=led->t2.plain=false->wpAny (model prog w) A (do
        storeSet a es1 t2
        if (!wasDummy&&t2.tooFull)=true then do
            g (relayAll t2 es1 (SetTable.grown es1.size)).2.2
            storeSet a (relayAll t2 es1 (SetTable.grown es1.size)).1 (relayAll t2 es1 (SetTable.grown es1.size)).2.1
            pure (some true)
          else pure (some true)) R E s:=by
      intro g hg R hR t2 hf2 hl2 hpl2;refine wpAny_bind (wpAny_storeSet_of ho rfl ?_ (fits_of_scanBound hb1));have hg1:(s.heap.update a (Obj.putSet es1 t2)).get? a=some {cls:=.type "set",dict:=none,data:=.set es1 (ep+1) t2}:=by
        have:=Heap.get?_update_self (Obj.putSet es1 t2) ho rfl;exact this
      have hsb1:=Heap.SameBut.update s.heap a (Obj.putSet es1 t2);split
      · have hp:=relayAll_perm t2 es1 (SetTable.grown es1.size)
        have hfr:=relayAll_fits t2 es1 (SetTable.grown es1.size);have hlr:=lG t2 es1 (SetTable.grown es1.size);have hpr:=jh t2 es1 (SetTable.grown es1.size) hpl2;generalize hRl:relayAll t2 es1 (SetTable.grown es1.size)=Rl at hp hfr hlr hpr ⊢;obtain⟨es2,t3,gave2⟩:=Rl
        dsimp only at hp hfr hlr hpr ⊢
        rw[e1]at hp;obtain⟨L2,e2,pL2⟩:=fy hp;have hsz:es2.size=es1.size:=by rw[<-Array.length_toList,hp.length_eq,<-e1,Array.length_toList]
        refine wpAny_bind (hg _ _ _ ?_);refine wpAny_bind (wpAny_storeSet_of hg1 rfl ?_ (fits_of_scanBound (by omega)));have hg2:((s.heap.update a (Obj.putSet es1 t2)).update a (Obj.putSet es2 t3)).get? a=some {cls:=.type "set",dict:=none,data:=.set es2 (ep+1+1) t3}:=Heap.get?_update_self (Obj.putSet es2 t3) hg1 rfl;refine wpAny_pure (hR _ (hsb1.trans (Heap.SameBut.update _ a _)) ⟨L2,es2,_,t3,hg2,e2,(pL2.map _).trans perm1,nd1,hfr,by omega,hlr.trans hl2,.inr hpr⟩)
      · exact wpAny_pure (hR _ hsb1 ⟨L1,es1,_,t2,hg1,e1,perm1,nd1,hf2,hb1,hl2,.inr hpl2⟩)
    split
    · rename_i hp
      refine wpAny_bind ?_;rw[hashByValue_scannable 8 rfl];refine wpAny_pure ?_;have ep:(if plainKind (Value.str x tk)=true then t1 else {t1 with plain:=false})={t1 with plain:=false}:=rfl;rw[ep];refine tail _ ?_ _ ?_ {t1 with plain:=false} (SetTable.fits_plain_off hfits) (hl1.trans hled) rfl
      · intro b s₁ Q' hq;cases b<;>first|exact wpAny_pure hq|exact wpAny_rule hq
      · intro h' hsb hS';dsimp only;exact wpAny_pure (hend h' hsb hS')
    · rename_i hp
      refine wpAny_bind (wpAny_pure ?_);simp only[↓reduceIte];refine tail _ ?_ _ ?_ t1 hfits (hl1.trans hled) (Bool.eq_false_iff.mpr hp)
      · intro b s₁ Q' hq;cases b<;>first|exact wpAny_pure hq|exact wpAny_rule hq
      · intro h' hsb hS';dsimp only;exact wpAny_pure (hend h' hsb hS')
end
end L2
namespace L2
open PySem PySem.Spec PyProof.Rows
noncomputable def iu(D:List Str)(x:Str):List Str:=if x∈D then D else D++[x]
noncomputable def bp(l:List Str):List Str:=l.foldl iu []
theorem oB{D:List Str}{x:Str}(h:D.Nodup):(iu D x).Nodup:=by
  unfold iu;split
  · exact h
  · rename_i hx
    rw[List.nodup_append]
    exact ⟨h, by simp, fun y hy z hz => by have : z = x := by simpa using hz
                                           subst this;rintro rfl;exact hx hy⟩
theorem ji:∀(l D:List Str),D.Nodup->(l.foldl iu D).Nodup/\(∀x,x∈l.foldl iu D↔x∈D\/x∈l)/\(l.foldl iu D).length<=D.length+l.length
 |[],D,h=>⟨h,by simp,by simp⟩
 |y::l,D,h=>by
  obtain⟨h1,h2,h3⟩:=ji l (iu D y) (oB h);have hm:∀x,x∈iu D y↔x∈D\/x=y:=fun x=>by
   unfold iu;split
   ·rename_i hy;exact⟨.inl,fun z=>z.elim id (fun e=>e▸hy)⟩
   ·simp
  have hl:(iu D y).length<=D.length+1:=by
   unfold iu;split
   ·omega
   ·simp
  refine⟨h1,fun x=>?_,by rw[List.foldl_cons,List.length_cons];omega⟩;rw[List.foldl_cons,h2,hm,List.mem_cons,or_assoc]
theorem oC(l:List Str):(bp l).length<=l.length:=by have:=(ji l [] List.nodup_nil).2.2;simpa[bp] using this
theorem mZ(l:List Str)(x:Str):bp (l++[x])=iu (bp l) x:=by unfold bp;rw[List.foldl_append];rfl
section
variable{prog:Program}{w:World}{A:Around}{R:Result->Shared->Prop}{I:Addr}{fp wr:List Addr}{G:Array GenState->Array GenState->Prop}{n:Nat}{P:Nat->Value->Prop}{St:Nat->Shared->Prop}
theorem gF(W:WalksS prog w A.in1 I fp wr G n P St)(S:Addr)(hSf:S∉fp)(led:Bool)
  (ys:List Str) (hn:ys.length=n) (hval:∀i v,P i v->∃x t,ys[i]?=some x/\v=.str x t) (hb:n+1<scanBound) :
  ∀(k i:Nat) (s:Shared),n - i=k->i<=n->St i s->dF prog w s.heap S led (bp (ys.take i)) ->
   (∀s',Moved (S::wr) G s s'->dF prog w s'.heap S led (bp ys)->R (.ok (.ret .none)) s') ->
   codeAny (model prog w) A (.builtin "set.update.loop" ⟨[.ref S,.ref I],[]⟩) R s:=by
 have hSw:S∉wr:=fun h=>hSf (W.sub _ h);have hsub:∀b∈wr,b∈S::wr:=fun b hb=>List.mem_cons_of_mem _ hb;intro k;induction k with
 |zero =>
  intro i s hk hi hst hS hR;have hin:i=n:=by omega
  subst hin;refine codeAny_builtin PyProof.Rows.F.entry_set_update_loop ?_;rw[Around.under_plainId PyProof.Rows.F.plain_set_update_loop _];show wpAny _ A.in1 (pyNext (.ref I) >>= _) _ _ s;refine wpAny_bind (W.done s _ _ hst fun s' hm=>?_);show wpAny _ A.in1 (ret Value.none) _ _ s';rw[List.take_of_length_le (by omega)]at hS;exact wpAny_pure (hR s' (hm.mono hsub) (by
   obtain⟨L,es,ep,t,ho,rest⟩:=hS;exact⟨L,es,ep,t,hm.heap S _ hSw ho,rest⟩))
 |succ k ih =>
  intro i s hk hi hst hS hR;have hlt:i<n:=by omega
  refine codeAny_builtin PyProof.Rows.F.entry_set_update_loop ?_;rw[Around.under_plainId PyProof.Rows.F.plain_set_update_loop _];show wpAny _ A.in1 (pyNext (.ref I) >>= _) _ _ s;refine wpAny_bind (W.item i s _ _ hlt hst fun v s' hP hst' hm=>?_);obtain⟨x,t,hx,rfl⟩:=hval i v hP;have hS':dF prog w s'.heap S led (bp (ys.take i)):=by
   obtain⟨L,es,ep,tb,ho,rest⟩:=hS;exact⟨L,es,ep,tb,hm.heap S _ hSw ho,rest⟩
  show wpAny _ A.in1 (holding [Value.str x t] (setAdd S (.str x t)) >>= _) _ _ s';refine wpAny_bind (wpAny_holding ?_);unfold setAdd;refine wpAny_holding ?_;refine wpAny_bind ((sK prog w).pyHash (k:=x) (by rw[pZ];simp) ?_);have hroom:(bp (ys.take i)).length+1<scanBound:=by have:=oC (ys.take i);rw[List.length_take]at this;omega
  refine oA (s:={s' with toks:=s'.toks+1}) hS' hroom fun h' hsb hS2=>?_;have hSi:dF prog w h' S led (bp (ys.take (i+1))):=by
   rw[List.take_add_one,hx];show dF prog w h' S led (bp (ys.take i++[x]));rw[mZ];exact hS2
  refine wpAny_pure ⟨plainId_quiet PyProof.Rows.F.plain_set_update_loop _,ih (i+1) _ (by omega) hlt (W.frame _ s' _ _ hst' (Nat.le_succ _) fun b hb o e=>?_) hSi fun s'' hm'' hS''=>?_⟩
  ·rw[hsb.2 b (fun h:b=S=>hSf (by rw[<-h];exact hb))];exact e
  ·refine hR s'' (Moved.trans W.gtrans ((hm.mono hsub).then_heap (Nat.le_succ _) fun b o hb e=>?_) hm'') hS'';rw[hsb.2 b (fun h:b=S=>hb (by rw[h];exact List.mem_cons_self))];exact e
end
section
variable{prog:Program}{w:World}{A:Around}{E:Value->Shared->Prop}{s:Shared}
theorem j6(a:Value){Q₁:Value->Shared->Prop}
  (h:Q₁ (.ref s.heap.objs.size) {s with heap:=s.heap.push {cls:=.type "set",dict:=none,data:=.set #[] 0 (.fresh 0 0 (!w.params.followText "set-order"))}}) :
  codeAny (model prog w) A (.call (.builtin "set.__new__") ⟨[.type "set",a],[]⟩) (wants Q₁ E) s:=by
 refine codeAny_of_tree ?_;show wpAny _ A.in1 (do checkBuiltinCall "set.__new__" ⟨[.type "set",a],[]⟩;again (.builtin "set.__new__" ⟨[.type "set",a],[]⟩)) _ _ s;refine wpAny_bind (wpAny_of_eq (PySem.F.newCall_set_1 a) (wpAny_pure ⟨plainId_quiet PySem.F.plain_set_new _,codeAny_builtin PySem.F.entry_set_new ?_⟩));rw[Around.under_plainId PySem.F.plain_set_new _];unfold Builtin.«set.__new__» Builtin.Frozenset.newClass;have hsub:=sub_set_self;obtain⟨hp,g,d,tk,os⟩:=s
 dsimp only
 wp_walk
 refine wpAny_askSetting (wpAny_pure ?_)
 dsimp only
 simp only[newObj];refine wpAny_bind (wpAny_alloc (wpAny_pure ?_));exact wpAny_pure h
theorem oD{h:Heap}{a:Addr}{led:Bool}(hg:h.get? a=some {cls:=.type "set",dict:=none,data:=.set #[] 0 (.fresh 0 0 led)}):dF prog w h a led [] :=
 ⟨[],#[],0,_,hg,rfl,.nil,List.nodup_nil,rfl,by unfold scanBound;decide,rfl,.inl rfl⟩
end
end L2
namespace L2
open PySem PySem.Spec PyProof.Rows
theorem sub_tuple_set:isSubtype (.type "tuple") (.type "set")=pure false:=by rw[isSubtype_type];kernel_rfl
theorem sub_tuple_frozenset:isSubtype (.type "tuple") (.type "frozenset")=pure false:=by rw[isSubtype_type];kernel_rfl
section
variable{prog:Program}{w:World}{A:Around}{E:Value->Shared->Prop}{s:Shared}
noncomputable abbrev cv(w:World):Bool:=!w.params.followText "set-order"
noncomputable abbrev oE(led:Bool):Obj:={cls:=.type "set",dict:=none,data:=.set #[] 0 (.fresh 0 0 led)}
theorem fT{l:Addr}{T:String}{ys:List Str}{Q:Value->Shared->Prop}
  (hT0:s.TypeIs (.ref l) T) (hsls:isSubtype (.type T) (.type "set")=pure false) (hslf:isSubtype (.type T) (.type "frozenset")=pure false) (hne:(Value.type T==Value.type "dict")=false)
  (hb:ys.length+1<scanBound)
  (hit:∀(s1:Shared) (B:Around) (Q':Value->Shared->Prop),B.handled=A.handled->(∀b o,s.heap.get? b=some o->s1.heap.get? b=some o)->s.heap.objs.size<s1.heap.objs.size ->
   (∀I fp wr G P St h1,WalksS prog w B.in1 I fp wr G ys.length P St->(∀g g',G g g'->g'=g)->s.heap.objs.size∉fp->(∀b∈wr,s.heap.objs.size<b)->(∀i v,P i v->∃x t,ys[i]?=some x/\v=.str x t)->St 0 {s1 with heap:=h1}->(∀b o,s1.heap.get? b=some o->h1.get? b=some o)->Q' (.ref I) {s1 with heap:=h1})->wpAny (model prog w) B (pyIter (.ref l)) Q' E s1)
  (h:∀(h':Heap) (tk:Nat),dF prog w h' s.heap.objs.size (cv w) (bp ys)->(∀b o,b<s.heap.objs.size->s.heap.get? b=some o->h'.get? b=some o)->Q (.ref s.heap.objs.size) {s with heap:=h',toks:=tk}) :
  wpAny (model prog w) A (call (.type "set") [.ref l]) Q E s:=by
 obtain⟨c,tl,hmro⟩:=PySem.F.called_set.mro;have hmade:=PySem.F.called_set.made;have hsub:=PySem.F.called_set.sub;refine wpAny_call (codeAny_of_tree ?_);show wpAny _ _ (callAny (.type "set") _) _ _ _;refine wpAny_pure ⟨Code.quiet_builtin _ (by decide +kernel),codeAny_builtin PySem.F.entry_type_call ?_⟩;rw[Around.under_plain (weight_type_call_type "set" [.ref l] []) rfl];have h1:=PySem.F.called_set.notType;have h2:=PySem.F.called_set.canCreate;have hct:=PySem.F.typeCall_set_1 (.ref l)
 repeat (any_goals (first|assumption|wp_step))
 refine codeAny_mono (j6 (.ref l) (E:=E) (Q₁:=fun obj s₁=>obj=.ref s.heap.objs.size/\s₁={s with heap:=s.heap.push (oE (cv w))}) ⟨rfl,rfl⟩) fun r s₁ hr=>?_;cases r with
 |error e=>exact hr
 |ok fl =>
  cases fl with
  |ret obj =>
   obtain⟨rfl,rfl⟩:=hr;have hS:(s.heap.push (oE (cv w))).get? s.heap.objs.size=some (oE (cv w)):=Heap.get?_push_size _ rfl;have hT:Shared.TypeIs {s with heap:=s.heap.push (oE (cv w))} (.ref s.heap.objs.size) "set":=⟨_,hS,rfl⟩
   have hli:=PySem.F.called_set.init.lookup;have hbi:=PySem.F.called_set.init.bind (.ref s.heap.objs.size)
   repeat (any_goals (first|assumption|wp_step))
   refine codeAny_mono (codeAny_call_builtin (R:=wants (fun r s₂=>r=.none/\∃h' tk,s₂={s with heap:=h',toks:=tk} /\
     dF prog w h' s.heap.objs.size (cv w) (bp ys) /\
     (∀b o,b<s.heap.objs.size->s.heap.get? b=some o->h'.get? b=some o)) E) PySem.F.called_set.init.plain PySem.F.entry_set_init (check_set_init_1 hT ?_)) fun r₂ s₂ hr₂=>?_
   ·obtain⟨ol,hol,hcl⟩:=hT0;obtain⟨ocls,odict,odata,oslots⟩:=ol;simp only at hcl;subst hcl;have hol':(s.heap.push (oE (cv w))).get? l=some {cls:=.type T,dict:=odict,data:=odata,slots:=oslots}:=Heap.get?_push_of_some _ hol;have hT1:Shared.TypeIs {s with heap:=s.heap.push (oE (cv w))} (.ref l) T:=⟨_,hol',rfl⟩
    unfold Builtin.«set.__init__» noKeywords Builtin.Frozenset.updateFrom;generalize hPI:pyIter=PI
    wp_walk
    subst hPI;refine hit {s with heap:=s.heap.push (oE (cv w))} _ _ rfl (fun b o e=>Heap.get?_push_of_some _ e) (by rw[size_push'];exact Nat.lt_succ_self _) fun I fp wr G P St h1 W hG hf hwr hval hst hk=>?_;refine wpAny_bind (wpAny_runValue ?_);refine gF W s.heap.objs.size hf (cv w) ys rfl hval hb (ys.length - 0) 0 _ (by omega) (Nat.zero_le _) hst (oD (hk _ _ hS)) ?_;intro s' hm hS';obtain⟨h',g',d',tk',os'⟩:=s';have eg:g'=s.gens:=hG _ _ hm.gens;have ed:d'=s.drawn:=hm.drawn;have eo:os'=s.os:=hm.os;subst eg;subst ed;subst eo;show wpAny _ _ _ _ _ _;refine wpAny_pure ?_;show wpAny _ _ (ret Value.none) _ _ _;refine wpAny_pure ⟨rfl,h',tk',rfl,hS',fun b o hb' e=>?_⟩;exact hm.heap b o (fun z=>by
     rcases List.mem_cons.mp z with z|z
     ·rw[z]at hb';exact Nat.lt_irrefl _ hb'
     ·exact absurd (hwr b z) (Nat.not_lt_of_lt hb')) (hk _ _ (Heap.get?_push_of_some _ e))
   ·cases r₂ with
    |error e=>exact hr₂
    |ok fl₂ =>
     cases fl₂ with
     |ret r =>
      obtain⟨rfl,h',tk,rfl,hS',hk'⟩:=hr₂
      repeat (any_goals (first|assumption|wp_step))
      exact h _ _ hS' hk'
     |_=>exact hr₂.elim
  |_=>exact hr.elim
end
end L2
namespace L2
open PySem PySem.Spec PyProof.Rows
section
variable{prog:Program}{w:World}{A:Around}{E:Value->Shared->Prop}{s:Shared}
theorem lH:∀{vs:List Value}{ss:List Str},StrsAre vs ss->∀(i:Nat) (v:Value),vs[i]?=some v->∃x t,ss[i]?=some x/\v=.str x t
 |_,_,.nil,i,v,h=>by simp at h
 |_,_,.cons x t h,0,v,e=>by simp at e;exact⟨x,t,rfl,e.symm⟩
 |_,_,.cons x t h,i+1,v,e=>by rw[List.getElem?_cons_succ]at e;rw[List.getElem?_cons_succ];exact lH h i v e
theorem fU:∀{vs:List Value}{ss:List Str},StrsAre vs ss->vs.length=ss.length
 |_,_,.nil=>rfl
 |_,_,.cons x t h=>by simp[fU h]
theorem p8{n l S:Addr}(h1:n≠S)(h2:n≠l):n∉[S,l]:=by simp[h1,h2]
theorem jj{l:Addr}{vs:List Value}{ys:List Str}{Q:Value->Shared->Prop}(hh:A.handled=none)(hl:s.heap.IsList l vs.toArray)(hS:StrsAre vs ys)(hb:ys.length+1<scanBound)
  (h:∀(h':Heap) (tk:Nat),dF prog w h' s.heap.objs.size (cv w) (bp ys)->(∀b o,b<s.heap.objs.size->s.heap.get? b=some o->h'.get? b=some o)->Q (.ref s.heap.objs.size) {s with heap:=h',toks:=tk}) :
  wpAny (model prog w) A (call (.type "set") [.ref l]) Q E s:=by
 have hlS:l<s.heap.objs.size:=let ⟨o,ho,_⟩:=hl;Heap.lt_size ho;refine fT hl.typeIs PySem.F.sub_list_set PySem.F.sub_list_frozenset (by decide) hb (fun s1 B Q' hB hk hlt hq=>?_) h;have hl1:s1.heap.IsList l vs.toArray:=let ⟨o,ho,r⟩:=hl;⟨o,hk _ _ ho,r⟩;refine wpAny_pyIter_list hl1 ?_;have hneI:l≠s1.heap.objs.size:=Nat.ne_of_lt (Nat.lt_trans hlS hlt);have W:=(Walks.list (prog:=prog) (w:=w) (A:=B.in1) (by simp[hB,hh]) s1.heap.objs.size l hneI vs.toArray).toS;have el:vs.toArray.size=ys.length:=by simp[fU hS]
 rw[el]at W;refine hq _ _ _ _ _ _ _ W (fun _ _ e=>e) (p8 (Nat.ne_of_lt hlt) (Nat.ne_of_gt hlS)) (fun b hb=>by rw[List.mem_singleton.mp hb];exact hlt) (fun i v hv=>lH hS i v (by simpa using hv)) ⟨⟨_,Heap.get?_push_size _ rfl,rfl,rfl⟩,hl1.push _⟩ fun b o e=>Heap.get?_push_of_some _ e
theorem j7{l:Addr}{vs:List Value}{ys:List Str}{Q:Value->Shared->Prop}(hh:A.handled=none)(hl:s.heap.IsTuple l vs.toArray)(hS:StrsAre vs ys)(hb:ys.length+1<scanBound)
  (h:∀(h':Heap) (tk:Nat),dF prog w h' s.heap.objs.size (cv w) (bp ys)->(∀b o,b<s.heap.objs.size->s.heap.get? b=some o->h'.get? b=some o)->Q (.ref s.heap.objs.size) {s with heap:=h',toks:=tk}) :
  wpAny (model prog w) A (call (.type "set") [.ref l]) Q E s:=by
 have hlS:l<s.heap.objs.size:=let ⟨o,ho,_⟩:=hl;Heap.lt_size ho;refine fT hl.typeIs sub_tuple_set sub_tuple_frozenset (by decide) hb (fun s1 B Q' hB hk hlt hq=>?_) h;have hl1:s1.heap.IsTuple l vs.toArray:=let ⟨o,ho,r⟩:=hl;⟨o,hk _ _ ho,r⟩;refine wpAny_pyIter_tuple hl1 ?_;have hneI:l≠s1.heap.objs.size:=Nat.ne_of_lt (Nat.lt_trans hlS hlt);have W:=(Walks.tuple (prog:=prog) (w:=w) (A:=B.in1) (by simp[hB,hh]) s1.heap.objs.size l hneI vs.toArray).toS;have el:vs.toArray.size=ys.length:=by simp[fU hS]
 rw[el]at W;refine hq _ _ _ _ _ _ _ W (fun _ _ e=>e) (p8 (Nat.ne_of_lt hlt) (Nat.ne_of_gt hlS)) (fun b hb=>by rw[List.mem_singleton.mp hb];exact hlt) (fun i v hv=>lH hS i v (by simpa using hv)) ⟨⟨_,Heap.get?_push_size _ rfl,rfl,rfl⟩,let ⟨o,ho,r⟩:=hl1;⟨o,Heap.get?_push_of_some _ ho,r⟩⟩ fun b o e=>Heap.get?_push_of_some _ e
theorem lI{M:Model}{src:Source}{n:Nat}{Q:Nat->Shared->Prop}(hn:n≠0)(h:∀i<n,Q i {s with drawn:=s.drawn.bump src}):wpAny M A (choose src n) Q E s:=fun Γ p hΓ=>by
 show Sem.wp M Γ (.choose src n .pure) _ _ p s;rw[Sem.wp_choose];exact⟨hn,h _ (Nat.mod_lt _ (Nat.pos_of_ne_zero hn))⟩
theorem fz{α:Type}:∀{xs:List α}{i:Nat}{x:α},xs[i]?=some x->(x::xs.eraseIdx i).Perm xs
 |[],i,x,h=>by simp at h
 |y::ys,0,x,h=>by simp at h;subst h;exact .refl _
 |y::ys,i+1,x,h=>by
  rw[List.getElem?_cons_succ]at h;rw[List.eraseIdx_cons_succ];exact(List.Perm.swap y x _).trans ((fz h).cons y)
theorem fj{M:Model}{α:Type}:∀(n:Nat) (xs:List α) (s:Shared) (Q:List α->Shared->Prop),xs.length=n->(∀ys d,ys.Perm xs->Q ys {s with drawn:=d})->wpAny M A (drawOrder n xs) Q E s
 |0,xs,s,Q,hn,h=>by
  have:xs=[]:=List.length_eq_zero_iff.mp hn;subst this;exact wpAny_pure (h [] s.drawn (.refl _))
 |n+1,[],s,Q,hn,h=>by simp at hn
 |n+1,y::ys,s,Q,hn,h=>by
  show wpAny M A (choose .order (y::ys).length >>= _) Q E s;refine wpAny_bind (lI (by simp) fun i hi=>?_);have e:(y::ys)[i]?=some ((y::ys)[i]'hi):=List.getElem?_eq_getElem hi;have hp:=fz e;generalize (y::ys)[i]'hi=x at e hp;simp only[e];refine wpAny_bind (fj n _ _ _ (by have:=hp.length_eq;simp at this hn ⊢;omega) fun zs d hz=>?_);exact wpAny_pure (h (x::zs) d ((hz.cons x).trans hp))
theorem g_{α:Type}(next:Nat->Nat):∀(fuel k:Nat) (left:List α) (out:Array α),left.length=fuel->(pickOrder.go next fuel k left out).toList.Perm (out.toList++left)
 |0,k,left,out,hl=>by
  have:left=[]:=List.length_eq_zero_iff.mp hl;subst this;simp[pickOrder.go]
 |fuel+1,k,left,out,hl=>by
  unfold pickOrder.go;have hlt:next k % left.length<left.length:=Nat.mod_lt _ (by omega);have e:left[next k % left.length]?=some (left[next k % left.length]'hlt):=List.getElem?_eq_getElem hlt;have hp:=fz e;generalize left[next k % left.length]'hlt=x at e hp;simp only[e];refine(g_ next fuel _ _ _ (by have:=hp.length_eq;simp at this;omega)).trans ?_;rw[Array.toList_push,List.append_assoc];exact(hp.append_left _)
theorem eB{α:Type}(next:Nat->Nat)(xs:Array α):(pickOrder next xs).toList.Perm xs.toList:=by
 have:=g_ next xs.size 0 xs.toList #[] (by simp);simpa[pickOrder] using this
end
end L2
namespace L2
open PySem PySem.Spec PyProof.Rows
namespace SI
theorem m4:Manifest.owners.lookup (String.ofList ['r','o','t','a','r','e','t','i','_','t','e','s'].reverse)=some Manifest.sig_set_iterator:=by kernel_rfl
theorem slot_next:Slot "set_iterator" "__next__" "set_iterator.__next__" :=
 .of (owner:="set_iterator") (n:="__next__") (by rw[typeLookup_type,builtinLookup_eq_fast];kernel_rfl) (by decide +kernel) (by decide +kernel) (by decide +kernel)
  (by first|exact .inl (by decide +kernel)|exact .inr (by decide +kernel)) (by rw[isSubtype_type];kernel_rfl)
theorem entry_next:entryFor table "set_iterator.__next__"=some Builtin.«set_iterator.__next__»:=entryFor_of_tree (by kernel_rfl)
theorem args_next(a:Value):argsOk "set_iterator.__next__" ⟨[a],[]⟩:=by
 unfold argsOk;rw[signature?_of (id:="set_iterator.__next__") (n:=['_','_','t','x','e','n','_','_']) (o:=['r','o','t','a','r','e','t','i','_','t','e','s']) (by kernel_rfl) m4];kernel_rfl
theorem kG:Slot "set_iterator" "__iter__" "set_iterator.__iter__" :=
 .of (owner:="set_iterator") (n:="__iter__") (by rw[typeLookup_type,builtinLookup_eq_fast];kernel_rfl) (by decide +kernel) (by decide +kernel) (by decide +kernel)
  (by first|exact .inl (by decide +kernel)|exact .inr (by decide +kernel)) (by rw[isSubtype_type];kernel_rfl)
theorem rp(a:Value):argsOk "set_iterator.__iter__" ⟨[a],[]⟩:=by
 unfold argsOk;rw[signature?_of (id:="set_iterator.__iter__") (n:=['_','_','r','e','t','i','_','_']) (o:=['r','o','t','a','r','e','t','i','_','t','e','s']) (by kernel_rfl) m4];kernel_rfl
theorem oF:entryFor table "set_iterator.__iter__"=some Builtin.«dict_keyiterator.__iter__» :=
 entryFor_alias (id':="dict_keyiterator.__iter__") (by kernel_rfl) (by first|rfl|decide +kernel|(unfold String.splitOn;simp +decide [String.splitOnAux])) (by decide +kernel) (by kernel_rfl)
theorem jk:entryFor table "set.__iter__"=some Builtin.«frozenset.__iter__» :=
 entryFor_alias (id':="frozenset.__iter__") (by kernel_rfl) rfl (by decide +kernel) (by kernel_rfl)
end SI
section
variable{prog:Program}{w:World}{A:Around}{E:Value->Shared->Prop}{s:Shared}
noncomputable def fA(h:Heap)(I:Addr)(first:Value)(i:Nat)(S:Addr)(n ep:Nat):Prop:=∃o,h.get? I=some o/\o.cls=.type "set_iterator"/\o.data=.fields #[first,rawInt i,.ref S,rawInt n,rawInt ep]
theorem fA.typeIs{I S:Addr}{f:Value}{i n ep:Nat}(x:fA s.heap I f i S n ep):s.TypeIs (.ref I) "set_iterator":=let ⟨o,ho,hc,_⟩:=x;⟨o,ho,hc⟩
theorem vI{I S:Addr}{f:Value}{i n ep:Nat}{Q:Value->Shared->Prop}(hit:fA s.heap I f i S n ep)(h:Q (.ref I) s):wpAny (model prog w) A (pyIter (.ref I)) Q E s:=by
 refine wpAny_pyIter_slot hit.typeIs SI.kG (wpAny_call_entry SI.kG hit.typeIs SI.oF ?_ (SI.rp _));show wpAny _ _ (ret (.ref I)) _ _ s;exact wpAny_pure ⟨_,rfl,"set_iterator",_,hit.typeIs,SI.slot_next.lookup,h⟩
theorem dG{M:Model}{Q:Bool->Shared->Prop}(h:Q (M.w.params.followText "set-order") s):wpAny M A setsByText Q E s:=by
 unfold setsByText;exact wpAny_bind (wpAny_askSetting (wpAny_pure h))
end
end L2
namespace L2
open PySem PySem.Spec PyProof.Rows
section
variable{prog:Program}{w:World}{A:Around}{E:Value->Shared->Prop}{s:Shared}
noncomputable abbrev lJ(es:Array (Int×Value))(ep:Nat)(t:SetTable):Obj:={cls:=.type "set",dict:=none,data:=.set es ep t}
theorem m6{I:Addr}{B:Around}{Q:Option Value->Shared->Prop}{h1:Heap}{k:Value->Sem (Option Value)}(hh:B.handled=none)
  (hQ:∀h',(∀b o,h1.get? b=some o->h'.get? b=some o)->∀e,Shared.TypeIs {s with heap:=h' } e "StopIteration"->E e {s with heap:=h' }) {Q':Fin->Shared->Prop} :
  wpAny (model prog w) B (newExc (.type "StopIteration") [] >>= fun e=>(raiseNew e:Sem Fin)) Q' E {s with heap:=h1}:=by
 refine wpAny_bind ?_;simp only[newExc,newTuple];refine wpAny_bind (wpAny_newObj_type ?_ (by size_fits));refine wpAny_bind (m:=firstArgMember _ _) (wpAny_of_eq (a:=Value.none) (by first|rfl|(simp only[firstArgMember];rfl)) ?_);refine wpAny_newObj_type ?_ (by size_fits);simp only[raiseNew];refine wpAny_bind (wpAny_handled ?_);rw[hh];refine wpAny_bind (wpAny_pure (wpAny_throw ?_));exact hQ _ (fun b o e=>Heap.get?_push_of_some _ (Heap.get?_push_of_some _ e)) _ ⟨_,Heap.get?_push_size _ rfl,rfl⟩
theorem p_{I S:Addr}{first:Value}{i ep:Nat}{es:Array (Int×Value)}{t:SetTable}{Q:Option Value->Shared->Prop}(hit:fA s.heap I first i S es.size ep)(ho:s.heap.get? S=some (lJ es ep t))(hf:t.fits es.size=true)
  (hrest:∀(Q':Fin->Shared->Prop) (E':Value->Shared->Prop) ,(∀v s',Q (some v) s'->Q' (.done (.ret v)) s')->(∀e s',s'.TypeIs e "StopIteration"->Q none s'->E' e s') ->
   wpAny (model prog w) A.in1 (if let .int slot _:=first then(do
     match <-setNext S slot.toNat i ep with
     |some (x,next) =>
      setField (.ref I) 0 (rawInt next)
      setField (.ref I) 1 (rawInt ((i:Int)+1))
      ret x
     |none=>setField (.ref I) 2 .none;raiseNew (<-newExc (.type "StopIteration") []))
    else(do
     let some places <-seqItems? first|unsupported "internal:set_iterator"
     match places[i]? with
     |some (.int place _) =>
      let x <-setNextDrawn S place.toNat ep
      setField (.ref I) 1 (rawInt ((i:Int)+1))
      ret x
     |some _=>unsupported "internal:set_iterator"
     |none=>setField (.ref I) 0 (rawInt 0);setField (.ref I) 2 .none;raiseNew (<-newExc (.type "StopIteration") []))) Q' E' s):wpAny (model prog w) A (pyNext (.ref I)) Q E s:=by
 obtain⟨o,hI,hc,hd⟩:=id hit;unfold pyNext;refine wpAny_bind (wpAny_attempt (wpAny_callSpecial?_slot (name:=Str.ofString "__next__") hit.typeIs SI.slot_next
  (wpAny_call_entry SI.slot_next hit.typeIs SI.entry_next ?_ (SI.args_next _))))
 unfold Builtin.«set_iterator.__next__»;refine wpAny_bind (wpAny_of_eq (a:=(Value.ref I,[])) rfl ?_)
 try dsimp only
 refine wpAny_bind (wpAny_fieldsOf hI hd ?_)
 try dsimp only
 refine wpAny_bind (wpAny_setEntries_of ho rfl hf ?_);rw[if_neg (by simp)];refine wpAny_mono (hrest (fun fin s'=>∃r,fin=.done (.ret r)/\Q (some r) s') (fun e s'=>s'.TypeIs e "StopIteration"/\Q none s') (fun v s' q=>⟨v,rfl,q⟩) fun e s' z q=>⟨z,q⟩) ?_ ?_
 ·rintro fin s' ⟨r,rfl,q⟩;exact⟨r,rfl,wpAny_pure q⟩
 ·rintro e s' ⟨z,q⟩;refine wpAny_bind (wpAny_isInstance (T:="StopIteration") (b:=true) z isSubtype_stop ?_);exact wpAny_pure q
end
end L2
namespace L2
open PySem PySem.Spec PyProof.Rows
section
variable{prog:Program}{w:World}{A:Around}{E:Value->Shared->Prop}{s:Shared}
theorem qa{I S:Addr}{f f':Value}{i n ep:Nat}{h:Heap}{o:Obj}(hI:h.get? I=some o)(hc:o.cls=.type "set_iterator")(hd:o.data=.fields #[f,rawInt i,.ref S,rawInt n,rawInt ep]):
  fA (h.update I (Obj.mapFields (·.setIfInBounds 1 (rawInt ((i:Int)+1))))) I f (i+1) S n ep :=
 ⟨_,Heap.get?_update_self _ hI (Obj.isFreed_of_fields (Obj.data_mapFields hd _)),(Obj.cls_mapFields ..).trans hc,by rw[Obj.data_mapFields hd];simp⟩
theorem m7{I S:Addr}{f f':Value}{i n ep:Nat}{h:Heap}{o:Obj}(hI:h.get? I=some o)(hc:o.cls=.type "set_iterator")(hd:o.data=.fields #[f,rawInt i,.ref S,rawInt n,rawInt ep]):
  ∃o',(h.update I (Obj.mapFields (·.setIfInBounds 0 f'))).get? I=some o'/\o'.cls=.type "set_iterator"/\o'.data=.fields #[f',rawInt i,.ref S,rawInt n,rawInt ep] :=
 ⟨_,Heap.get?_update_self _ hI (Obj.isFreed_of_fields (Obj.data_mapFields hd _)),(Obj.cls_mapFields ..).trans hc,by rw[Obj.data_mapFields hd];simp⟩
theorem tD{I S:Addr}{slot i ep:Nat}{es:Array (Int×Value)}{t:SetTable}{Q:Option Value->Shared->Prop}(hit:fA s.heap I (rawInt slot) i S es.size ep)(ho:s.heap.get? S=some (lJ es ep t))(hf:t.fits es.size=true)(hh:A.handled=none)
  {r:Option (Value×Nat)} (hn:∀(B:Around) (E':Value->Shared->Prop) (Q':Option (Value×Nat)->Shared->Prop),Q' r s->wpAny (model prog w) B (setNext S slot i ep) Q' E' s)
  (h1:∀x nx,r=some (x,nx)->∀h',fA h' I (rawInt nx) (i+1) S es.size ep->Heap.SameBut I s.heap h'->Q (some x) {s with heap:=h' })
  (h2:r=none->∀h',(∀b o,b≠I->s.heap.get? b=some o->h'.get? b=some o)->Q none {s with heap:=h' }):wpAny (model prog w) A (pyNext (.ref I)) Q E s:=by
 refine p_ hit ho hf fun Q' E' q1 q2=>?_;obtain⟨o,hI,hc,hd⟩:=id hit;show wpAny _ _ (setNext S slot i ep >>= _) _ _ s;refine wpAny_bind (hn _ _ _ ?_);cases r with
 |some p =>
  obtain⟨x,nx⟩:=p
  dsimp only
  refine wpAny_bind (wpAny_setField hI hd (by simp) ?_);obtain⟨o',e1,e2,e3⟩:=m7 (f':=rawInt nx) hI hc hd;refine wpAny_bind (wpAny_setField (s:={s with heap:=_}) e1 e3 (by simp) ?_);exact wpAny_pure (q1 _ _ (h1 x nx rfl _ (qa (f':=rawInt nx) e1 e2 e3) ((Heap.SameBut.update ..).trans (Heap.SameBut.update ..))))
 |none =>
  dsimp only
  refine wpAny_bind (wpAny_setField hI hd (by simp) ?_);refine m6 (I:=I) (k:=fun _=>pure none) (Q:=fun _ _=>True) (s:=s) (by simpa using hh) fun h' hk e he=>q2 e _ he (h2 rfl h' fun b ob hb eb=>hk b ob ?_);rw[Heap.get?_update_ne _ _ _ _ hb];exact eb
theorem yp{I S T:Addr}{i ep:Nat}{es:Array (Int×Value)}{t:SetTable}{pl:List Nat}{Q:Option Value->Shared->Prop}(hit:fA s.heap I (.ref T) i S es.size ep)(ho:s.heap.get? S=some (lJ es ep t))(hf:t.fits es.size=true)(hh:A.handled=none)
  (hT:s.heap.IsTuple T ((pl.map fun(j:Nat)=>rawInt j).toArray))
  (h1:∀(j:Nat) (e:Int×Value),pl[i]?=some j->es[j]?=some e->∀h',fA h' I (.ref T) (i+1) S es.size ep->Heap.SameBut I s.heap h'->Q (some e.2) {s with heap:=h' })
  (hp:∀j∈pl,j<es.size)
  (h2:pl[i]?=none->∀h',(∀b o,b≠I->s.heap.get? b=some o->h'.get? b=some o)->Q none {s with heap:=h' }):wpAny (model prog w) A (pyNext (.ref I)) Q E s:=by
 refine p_ hit ho hf fun Q' E' q1 q2=>?_;obtain⟨o,hI,hc,hd⟩:=id hit;obtain⟨oT,hoT,hcT,nT,hdT⟩:=hT;show wpAny _ _ (seqItems? (.ref T) >>= _) _ _ s;refine wpAny_bind (wpAny_seqItems hoT hdT ?_);cases e:pl[i]? with
 |some j =>
  have e':(pl.map fun(j:Nat)=>rawInt j).toArray[i]?=some (rawInt j):=by simp[e]
  simp only[e'];have hj:j<es.size:=hp j (List.mem_of_getElem? e);have ej:es[j]?=some (es[j]'hj):=by simp[hj]
  show wpAny _ _ (setNextDrawn S (j:Int).toNat ep >>= _) _ _ s;unfold setNextDrawn;rw[Int.toNat_natCast];refine wpAny_bind (wpAny_bind (wpAny_setState_of ho rfl hf ?_))
  dsimp only
  rw[if_neg (by simp)];generalize es[j]'hj=p at ej;simp only[ej];refine wpAny_pure ?_;refine wpAny_bind (wpAny_setField hI hd (by simp) ?_);exact wpAny_pure (q1 _ _ (h1 j p e ej _ (qa (f':=.ref T) hI hc hd) (Heap.SameBut.update ..)))
 |none =>
  have e':(pl.map fun(j:Nat)=>rawInt j).toArray[i]?=none:=by simp at e ⊢;exact e
  simp only[e'];refine wpAny_bind (wpAny_setField hI hd (by simp) ?_);obtain⟨o',e1,e2,e3⟩:=m7 (f':=rawInt 0) hI hc hd;refine wpAny_bind (wpAny_setField (s:={s with heap:=_}) e1 e3 (by simp) ?_);refine m6 (I:=I) (k:=fun _=>pure none) (Q:=fun _ _=>True) (s:=s) (by simpa using hh) fun h' hk ex he=>q2 ex _ he (h2 e h' fun b ob hb eb=>hk b ob ?_);rw[Heap.get?_update_ne _ _ _ _ hb,Heap.get?_update_ne _ _ _ _ hb];exact eb
end
end L2
namespace L2
open PySem PySem.Spec PyProof.Rows
section
variable{prog:Program}{w:World}{A:Around}{E:Value->Shared->Prop}{s:Shared}
theorem fA.at{h h':Heap}{I S:Addr}{f:Value}{i n ep:Nat}(x:fA h I f i S n ep)(e:∀o,h.get? I=some o->h'.get? I=some o):fA h' I f i S n ep:=let ⟨o,ho,r⟩:=x;⟨o,e _ ho,r⟩
theorem jl{I S:Addr}{es:Array (Int×Value)}{ep:Nat}{t:SetTable}(hh:A.handled=none)(hne:S≠I)(hf:t.fits es.size=true)(T:Addr)(hT:T≠I)(ord:List Value)(hlen:ord.length=es.size)
  (first:Nat->Value) (side:Heap->Prop) (hside:∀h h',side h->(∀o,h.get? T=some o->h'.get? T=some o)->side h')
  (hstep:∀(s:Shared) (i:Nat) (E:Value->Shared->Prop) (Q:Option Value->Shared->Prop),i<=es.size->side s.heap->fA s.heap I (first i) i S es.size ep->s.heap.get? S=some (lJ es ep t) ->
   (∀x,ord[i]?=some x->∀h',fA h' I (first (i+1)) (i+1) S es.size ep->Heap.SameBut I s.heap h'->Q (some x) {s with heap:=h' }) ->
   (ord[i]?=none->∀h',(∀b o,b≠I->s.heap.get? b=some o->h'.get? b=some o)->Q none {s with heap:=h' })->wpAny (model prog w) A (pyNext (.ref I)) Q E s) :
  Walks prog w A I [I,S,T] [I] es.size (fun i v=>ord[i]?=some v) (fun i h=>i<=es.size/\fA h I (first i) i S es.size ep/\h.get? S=some (lJ es ep t)/\side h) where
 sub:=fun b hb=>by rw[List.mem_singleton.mp hb];simp
 frame:=fun i h h' x hk=>⟨x.1,x.2.1.at fun o e=>hk I (by simp) o e,hk S (by simp) _ x.2.2.1,hside h h' x.2.2.2 fun o e=>hk T (by simp) o e⟩
 item:=fun i s Q E hi x hQ=>by
  refine hstep s i E Q x.1 x.2.2.2 x.2.1 x.2.2.1 (fun v hv h' hit hs=>?_) fun z=>absurd z (by simp;omega);refine hQ v h' s.toks hv ⟨hi,hit,?_,hside _ h' x.2.2.2 fun o e=>?_⟩ fun b o hb e=>?_
  ·rw[hs.2 S hne];exact x.2.2.1
  ·rw[hs.2 T hT];exact e
  ·rw[hs.2 b fun z=>hb (by simp[z])];exact e
 done:=fun s Q E x hQ=>by
  refine hstep s es.size E Q x.1 x.2.2.2 x.2.1 x.2.2.1 (fun v hv=>absurd hv (by rw[List.getElem?_eq_none (by omega)];simp)) fun _ h' hk=>hQ h' s.toks fun b o hb e=>hk b o (fun z=>hb (by simp[z])) e
 self:=fun i s Q E x hQ=>vI x.2.1 hQ
theorem lK{S:Addr}{es:Array (Int×Value)}{ep:Nat}{t:SetTable}{Q:Bool->Shared->Prop}(ho:s.heap.get? S=some (lJ es ep t))(hf:t.fits es.size=true)(h:Q (!w.params.followText "set-order"&&(!t.plain&&decide (es.size>1))) s):wpAny (model prog w) A (setDrawn S) Q E s:=by
 unfold setDrawn;refine wpAny_bind (wpAny_setState_of ho rfl hf ?_)
 dsimp only
 exact wpAny_bind (dG (wpAny_pure h))
theorem lL{S:Addr}{es:Array (Int×Value)}{ep i:Nat}{t:SetTable}{Q:Option (Value×Nat)->Shared->Prop}(hw:w.params.followText "set-order"=true)(ho:s.heap.get? S=some (lJ es ep t))(hf:t.fits es.size=true)
  (h:Q ((pickOrder (w.params.setOrder S ep) es)[i]?.map fun e=>(e.2,0)) s):wpAny (model prog w) A (setNext S 0 i ep) Q E s:=by
 unfold setNext;refine wpAny_bind (wpAny_setState_of ho rfl hf ?_)
 dsimp only
 refine wpAny_bind (dG ?_);show wpAny _ _ (if (w.params.followText "set-order")=true then _ else _) _ _ s;rw[if_pos hw];rw[if_neg (by simp)];unfold setWalk;refine wpAny_bind (wpAny_bind (wpAny_setState_of ho rfl hf ?_))
 dsimp only
 refine wpAny_bind (dG ?_);show wpAny _ _ (if (w.params.followText "set-order")=true then _ else _) _ _ s;rw[if_pos hw];refine wpAny_bind (wpAny_askSetting (wpAny_pure ?_));exact wpAny_pure h
theorem m8{S:Addr}{es:Array (Int×Value)}{ep i slot:Nat}{t:SetTable}{Q:Option (Value×Nat)->Shared->Prop}(hw:w.params.followText "set-order"=false)(ho:s.heap.get? S=some (lJ es ep t))(hf:t.fits es.size=true)(hl:t.led=true)(h1:es.size<=1)
    (h:Q (match es[SetTable.below t.place slot]?,t.place[SetTable.below t.place slot]? with|some (_,x),some j=>some (x,j+1)|_,_=>none) s):wpAny (model prog w) A (setNext S slot i ep) Q E s:=by
  unfold setNext;refine wpAny_bind (wpAny_setState_of ho rfl hf ?_)
  dsimp only
  refine wpAny_bind (dG ?_);show wpAny _ _ (if (w.params.followText "set-order")=true then _ else _) _ _ s;rw[if_neg (by rw[hw];simp)];show wpAny _ _ (if (!t.plain&&decide (es.size>1))=true then _ else _) _ _ s
  rw [if_neg (by have : decide (es.size > 1) = false := decide_eq_false (by omega)
                 rw[this];simp)]
  show wpAny _ _ ((if (!t.led&&!es.isEmpty)=true then _ else _) >>= _) _ _ s;rw[if_neg (by rw[hl];simp)];exact wpAny_bind (wpAny_pure (wpAny_pure h))
theorem m9(es:Array (Int×Value))(pl:Array Nat)(i:Nat)(h1:es.size<=1)(h2:pl.size=es.size)(h3:i<=es.size):
  (match es[SetTable.below pl (if i=0 then 0 else(pl[0]?).getD 0+1)]?,pl[SetTable.below pl (if i=0 then 0 else(pl[0]?).getD 0+1)]? with|some (_,x),some j=>some (x,j+1)|_,_=>none)=es[i]?.map fun e=>(e.2,(pl[0]?).getD 0+1):=by
 obtain⟨es⟩:=es;obtain⟨pl⟩:=pl
 match es,pl,h1,h2,h3 with
 |[],[],_,_,h3=>simp
 |[e],[p],_,_,h3 =>
  match i,h3 with
  |0,_ =>
   have:SetTable.below #[p] 0=0:=by simp[SetTable.below,SetTable.below.go]
   simp[this]
  |1,_ =>
   have:SetTable.below #[p] (p+1)=1:=by simp[SetTable.below,SetTable.below.go]
   simp[this]
  |n+2,h=>simp at h
 |[],_::_,_,h,_=>simp at h
 |[_],[],_,h,_=>simp at h
 |[_],_::_::_,_,h,_=>simp at h
 |_::_::_,_,h,_,_=>simp at h
theorem tE{S:Addr}{D:List Str}{Q:Value->Shared->Prop}{B:Around}(hh:B.handled=none)(hS:dF prog w s.heap S (cv w) D)
  (h:∀(I:Addr) (fp:List Addr) (n:Nat) (P:Nat->Value->Prop) (St:Nat->Heap->Prop) (ys:List Str) (h':Heap) (d':Drawn),Walks prog w B I fp [I] n P St->ys.Perm D->n=ys.length->(∀i v,P i v->∃x tk,ys[i]?=some x/\v=.str x tk)->s.heap.objs.size<=I->(∀b∈fp,b=S\/s.heap.objs.size<=b)->St 0 h' ->
   (∀b o,s.heap.get? b=some o->h'.get? b=some o)->Q (.ref I) {s with heap:=h',drawn:=d' }):wpAny (model prog w) A (pyIter (.ref S)) Q E s:=by
 obtain⟨L,es,ep,t,ho,hes,hperm,hnd,hf,hb,hled,hpl⟩:=hS;have hTS:s.TypeIs (.ref S) "set":=⟨_,ho,rfl⟩
 have hSlt:S<s.heap.objs.size:=Heap.lt_size ho;refine wpAny_pyIter_slot hTS PySem.F.slot_set_iter (wpAny_call_entry PySem.F.slot_set_iter hTS SI.jk ?_ (PySem.F.args_set_iter_1 _));unfold Builtin.«frozenset.__iter__» Builtin.Frozenset.slot0 slotArgs;simp only[List.isEmpty_nil,Bool.not_true,Bool.false_eq_true,↓reduceIte,bind_assoc,List.length_nil,bne_self_eq_false];unfold Builtin.Frozenset.addrOf Builtin.Frozenset.sizeOf;refine wpAny_bind (wpAny_pure ?_)
 try dsimp only
 refine wpAny_bind (wpAny_pure ?_);refine wpAny_bind (wpAny_bind (wpAny_setEntries_of ho rfl hf (wpAny_pure ?_)));have hLd:D.length=es.size:=by rw[<-hperm.length_eq,List.length_map,<-Array.length_toList,hes,List.length_map]
 have look:∀(l:List (Int×Value)),l.Perm es.toList->∃ys:List Str,ys.Perm D/\ys.length=es.size/\∀(i:Nat) (v:Value),(l.map (·.2))[i]?=some v->∃(x:Str) (tk:Tok),ys[i]?=some x/\v=Value.str x tk:=by
  intro l hl;rw[hes]at hl;obtain⟨L',e',p'⟩:=fy hl;refine⟨L'.map (·.1),(p'.map _).trans hperm,by rw[((p'.map _).trans hperm).length_eq,hLd],fun i v hv=>?_⟩;subst e';rw[List.map_map,List.getElem?_map]at hv;rw[List.getElem?_map];cases q:L'[i]? with
  |none=>rw[q]at hv;simp at hv
  |some p=>rw[q]at hv;simp at hv;exact⟨p.1,p.2,rfl,hv.symm⟩
 refine wpAny_bind (lK ho hf ?_);cases hw:w.params.followText "set-order" with
 |true =>
  simp only[Bool.not_true,Bool.false_and,Bool.false_eq_true,↓reduceIte];refine wpAny_bind (wpAny_pure ?_);refine wpAny_bind (wpAny_bind (wpAny_setState_of ho rfl hf (wpAny_pure ?_)));refine wpAny_bind (wpAny_newObj_type ?_);have hn:S≠s.heap.objs.size:=Nat.ne_of_lt hSlt;obtain⟨ys,y1,y2,y3⟩:=look (pickOrder (w.params.setOrder S ep) es).toList (eB _ _);have W:=jl (prog:=prog) (w:=w) (A:=B) (I:=s.heap.objs.size) (S:=S) (es:=es) (ep:=ep) (t:=t) hh hn hf S hn ((pickOrder (w.params.setOrder S ep) es).toList.map (·.2)) (by rw[List.length_map,(eB _ _).length_eq,Array.length_toList]) (fun _=>rawInt 0) (fun _=>True) (fun _ _ _ _=>trivial)
   (fun s i E Q _ _ hit ho' k1 k2=>tD (slot:=0) hit ho' hf hh (fun B E' Q' q=>lL hw ho' hf q) (fun x nx e h' hit' hs=>by
    rw[Option.map_eq_some_iff]at e;obtain⟨p,e1,e2⟩:=e;cases e2;exact k1 _ (by rw[List.getElem?_map,Array.getElem?_toList,e1];rfl) h' hit' hs) (fun e=>k2 (by rw[List.getElem?_map,Array.getElem?_toList,Option.map_eq_none_iff];rwa [Option.map_eq_none_iff]at e)))
  refine wpAny_pure ⟨_,rfl,"set_iterator",_,⟨_,Heap.get?_push_size _ rfl,rfl⟩,SI.slot_next.lookup,?_⟩;exact h _ _ _ _ _ ys _ s.drawn W y1 y2.symm y3 (Nat.le_refl _) (fun b hb=>by
   simp only[List.mem_cons,List.not_mem_nil,or_false]at hb;rcases hb with rfl|rfl|rfl
   ·exact .inr (Nat.le_refl _)
   ·exact .inl rfl
   ·exact .inl rfl) ⟨Nat.zero_le _,⟨_,Heap.get?_push_size _ rfl,rfl,rfl⟩,Heap.get?_push_of_some _ ho,trivial⟩ fun b o e=>Heap.get?_push_of_some _ e
 |false =>
  by_cases hsz:es.size>1
  ·have hplain:t.plain=false:=by
    rcases hpl with z|z
    ·omega
    ·exact z
   have e1:(!false&&(!t.plain&&decide (es.size>1)))=true:=by rw[hplain,decide_eq_true hsz];rfl
   rw[e1];simp only[↓reduceIte];refine wpAny_bind (fj _ _ _ _ List.length_range fun pl d' hp=>?_);simp only[newTuple];have hpl2:∀j∈pl,j<es.size:=fun j hj=>by have:=hp.mem_iff.mp hj;simpa using this
   have hpll:pl.length=es.size:=by rw[hp.length_eq];simp
   refine wpAny_bind (wpAny_newObj_type ?_ (by
    show(pl.map fun(j:Nat)=>rawInt j).toArray.size<=_;have:es.size<4096:=hb;simp only[List.size_toArray,List.length_map,hpll];have:(4096:Nat)<=sizeLine:=by decide
    omega))
   have ho1:(s.heap.push {cls:=.type "tuple",data:=.seq (pl.map fun(j:Nat)=>rawInt j).toArray}).get? S=some (lJ es ep t):=Heap.get?_push_of_some _ ho;refine wpAny_bind (wpAny_bind (wpAny_setState_of (s:={s with heap:=_,drawn:=d' }) ho1 rfl hf (wpAny_pure ?_)));refine wpAny_bind (wpAny_newObj_type ?_);have hIT:s.heap.objs.size≠(s.heap.push {cls:=.type "tuple",data:=.seq (pl.map fun(j:Nat)=>rawInt j).toArray}).objs.size:=by rw[size_push'];exact Nat.ne_of_lt (Nat.lt_succ_self _)
   have hn:S≠(s.heap.push {cls:=.type "tuple",data:=.seq (pl.map fun(j:Nat)=>rawInt j).toArray}).objs.size:=by rw[size_push'];exact Nat.ne_of_lt (Nat.lt_succ_of_lt hSlt)
   have hperm2:(pl.map fun j=>(es[j]?).getD (0,Value.none)).Perm es.toList:=by
    refine(hp.map _).trans ?_;have:(List.range es.size).map (fun j=>(es[j]?).getD (0,Value.none))=es.toList:=by
     apply List.ext_getElem
     ·simp
     ·intro i h1 h2;simp at h1 ⊢;simp[h1]
    rw[this]
   obtain⟨ys,y1,y2,y3⟩:=look _ hperm2;have W:=jl (prog:=prog) (w:=w) (A:=B) (I:=(s.heap.push {cls:=.type "tuple",data:=.seq (pl.map fun(j:Nat)=>rawInt j).toArray}).objs.size) (S:=S) (es:=es) (ep:=ep) (t:=t) hh hn hf s.heap.objs.size hIT ((pl.map fun j=>(es[j]?).getD (0,Value.none)).map (·.2)) (by simp[hpll]) (fun _=>.ref s.heap.objs.size) (fun h=>h.IsTuple s.heap.objs.size (pl.map fun(j:Nat)=>rawInt j).toArray) (fun h h' ⟨o,ho,r⟩ k=>⟨o,k _ ho,r⟩)
    (fun s' i E Q _ hside hit ho' k1 k2=>yp hit ho' hf hh hside (fun j e ej ee h' hit' hs=>k1 _ (by rw[List.getElem?_map,List.getElem?_map,ej];simp[ee]) h' hit' hs) hpl2 (fun e=>k2 (by rw[List.getElem?_map,List.getElem?_map,e];rfl)))
   refine wpAny_pure ⟨_,rfl,"set_iterator",_,⟨_,Heap.get?_push_size _ rfl,rfl⟩,SI.slot_next.lookup,?_⟩;refine h _ _ _ _ _ ys _ d' W y1 y2.symm y3 (by rw[size_push'];exact Nat.le_succ _) (fun b hb=>?_) ⟨Nat.zero_le _,⟨_,Heap.get?_push_size _ rfl,rfl,rfl⟩,Heap.get?_push_of_some _ ho1,⟨_,Heap.get?_push_of_some _ (Heap.get?_push_size _ rfl),rfl,_,rfl⟩⟩ fun b o e=>Heap.get?_push_of_some _ (Heap.get?_push_of_some _ e);rw[size_push']at hb;simp only[List.mem_cons,List.not_mem_nil,or_false]at hb;rcases hb with rfl|rfl|rfl
   ·exact .inr (Nat.le_succ _)
   ·exact .inl rfl
   ·exact .inr (Nat.le_refl _)
  ·have e1:(!false&&(!t.plain&&decide (es.size>1)))=false:=by rw[decide_eq_false hsz];simp
   rw[e1];simp only[Bool.false_eq_true,↓reduceIte];refine wpAny_bind (wpAny_pure ?_);refine wpAny_bind (wpAny_bind (wpAny_setState_of ho rfl hf (wpAny_pure ?_)));refine wpAny_bind (wpAny_newObj_type ?_);have hn:S≠s.heap.objs.size:=Nat.ne_of_lt hSlt;have hld:t.led=true:=by rw[hled];show(!w.params.followText "set-order")=true;rw[hw];rfl
   obtain⟨ys,y1,y2,y3⟩:=look es.toList (.refl _);have hps:t.place.size=es.size:=by
    unfold SetTable.fits at hf;simp only[Bool.and_eq_true,beq_iff_eq]at hf;exact hf.1
   have W:=jl (prog:=prog) (w:=w) (A:=B) (I:=s.heap.objs.size) (S:=S) (es:=es) (ep:=ep) (t:=t) hh hn hf S hn (es.toList.map (·.2)) (by simp) (fun i=>rawInt ((if i=0 then 0 else(t.place[0]?).getD 0+1:Nat):Nat)) (fun _=>True) (fun _ _ _ _=>trivial)
    (fun s' i E Q hi _ hit ho' k1 k2=>tD (slot:=if i=0 then 0 else(t.place[0]?).getD 0+1) hit ho' hf hh (fun B E' Q' q=>m8 hw ho' hf hld (by omega) q) (fun x nx e h' hit' hs=>by
     rw[m9 es t.place i (by omega) hps hi,Option.map_eq_some_iff]at e;obtain⟨p,e1,e2⟩:=e;cases e2;refine k1 _ (by rw[List.getElem?_map,Array.getElem?_toList,e1];rfl) h' ?_ hs;rw[if_neg (Nat.succ_ne_zero i)];exact hit') (fun e=>by
     rw[m9 es t.place i (by omega) hps hi,Option.map_eq_none_iff]at e;exact k2 (by rw[List.getElem?_map,Array.getElem?_toList,e];rfl)))
   refine wpAny_pure ⟨_,rfl,"set_iterator",_,⟨_,Heap.get?_push_size _ rfl,rfl⟩,SI.slot_next.lookup,?_⟩;exact h _ _ _ _ _ ys _ s.drawn W y1 y2.symm y3 (Nat.le_refl _) (fun b hb=>by
    simp only[List.mem_cons,List.not_mem_nil,or_false]at hb;rcases hb with rfl|rfl|rfl
    ·exact .inr (Nat.le_refl _)
    ·exact .inl rfl
    ·exact .inl rfl) ⟨Nat.zero_le _,⟨_,Heap.get?_push_size _ rfl,rfl,rfl⟩,Heap.get?_push_of_some _ ho,trivial⟩ fun b o e=>Heap.get?_push_of_some _ e
end
end L2
namespace L2
open PySem PySem.Spec PyProof.Rows
theorem m_:typeLookup (.type "set") "__len__"=pure (some (.builtin "set.__len__")):=by rw[typeLookup_type,builtinLookup_eq_fast];kernel_rfl
section
variable{prog:Program}{w:World}{A:Around}{E:Value->Shared->Prop}{s:Shared}
theorem jm:∀{vs:List Value}{ys:List Str},vs.length=ys.length->(∀(i:Nat) (v:Value),vs[i]?=some v->∃x t,ys[i]?=some x/\v=.str x t)->StrsAre vs ys
 |[],[],_,_=>.nil
 |[],_::_,h,_=>by simp at h
 |_::_,[],h,_=>by simp at h
 |v::vs,y::ys,h,k=>by
  obtain⟨x,t,e1,e2⟩:=k 0 v rfl;cases e1;subst e2;exact .cons y t (jm (by simpa using h) fun i w hw=>k (i+1) w hw)
theorem ng{S:Addr}{D:List Str}{Q:List Value->Shared->Prop}(hh:A.handled=none)(hS:dF prog w s.heap S (cv w) D)(hn:D.length<=sizeLine)
  (hQ:∀(vs:List Value) (ys:List Str) (h':Heap) (d':Drawn) (tk:Nat),ys.Perm D->StrsAre vs ys->s.heap.objs.size<=h'.objs.size->s.toks<=tk->(∀b o,s.heap.get? b=some o->h'.get? b=some o)->Q vs {s with heap:=h',drawn:=d',toks:=tk}) :
  wpAny (model prog w) A (collect (.ref S)) Q E s:=by
 obtain⟨L,es,ep,t,ho,rest⟩:=id hS;have hSlt:S<s.heap.objs.size:=Heap.lt_size ho;unfold collect;refine wpAny_bind (wpAny_runValue (codeAny_builtin PySem.F.entry_proto_collect ?_));rw[Around.under_plainId PySem.F.plain_proto_collect _];show wpAny _ A.in1 (newList [] >>= fun l=>again (.builtin "list.__iadd__" ⟨[l,.ref S],[]⟩)) _ _ s;refine wpAny_bind (wpAny_newObj_type ?_);refine wpAny_pure ⟨plainId_quiet PySem.F.plain_list_iadd _,codeAny_builtin PySem.F.entry_list_iadd ?_⟩;rw[Around.under_plainId PySem.F.plain_list_iadd _];have ho1:(s.heap.push {cls:=.type "list",data:=.seq ([]:List Value).toArray}).get? S=some {cls:=.type "set",dict:=none,data:=.set es ep t}:=Heap.get?_push_of_some _ ho;have hT:Shared.TypeIs {s with heap:=s.heap.push {cls:=.type "list",data:=.seq ([]:List Value).toArray}} (.ref S) "set":=⟨_,ho1,rfl⟩
 show wpAny _ A.in1 (Builtin.List.listExtendWith (.ref s.heap.objs.size) (.ref S) (.ref s.heap.objs.size)) _ _ _;unfold Builtin.List.listExtendWith;refine wpAny_bind (wpAny_typeOf hT ?_);have hne:s.heap.objs.size≠S:=Nat.ne_of_gt hSlt;have h1:Builtin.List.listSameRef (.ref s.heap.objs.size) (.ref S)=false:=by simp[Builtin.List.listSameRef,hne]
 have h2:(Value.type "set"==Value.type "list")=false:=by decide
 have h3:(Value.type "set"==Value.type "tuple")=false:=by decide
 simp only[h1,h2,h3,Bool.or_false,Bool.false_eq_true,if_false];refine wpAny_bind (tE (B:=A.in1) (by simpa using hh) ⟨L,es,ep,t,ho1,rest⟩ ?_);intro I fp n P St ys h' d' W hp hny hP hI hfp hst hk;have hT':Shared.TypeIs {s with heap:=h',drawn:=d' } (.ref S) "set":=⟨_,hk _ _ ho1,rfl⟩
 refine wpAny_bind (wpAny_holding ?_);unfold Builtin.List.listLengthHint;refine wpAny_bind (wpAny_specialOf hT' m_ ?_);have hsp:splitId "set.__len__"=some ("set","__len__"):=by decide +kernel
 dsimp only
 rw[hsp]
 dsimp only
 refine wpAny_bind (wpAny_isInstance hT' sub_set_self ?_);rw[if_neg (by decide)];rw[if_pos (by decide +kernel)];refine wpAny_bind (wpAny_typeOf hT' ?_);refine wpAny_pure ?_;rw[if_pos (by decide +kernel)];have hSf:s.heap.objs.size∉fp:=fun hm=>by
  rcases hfp _ hm with z|z
  ·exact hne z
  ·rw[size_push']at z;exact absurd z (Nat.not_succ_le_self _)
 have hS1:h'.get? s.heap.objs.size=some {cls:=.type "list",data:=.seq ([]:List Value).toArray}:=hk _ _ (Heap.get?_push_size _ rfl);refine wpAny_bind (wpAny_rule ?_);refine wpAny_bind ?_;show wpAny _ A.in1 (updateSeq s.heap.objs.size (·.push .none) >>= fun _=>updateSeq s.heap.objs.size (·.pop)) _ _ _;refine wpAny_bind (wpAny_updateSeq hS1 rfl ?_);have hS2:=Heap.get?_update_self (Obj.mapSeq (·.push Value.none)) hS1 rfl;refine wpAny_updateSeq hS2 rfl ?_;have hS3:=Heap.get?_update_self (Obj.mapSeq (·.pop)) hS2 rfl;have oth:∀b o,b≠s.heap.objs.size->h'.get? b=some o->((h'.update s.heap.objs.size (Obj.mapSeq (·.push Value.none))).update s.heap.objs.size (Obj.mapSeq (·.pop))).get? b=some o :=
  fun b o hb e=>(Heap.get?_update_other _ _ (Ne.symm hb)).trans ((Heap.get?_update_other _ _ (Ne.symm hb)).trans e)
 refine wpAny_pure ⟨plainId_quiet PySem.F.plain_extend_loop _,codeAny_extend_loopS W.toS (by rw[hny,hp.length_eq];exact hn) _ hSf _ n 0 _ _ _ rfl (Nat.zero_le _) (W.frame 0 h' _ hst fun b hb o e=>oth b o (fun z=>hSf (z▸hb)) e) hS3 (ItemsOf.nil P) fun s' acc' c' hm hS' hacc=>?_⟩;show wpAny _ A (load s.heap.objs.size >>= _) _ _ s';refine wpAny_bind (wpAny_load hS' ?_);obtain⟨h2',g2,d2,tk2,os2⟩:=s';have eg:g2=s.gens:=hm.gens;have ed:d2=d':=hm.drawn;have eo:os2=s.os:=hm.os;subst eg;subst ed;subst eo;refine wpAny_pure (hQ _ ys h2' d2 tk2 hp (jm (by rw[Array.length_toList,hacc.1,hny]) fun i v hv=>hP i v (hacc.2 i v (by rwa [Array.getElem?_toList]at hv))) (Nat.le_of_lt (Heap.lt_size hS')) hm.toks fun b o e=>?_);have hb0:b≠s.heap.objs.size:=fun z=>by rw[z]at e;exact absurd (Heap.lt_size e) (Nat.lt_irrefl _)
 refine hm.heap b o (fun z=>?_) (oth b o hb0 (hk _ _ (Heap.get?_push_of_some _ e)));rcases List.mem_cons.mp z with z|z
 ·exact hb0 z
 ·rw[List.mem_singleton.mp z]at e;have:=Heap.lt_size e;rw[size_push']at hI;exact absurd (Nat.lt_of_lt_of_le this (Nat.le_trans (Nat.le_succ _) hI)) (Nat.lt_irrefl _)
end
end L2
namespace L2
open PySem PySem.Spec PyProof.Rows
section
variable{X:Cx}{pins:List (Addr×Obj)}{σ:List (Option V)}{H:Hp}{s:Shared}
theorem Inv.drawn(I:Inv X pins σ H s)(d:Drawn):Inv X pins σ H {s with drawn:=d}:=⟨I.ok,I.os,I.bare,I.base,I.loc,I.cell,I.free,I.freeC,I.pin,I.hok,I.len⟩
theorem fV{p:Addr}{ys:List Str}{Q:Value->Shared->Prop}(hc:X.calm=true)(I:Inv X pins σ H s)(hq:SqL X.K H p (ys.map V.str)\/SqT X.K H p (ys.map V.str))(hb:ys.length+1<scanBound)
  (h:∀(S:Addr) (h':Heap) (tk:Nat),dF X.prog X.w h' S (cv X.w) (bp ys)->Inv X pins σ H {s with heap:=h',toks:=tk}->Q (.ref S) {s with heap:=h',toks:=tk}) :
  wpAny (model X.prog X.w) X.A (call (.type "set") [.ref p]) Q X.xe s:=by
 have hh:X.A.handled=none:=I.ok.hd hc;rcases hq with hq|hq
 ·obtain⟨its,rv,pl,hz⟩:=I.list hq;exact jj hh pl.isList (cS rv) hb fun h' tk hS k=>h _ h' tk hS (I.kept fun b o e=>k b o (Heap.lt_size e) e)
 ·obtain⟨its,rv,pl,hz⟩:=I.tuple hq;exact j7 hh pl (cS rv) hb fun h' tk hS k=>h _ h' tk hS (I.kept fun b o e=>k b o (Heap.lt_size e) e)
theorem j9{S:Addr}{D:List Str}{Q:VK}(hc:X.calm=true)(I:Inv X pins σ H s)(hS:dF X.prog X.w s.heap S (cv X.w) D)(h64:D.length<64)
  (q:∀p,H p=none->Q (.ref p) (upd H p (.lst ((aH D).map V.str)))):wpAny (model X.prog X.w) X.A (call (.builtin "sorted") [.ref S]) (EP X pins σ Q) X.xe s:=by
 have hh:X.A.handled=none:=I.ok.hd hc;have hl:D.length<=sizeLine:=Nat.le_of_lt (Nat.lt_of_lt_of_le h64 (by decide));refine dE (ng (A:=X.A.in1) (by simpa using hh) hS hl fun vs ys h' d' tk hp hv hsz htk hk=>⟨ys,hv,by rw[fU hv,hp.length_eq];exact h64,fun h2 vs' e k2 at2 s2=>?_⟩);rw[c6 hp]at s2;have I1:Inv X pins σ H {s with heap:=h',toks:=tk}:=I.kept (t':=tk) hk;have I2:Inv X pins σ H {s with heap:=h',drawn:=d',toks:=tk}:=I1.drawn d';exact⟨.ref h'.objs.size,_,I2.laid (t':=tk) (o:=.lst ((aH D).map V.str)) k2 (Nat.le_refl _) ⟨by rw[List.length_map,cG];exact hl,vs',e,cH s2,at2⟩,rfl,q _ (I2.hok.fresh (Nat.le_refl _))⟩
theorem oG{S:Addr}{D:List Str}{Q:VK}(I:Inv X pins σ H s)(hS:dF X.prog X.w s.heap S (cv X.w) D)
  (q:Q (.int D.length) H):wpAny (model X.prog X.w) X.A (call (.builtin "len") [.ref S]) (EP X pins σ Q) X.xe s:=by
 obtain⟨L,es,ep,t,ho,hes,hperm,hnd,hf,hb,hled,hpl⟩:=hS;have hlen:es.size=D.length:=by rw[<-Array.length_toList,hes,List.length_map,<-List.length_map (f:=Prod.fst) (as:=L),hperm.length_eq]
 have hb':es.size<4096:=hb;refine call_len_set ho ⟨rfl,rfl,rfl⟩ rfl hf (by omega) ?_;exact⟨.int es.size,_,I.kept (t':=s.toks+1+1) (fun _ _ e=>e),⟨_,rfl⟩,by rw[hlen];exact q⟩
end
end L2
namespace L2
open PySem PySem.Spec PyProof.Rows
section
variable{prog:Program}{w:World}{A:Around}{E:Value->Shared->Prop}{s:Shared}
theorem fW{it l:Addr}{i:Nat}{items}{x:Value}{Q:Value->Shared->Prop}(hit:s.heap.IsTupleIter it l i)
  (hl:s.heap.IsTuple l items) (hx:items[i]?=some x)
  (hQ:∀h',h'.IsTupleIter it l (i+1)->Heap.SameBut it s.heap h'->Q x {s with heap:=h' }) :
  wpAny (model prog w) A (Builtin.SmallTypes.nextOf (.ref it)) Q E s:=by
 obtain⟨o,ho,hc,hd⟩:=id hit;obtain⟨ol,hol,_,nl,hdl⟩:=hl;unfold Builtin.SmallTypes.nextOf;refine wpAny_bind (wpAny_callSpecial?_slot (name:=Str.ofString "__next__") hit.typeIs PySem.F.slot_tuple_iterator_next
  (wpAny_call_entry PySem.F.slot_tuple_iterator_next hit.typeIs PySem.F.entry_tuple_iterator_next ?_ (PySem.F.args_tuple_iterator_next_1 _)))
 show wpAny _ _ (field (.ref it) 0 >>= _) _ _ s;refine wpAny_bind (wpAny_field ho hd (x:=.ref l) rfl ?_);show wpAny _ _ (if (Value.ref l==Value.none)=true then _ else _) _ _ s;rw[if_neg (show ¬((Value.ref l==Value.none)=true) from Bool.false_ne_true)];show wpAny _ _ (field (.ref it) 1 >>= _) _ _ s;refine wpAny_bind (wpAny_field ho hd (x:=.int i 0) rfl ?_);show wpAny _ _ (seqItems? (.ref l) >>= _) _ _ s;refine wpAny_bind (wpAny_seqItems hol hdl ?_);simp only[Int.toNat_natCast,hx];refine wpAny_bind (wpAny_setField ho hd (by simp) (wpAny_pure ⟨x,rfl,wpAny_pure (hQ _ ?_ (Heap.SameBut.update ..))⟩));exact⟨_,Heap.get?_update_self _ ho (Obj.isFreed_of_fields (Obj.data_mapFields hd _)),(Obj.cls_mapFields ..).trans hc,by
  rw[Obj.data_mapFields hd];simp[rawInt]⟩
theorem dr{it l:Addr}{i:Nat}{items}{Q:Value->Shared->Prop}(hh:A.handled=none)
  (hit:s.heap.IsTupleIter it l i) (hl:s.heap.IsTuple l items) (hx:items[i]?=none)
  (hE:∀h' e,Heap.ExtBut it s.heap h'->(∃o,h'.get? e=some o/\o.cls=.type "StopIteration")->E (.ref e) {s with heap:=h' }) :
  wpAny (model prog w) A (Builtin.SmallTypes.nextOf (.ref it)) Q E s:=by
 obtain⟨o,ho,hc,hd⟩:=id hit;obtain⟨ol,hol,_,nl,hdl⟩:=hl;unfold Builtin.SmallTypes.nextOf;refine wpAny_bind (wpAny_callSpecial?_slot (name:=Str.ofString "__next__") hit.typeIs PySem.F.slot_tuple_iterator_next
  (wpAny_call_entry PySem.F.slot_tuple_iterator_next hit.typeIs PySem.F.entry_tuple_iterator_next ?_ (PySem.F.args_tuple_iterator_next_1 _)))
 show wpAny _ _ (field (.ref it) 0 >>= _) _ _ s;refine wpAny_bind (wpAny_field ho hd (x:=.ref l) rfl ?_);show wpAny _ _ (if (Value.ref l==Value.none)=true then _ else _) _ _ s;rw[if_neg (show ¬((Value.ref l==Value.none)=true) from Bool.false_ne_true)];show wpAny _ _ (field (.ref it) 1 >>= _) _ _ s;refine wpAny_bind (wpAny_field ho hd (x:=.int i 0) rfl ?_);show wpAny _ _ (seqItems? (.ref l) >>= _) _ _ s;refine wpAny_bind (wpAny_seqItems hol hdl ?_);simp only[Int.toNat_natCast,hx];refine wpAny_bind (wpAny_rule (wpAny_bind (wpAny_setField ho hd (by simp) ?_)));show wpAny _ _ (newExc (.type "StopIteration") [] >>= _) _ _ _;refine wpAny_bind ?_;simp only[newExc,newTuple];refine wpAny_bind (wpAny_newObj_type ?_ (by size_fits));refine wpAny_bind (m:=firstArgMember _ _) (wpAny_of_eq (a:=Value.none) (by first|rfl|(simp only[firstArgMember];rfl)) ?_);refine wpAny_newObj_type ?_ (by size_fits);simp only[raiseNew];refine wpAny_bind (wpAny_handled ?_)
 first|rw[show A.in1.handled=none from hh]|rw[hh]
 refine wpAny_bind (wpAny_pure (wpAny_throw ?_));exact hE _ _ (((Heap.SameBut.update ..).extBut.push _).push _) ⟨_,Heap.get?_push_size _ rfl,rfl⟩
end
theorem nh{prog:Program}{w:World}{A:Around}(hh:A.handled=none)(it l:Addr)(hne:l≠it)(items:Array Value):
  Draws prog w A it [it,l] items.size (fun i v=>items[i]?=some v) (fun i h=>h.IsTupleIter it l i/\h.IsTuple l items) where
 live:=fun _ _ st=>let ⟨o,ho,_⟩:=st.1;⟨o,ho⟩
 frame:=fun _ _ _ st hk=>⟨st.1.at fun o e=>hk it (by simp) o e,let ⟨o,ho,r⟩:=st.2;⟨o,hk l (by simp) o ho,r⟩⟩
 item:=fun i s Q E hi st hQ=>by
  refine fW st.1 st.2 (x:=items[i]) (by simp[hi]) fun h' hit' hs'=>?_;exact hQ _ h' s.toks (by simp[hi]) ⟨hit',let ⟨o,ho,r⟩:=st.2;⟨o,(hs'.2 l hne).trans ho,r⟩⟩ hs'
 done:=fun s Q E st hE=>dr hh st.1 st.2 (by simp) hE
open AutoSeq1 (wpAny_loadPart') in
theorem jn(l:Addr)(items:Array Value)(n:Nat)(dct:Option Addr)(sl:Array (Option Value)):
  Meets (Builtin.«enumerate.__new__» ⟨[.type "enumerate",.ref l],[]⟩) (fun _ R s=>s.heap.get? l=some {cls:=.type "tuple",dict:=dct,data:=.seq items n,slots:=sl} /\
   R (.ok (.ret (.ref (s.heap.push {cls:=.type "tuple_iterator",data:=.fields #[.ref l,.int 0 0]}).objs.size)))
    {s with heap:=(s.heap.push {cls:=.type "tuple_iterator",data:=.fields #[.ref l,.int 0 0]}).push {cls:=.type "enumerate",data:=.fields #[.none,.bool false,.ref s.heap.objs.size,rawInt 0,.none,.none]}}) :=
 .of_wp fun prog w A R s h=>by
  obtain⟨hp,g,d,tk,os⟩:=s;obtain⟨hl,h⟩:=h;have hsub:=sub_enumerate;have hL:Heap.IsTuple (Shared.heap ⟨hp,g,d,tk,os⟩) l items:=⟨_,hl,rfl,n,rfl⟩
  wp_walk using wpAny_loadPart' hl
  refine wpAny_stack_any fun st=>wpAny_pure ?_;split
  ·rename_i c _ _ _ _ _;cases(c==Value.type "enumerate")
   ·wp_walk using wpAny_loadPart' hl,wpAny_pyIter_tuple hL
    exact⟨_,rfl,h⟩
   ·wp_walk using wpAny_loadPart' hl,wpAny_pyIter_tuple hL
    exact⟨_,rfl,h⟩
  ·wp_walk using wpAny_loadPart' hl,wpAny_pyIter_tuple hL
   exact⟨_,rfl,h⟩
section
variable{prog:Program}{w:World}{A:Around}{E:Value->Shared->Prop}{s:Shared}
theorem eC{l:Addr}{items:Array Value}{Q:Value->Shared->Prop}(hL:s.heap.IsTuple l items)
  (h:∀h',IsEnum h' (s.heap.objs.size+1) s.heap.objs.size 0 .none->h'.IsTupleIter s.heap.objs.size l 0->h'.objs.size=s.heap.objs.size+2 ->
   (∀b o,s.heap.get? b=some o->h'.get? b=some o)->Q (.ref (s.heap.objs.size+1)) {s with heap:=h' }) :
  wpAny (model prog w) A (call (.type "enumerate") [.ref l]) Q E s:=by
 obtain⟨⟨c,dct,dt,sl⟩,hl,hc,n,hd⟩:=hL
 replace hc:c=.type "tuple":=hc
 replace hd:dt=.seq items n:=hd
 subst hc hd;refine callType_new PySem.F.called_enumerate (by decide) (PySem.F.typeCall_enumerate_1 _) (PySem.F.newCall_enumerate_1 _) (fun obj=>PySem.F.args_object_init_2 obj _) PySem.F.entry_enumerate_new
  (jn l items n dct sl) ⟨hl,?_⟩
 have hz:(s.heap.push {cls:=.type "tuple_iterator",data:=.fields #[.ref l,.int 0 0]}).objs.size=s.heap.objs.size+1:=Heap.size_push ..;show _/\_;rw[hz];have he:IsEnum ((s.heap.push {cls:=.type "tuple_iterator",data:=.fields #[.ref l,.int 0 0]}).push
   {cls:=.type "enumerate",data:=.fields #[.none,.bool false,.ref s.heap.objs.size,rawInt 0,.none,.none]}) (s.heap.objs.size+1) s.heap.objs.size 0 .none:=by
  have:=Heap.get?_push_size (s.heap.push {cls:=.type "tuple_iterator",data:=.fields #[.ref l,.int 0 0]})
   (o:={cls:=.type "enumerate",data:=.fields #[.none,.bool false,.ref s.heap.objs.size,rawInt 0,.none,.none]}) rfl
  rw[hz]at this;exact this
 refine⟨⟨_,he,rfl⟩,h _ he ⟨_,Heap.get?_push_of_some _ (Heap.get?_push_size _ rfl),rfl,rfl⟩ (by rw[Heap.size_push,hz]) fun b o x=>Heap.get?_push_of_some _ (Heap.get?_push_of_some _ x)⟩
end
end L2
namespace L2
open PySem PySem.Spec PyProof.Rows
section
variable{X:Cx}{pins:List (Addr×Obj)}{σ:List (Option V)}{H:Hp}{s:Shared}{h':Heap}
theorem Inv.qb{t':Nat}{ch:List Addr}(I:Inv X pins σ H s)(hf:∀b∈ch,fK X pins H b)(k:∀b o,b∉ch->s.heap.get? b=some o->h'.get? b=some o):Inv X pins σ H {s with heap:=h',toks:=t' }:=by
 have nit:∀b u,H b=some u->b∉ch:=fun b u e z=>by rw[(hf b z).1]at e;cases e
 refine I.step (g':=s.gens) (d':=s.drawn) (ch:=ch) (fun b hb=>?_) (fun b o _ _ hc e _=>k b o hc e) (fun b o _ _ hc e _=>⟨o.slots,k b o hc e⟩) (fun _ _ _ _ n=>n)
  (fun b o hc e=>⟨o,k b o hc e⟩) (fun _ _ e=>e) (fun _ _ _ e=>e) (fun b ps e=>⟨#[],by rw[e];simp⟩) (fun m hm=>?_) (fun b u e=>?_) I.bare
 ·obtain⟨f0,f1,f2,f3,f4,f5⟩:=hf b hb;exact⟨f3,f1,f4,f5⟩
 ·obtain⟨o,es,ep,ho,r⟩:=hm;exact⟨o,es,ep,k _ o (fun z=>(hf _ z).2.1 rfl) ho,r⟩
 ·refine(I.hok b u e).la (fun c v hc q=>k c v ?_ q) (fun _ q=>q) fun _ _ q=>q;rcases hc with z|z
  ·rw[z];exact nit b u e
  ·exact nit c _ z
theorem Inv.oH{t':Nat}{ch:List Addr}{T:Addr}{o:HO}(I:Inv X pins σ H s)(hf:∀b∈ch,fK X pins H b)(k:∀b o,b∉ch->s.heap.get? b=some o->h'.get? b=some o)(hT:s.heap.objs.size<=T)(new:bE X.prog X.w (upd H T o) h' T o):
  Inv X pins σ (upd H T o) {s with heap:=h',toks:=t' }:=by
 have I1:Inv X pins σ H {s with heap:=h',toks:=t' }:=I.qb hf k;have hn:H T=none:=I.hok.fresh hT;have nT:∀b o,s.heap.get? b=some o->b≠T:=fun b o e z=>by rw[z]at e;exact absurd (Nat.lt_of_lt_of_le (Heap.lt_size e) hT) (Nat.lt_irrefl _)
 have nH:∀b u,H b=some u->b≠T:=fun b u e z=>by rw[z,hn]at e;cases e
 refine I.step (g':=s.gens) (d':=s.drawn) (ch:=ch) (fun b hb=>?_) (fun b o _ _ hc e _=>k b o hc e) (fun b o _ _ hc e _=>⟨o.slots,k b o hc e⟩) (fun b o _ e n=>by rw[ak (nT b o e)];exact n)
  (fun b o hc e=>⟨o,k b o hc e⟩) (fun b _ e=>by rw[ak (nH b _ e)];exact e) (fun b _ _ e=>by rw[ak (nH b _ e)];exact e) (fun b ps e=>⟨#[],by rw[ak (nH b _ e),e];simp⟩) (fun m hm=>?_) (fun b u e=>?_) I.bare
 ·obtain⟨f0,f1,f2,f3,f4,f5⟩:=hf b hb;exact⟨f3,f1,f4,f5⟩
 ·obtain⟨o,es,ep,ho,r⟩:=hm;exact⟨o,es,ep,k _ o (fun z=>(hf _ z).2.1 rfl) ho,r⟩
 ·by_cases hb:b=T
  ·subst hb;rw[ar]at e;cases e;exact new
  ·rw[ak hb]at e;exact(I1.hok b u e).la (fun c v _ q=>q) (fun c q=>by rw[ak (nH c _ q)];exact q) fun c xs q=>by rw[ak (nH c _ q)];exact q
end
noncomputable def Ite(Sq:Hp->List V->Prop):It :=
 ⟨fun i H=>∃xs x,Sq H xs/\xs[i]?=some x,fun i H x H'=>∃p,H p=none/\x=.ref p/\∀xs v,Sq H xs->xs[i]?=some v->H'=upd H p (.tup [.int i,v]),fun i H=>∃xs,Sq H xs/\xs.length<=i⟩
theorem kH{P:Program}{w:World}{K:PySem.W.Frag}{es:List Expr}{kx}{ps:Pos}(Sq:Hp->List V->Prop)(a e it:Addr)(hei:e≠it)(At:Nat->Heap->Prop)(Is:Heap->Array Value->Prop)
  (hat:∀i h h',At i h->(∀o,h.get? it=some o->h'.get? it=some o)->At i h') (hao:∀i h,At i h->∃o,h.get? it=some o/\∀v,o.data≠.cell v)
  (hsq:∀(X:Cx) (pins:List (Addr×Obj)) (s:Shared) (σ:St) (H:Hp) (xs:List V),X.K=K->Inv X pins σ H s->Sq H xs->∃its:List Value,Vals xs its/\Is s.heap its.toArray)
  (hinj:∀(X:Cx) (pins:List (Addr×Obj)) (s:Shared) (σ:St) (H:Hp) (xs ys:List V),X.K=K->Inv X pins σ H s->Sq H xs->Sq H ys->xs=ys)
  (hea:∀h items i old,Is h items->IsEnum h e it i old->e≠a)
  (hD:∀(A:Around) (items:Array Value),A.handled=none->Draws P w A it [it,a] items.size (fun i v=>items[i]?=some v) (fun i h=>At i h/\Is h items))
  (hend:∀(A:Around) (s:Shared) (i:Nat) (items:Array Value) (Q:Value->Shared->Prop) (E:Value->Shared->Prop),A.handled=none->At i s.heap->Is s.heap items->items[i]?=none ->
   (∀h' x,Heap.ExtBut it s.heap h'->(∃o,h'.get? x=some o/\o.cls=.type "StopIteration")->E (.ref x) {s with heap:=h' })->wpAny (model P w) A (Builtin.SmallTypes.nextOf (.ref it)) Q E s) :
  Turn P w K (.Tuple es kx ps) (Ite Sq) [e,it] e (fun i h=>(∃old,IsEnum h e it i old)/\At i h) where
 mem:=by simp
 obj:=fun i h st b hb=>by
  obtain⟨⟨old,he⟩,hl⟩:=st;rcases List.mem_cons.mp hb with z|z
  ·rw[z];exact⟨_,he,fun v z=>by
    have z':Data.fields _=Data.cell v:=z;cases z'⟩
  ·rw[List.mem_singleton.mp z];exact hao i h hl
 keep:=fun i h h' ⟨⟨old,he⟩,hl⟩ k=>⟨⟨old,k e (by simp) _ he⟩,hat i h h' hl fun o q=>k it (by simp) o q⟩
 item:=by
  intro X hP hw hK hc i pins s σ H E I hf ⟨⟨old,he⟩,hl⟩ hg;subst hP hw;obtain⟨xs,x,hq,hx⟩:=hg;obtain⟨its,rv,p⟩:=hsq X pins s σ H xs hK I hq;obtain⟨u,hu,ru⟩:=rv.get hx;have hlt:i<its.toArray.size:=by simpa using(List.getElem?_eq_some_iff.mp hu).1
  have D:=hD X.A.in1 its.toArray (by simpa using I.ok.hd hc);have hea':=hea _ _ _ _ p he;refine wpAny_pyNext_enum_itemD D he ⟨hl,p⟩ hlt hei (by simp[hei,hea']) fun y h1 tk hy ho st1 hT hsz hk=>?_;have ey:y=u:=by
   have:its.toArray[i]?=some u:=by simpa using hu
   rw[this]at hy;cases hy;rfl
  subst ey;refine⟨_,rfl,wpAny_letOwnedTupleGo_enum (s:={s with heap:=h1,toks:=tk+1}) ho fun h2 he2 hs2=>?_⟩;have heS:e<s.heap.objs.size:=Heap.lt_size he;have hT2:h2.get? s.heap.objs.size=some {cls:=.type "tuple",data:=.seq #[.int i tk,y]}:=(hs2.2 _ (Nat.ne_of_gt heS)).trans hT;have k2:∀b o,b∉[e,it]->s.heap.get? b=some o->h2.get? b=some o:=fun b o hb q=>by
   simp only[List.mem_cons,List.not_mem_nil,or_false,not_or]at hb;exact(hs2.2 b hb.1).trans (hk b o hb.1 hb.2 q)
  have I2:Inv X pins σ (upd H s.heap.objs.size (.tup [.int i,x])) {s with heap:=h2,toks:=tk+1}:=I.oH hf k2 (Nat.le_refl _)
   (show bE X.prog X.w _ h2 _ (.tup [.int i,x]) from⟨by show 2<=sizeLine;decide,[.int i tk,y],.cons ⟨tk,rfl⟩ (.cons ru .nil),⟨_,hT2,rfl,_,rfl⟩⟩)
  refine⟨.ref s.heap.objs.size,_,I2,rfl,⟨_,I.hok.fresh (Nat.le_refl _),rfl,fun ys v hy hv=>?_⟩,⟨⟨_,he2⟩,hat (i+1) h1 h2 st1.1 fun o q=>(hs2.2 it (Ne.symm hei)).trans q⟩,fun b hb=>?_⟩
  ·have:=hinj X pins s σ H ys xs hK I hy hq;subst this;rw[hx]at hv;cases hv;rfl
  ·have hb':b≠s.heap.objs.size:=by
    rcases List.mem_cons.mp hb with z|z
    ·rw[z];exact Nat.ne_of_lt heS
    ·rw[List.mem_singleton.mp z];obtain⟨o,q,_⟩:=hao i _ hl;exact Nat.ne_of_lt (Heap.lt_size q)
   rw[ak hb'];exact(hf b hb).1
 done:=by
  intro X hP hw hK hc i pins s σ H E I hf ⟨⟨old,he⟩,hl⟩ hg;subst hP hw;obtain⟨xs,hq,hx⟩:=hg;obtain⟨its,rv,p⟩:=hsq X pins s σ H xs hK I hq;have hlen:=rv.length;have hT:s.TypeIs (.ref e) "enumerate":=⟨_,he,rfl⟩
  unfold pyNext;refine wpAny_bind (wpAny_attempt (wpAny_callSpecial?_slot (name:=Str.ofString "__next__") hT PySem.F.slot_enumerate_next
   (wpAny_call_entry PySem.F.slot_enumerate_next hT PySem.F.entry_enumerate_next ?_ (PySem.F.args_enumerate_next_1 _))))
  show wpAny _ _ (field (.ref e) 2 >>= _) _ _ _;refine wpAny_bind (wpAny_field he rfl (x:=.ref it) rfl ?_);refine wpAny_bind (hend _ _ i its.toArray _ _ (by simpa using I.ok.hd hc) hl p (by simp;omega) fun h' x he' hx'=>?_);obtain⟨o,ho,hcl⟩:=hx';refine wpAny_bind (wpAny_isInstance (T:="StopIteration") (b:=true) ⟨o,ho,hcl⟩ isSubtype_stop ?_);refine wpAny_pure ⟨rfl,I.qb (t':=s.toks) (ch:=[it]) (fun b hb=>hf b (List.mem_cons_of_mem _ hb)) fun b o hb q=>he' b o (fun z=>hb (by simp[z])) q⟩
 self:=fun A i s Q E ⟨⟨old,he⟩,hl⟩ h=>wpAny_pyIter_enum he h
section
variable{X:Cx}{es:List Expr}{kx:Nat}{ps p pos:Pos}
theorem rq:bootBuiltins "enumerate"=some (.type "enumerate"):=by decide +kernel
noncomputable def Bt(K:PySem.W.Frag)(ta:TA):TI:=fun σ H R=>ta σ H fun vs H1=>∃a,vs=[.ref a]/\((∃xs,SqL K H1 a xs)/\R (Ite fun H xs=>SqL K H a xs) H1\/(∃xs,SqT K H1 a xs)/\R (Ite fun H xs=>SqT K H a xs) H1)
theorem yq(a e it:Addr)(hei:e≠it)(hia:a≠it):Turn X.prog X.w X.K (.Tuple es kx ps) (Ite fun H xs=>SqL X.K H a xs) [e,it] e (fun i h=>(∃old,IsEnum h e it i old)/\h.IsListIter it a i):=by
 refine kH _ a e it hei (fun i h=>h.IsListIter it a i) (fun h items=>h.IsList a items) (fun i h h' x k=>x.at k) (fun i h ⟨o,ho,hc,hd⟩=>⟨o,ho,fun v z=>by rw[hd]at z;cases z⟩)
  (fun Y pins s σ H xs hK I hq=>?_) (fun Y pins s σ H xs ys hK I hx hy=>?_) (fun h items i old ⟨o,ho,hc,_⟩ he z=>?_) (fun A items hh=>Draws.list hh it a hia items) (fun A s i items Q E hh hl hp hx hE=>wpAny_nextOf_list_end hh hl hp hx hE)
 ·rw[<-hK]at hq;obtain⟨its,rv,p,hz⟩:=I.list hq;exact⟨its,rv,p.isList⟩
 ·rw[<-hK]at hx hy;exact I.iP hx hy
 ·rw[<-z,he]at ho;cases ho;have hc':Value.type "enumerate"=Value.type "list":=hc;exact absurd hc' (by decide)
theorem yr(a e it:Addr)(hei:e≠it)(hia:a≠it):Turn X.prog X.w X.K (.Tuple es kx ps) (Ite fun H xs=>SqT X.K H a xs) [e,it] e (fun i h=>(∃old,IsEnum h e it i old)/\h.IsTupleIter it a i):=by
 refine kH _ a e it hei (fun i h=>h.IsTupleIter it a i) (fun h items=>h.IsTuple a items) (fun i h h' x k=>x.at k) (fun i h ⟨o,ho,hc,hd⟩=>⟨o,ho,fun v z=>by rw[hd]at z;cases z⟩)
  (fun Y pins s σ H xs hK I hq=>?_) (fun Y pins s σ H xs ys hK I hx hy=>?_) (fun h items i old ⟨o,ho,hc,_⟩ he z=>?_) (fun A items hh=>nh hh it a hia items) (fun A s i items Q E hh hl hp hx hE=>dr hh hl hp hx hE)
 ·rw[<-hK]at hq;obtain⟨its,rv,p,hz⟩:=I.tuple hq;exact⟨its,rv,p⟩
 ·rw[<-hK]at hx hy;exact I.eS hx hy
 ·rw[<-z,he]at ho;cases ho;have hc':Value.type "enumerate"=Value.type "tuple":=hc;exact absurd hc' (by decide)
theorem vJ{a:Expr}{ta:TA}(hg:Gl X "enumerate")(hm:X.mg "enumerate"=none)(ha:PA X [a] ta)(hs:starEach [a] X.env=[(false,eval a X.env)]):PI X (.Tuple es kx ps) (.Call (.Name "enumerate" p) [a] [] pos) (Bt X.K ta):=by
 intro pins s σ H R I h;refine Call_ (dz I hg hm rq (PyProof.Rows.callWith_type1 (thn (ha pos pins s σ H _ I h) fun us s1 ⟨vs,H1,I1,r1,q1⟩=>?_) hs rfl));obtain⟨a',e,q⟩:=q1;subst e;obtain⟨u,rfl,r⟩:=vals1 r1;cases r;have ne1:s1.heap.objs.size+1≠s1.heap.objs.size:=Nat.succ_ne_self _;have fin:∀(h':Heap),(∀b∈[s1.heap.objs.size+1,s1.heap.objs.size],fK X pins H1 b):=fun h' b hb=>by
  have hb':s1.heap.objs.size<=b:=by
   rcases List.mem_cons.mp hb with z|z
   ·rw[z];exact Nat.le_succ _
   ·rw[List.mem_singleton.mp z];exact Nat.le_refl _
  exact I1.vb hb' (I1.hok.fresh hb')
 rcases q with⟨⟨xs,hq⟩,q⟩|⟨⟨xs,hq⟩,q⟩
 ·obtain⟨its,rv,p,hz⟩:=I1.list hq;have hlt:a'<s1.heap.objs.size:=let ⟨o,ho,_⟩:=p.isList;Heap.lt_size ho;refine call_enumerate_list p.isList fun h' he hl hsz hk=>?_;refine wpAny_pyIter_enum he ⟨_,[s1.heap.objs.size+1,s1.heap.objs.size],_,_,H1,rfl,I1.kept (t':=s1.toks) hk,yq a' _ _ ne1 (Nat.ne_of_lt hlt),⟨⟨_,he⟩,hl⟩,fin h',q⟩
 ·obtain⟨its,rv,p,hz⟩:=I1.tuple hq;have hlt:a'<s1.heap.objs.size:=let ⟨o,ho,_⟩:=p;Heap.lt_size ho;refine eC p fun h' he hl hsz hk=>?_;refine wpAny_pyIter_enum he ⟨_,[s1.heap.objs.size+1,s1.heap.objs.size],_,_,H1,rfl,I1.kept (t':=s1.toks) hk,yr a' _ _ ne1 (Nat.ne_of_lt hlt),⟨⟨_,he⟩,hl⟩,fin h',q⟩
variable{pins:List (Addr×Obj)}{σ:List (Option V)}{H:Hp}{s:Shared}
end
end L2
namespace L2
open PySem PySem.Spec PyProof.Rows
theorem rA(l:Addr)(items:Array Value)(n:Nat)(b:Addr)(items2:Array Value)(n2:Nat)(dd:Option Addr)(sl:Array (Option Value))(hs0:¬(!items.isEmpty&&Builtin.List.listTooLong (items.size+items2.size))=true)(hs1:items.size<=sizeLine)(hs2:items.size+items2.size<=sizeLine+1):
  Meets (Builtin.«list.extend» ⟨[.ref l,.ref b],[]⟩) (fun _ R s=>s.heap.get? l=some {cls:=.type "list",dict:=none,data:=.seq items n,slots:=#[]}/\s.heap.get? b=some {cls:=.type "list",dict:=dd,data:=.seq items2 n2,slots:=sl}/\R (.ok (.ret Value.none)) {s with heap:=s.heap.update l (Obj.mapSeq fun x=>x++items2),toks:=s.toks}) :=
 .of_wp fun prog w A R s h=>by
  obtain⟨hp,g,d,tk,os⟩:=s;obtain⟨hl,hb,h⟩:=h;have f1:=AutoSeq1.idx_int;have f2:=AutoSeq1.sub_tuple_tuple;have f3:=AutoSeq1.sub_list_list;have f4:=AutoSeq1.sub_tuple_list;have f5:=AutoSeq1.sub_list_tuple;
  have hz':(items++items2).size<=sizeLine+1:=by rw[Array.size_append];exact hs2
  wp_walk using(wpAny_updateSeq hl rfl (hz:=hs1) (_hz':=hz')),AutoSeq1.wpAny_loadPart' hl,AutoSeq1.wpAny_loadPart' hb;exact⟨_,rfl,h⟩
theorem rB(l:Addr)(items:Array Value)(n:Nat)(b:Addr)(items2:Array Value)(n2:Nat)(dd:Option Addr)(sl:Array (Option Value))(hs0:¬(!items.isEmpty&&Builtin.List.listTooLong (items.size+items2.size))=true)(hs1:items.size<=sizeLine)(hs2:items.size+items2.size<=sizeLine+1):
  Meets (Builtin.«list.extend» ⟨[.ref l,.ref b],[]⟩) (fun _ R s=>s.heap.get? l=some {cls:=.type "list",dict:=none,data:=.seq items n,slots:=#[]}/\s.heap.get? b=some {cls:=.type "tuple",dict:=dd,data:=.seq items2 n2,slots:=sl}/\R (.ok (.ret Value.none)) {s with heap:=s.heap.update l (Obj.mapSeq fun x=>x++items2),toks:=s.toks}) :=
 .of_wp fun prog w A R s h=>by
  obtain⟨hp,g,d,tk,os⟩:=s;obtain⟨hl,hb,h⟩:=h;have f1:=AutoSeq1.idx_int;have f2:=AutoSeq1.sub_tuple_tuple;have f3:=AutoSeq1.sub_list_list;have f4:=AutoSeq1.sub_tuple_list;have f5:=AutoSeq1.sub_list_tuple;
  have hz':(items++items2).size<=sizeLine+1:=by rw[Array.size_append];exact hs2
  wp_walk using(wpAny_updateSeq hl rfl (hz:=hs1) (_hz':=hz')),AutoSeq1.wpAny_loadPart' hl,AutoSeq1.wpAny_loadPart' hb;exact⟨_,rfl,h⟩
section
variable{X:Cx}{pins:List (Addr×Obj)}{σ:List (Option V)}{H:Hp}{s:Shared}
theorem oI:MtM X "list.extend" (fun x vs H Q=>∃l b xs zs,x=.ref l/\vs=[.ref b]/\H l=some (.lst xs)/\(SqL X.K H b zs\/SqT X.K H b zs)/\xs.length+zs.length<=sizeLine/\Q .non (upd H l (.lst (xs++zs)))):=by
 intro pins s σ H x vs v us Q I rx rv h;obtain⟨l,b,xs,zs,rfl,rfl,hH,hB,hz,q⟩:=h;cases rx;obtain⟨u,rfl,ru⟩:=rv.one;cases ru;obtain⟨z,its,n,r,hl,e⟩:=I.yb hH;have fin:∀its2:List Value,Vals zs its2->EP X pins σ Q Value.none {s with heap:=s.heap.update l (Obj.mapSeq fun x=>x++its2.toArray),toks:=s.toks}:=fun its2 r2=>by
  refine⟨.non,_,I.j3 (its':=its++its2) hH e (by simp) (r.append r2) ?_,rfl,q⟩;rw[List.length_append];omega
 have sz:∀its2:List Value,zs.length=its2.length->its.toArray.size+its2.toArray.size<=sizeLine:=fun its2 h=>by rw[List.size_toArray,List.size_toArray];omega
 have lg:∀its2:List Value,zs.length=its2.length->¬(!its.toArray.isEmpty&&Builtin.List.listTooLong (its.toArray.size+its2.toArray.size))=true:=fun its2 h=>by
  rw[sN (sz its2 h),Bool.and_false];exact Bool.false_ne_true
 rcases hB with hB|hB
 ·obtain⟨its2,r2,pl,_⟩:=I.list hB;obtain⟨⟨cls,dd,data,sl⟩,ho,hc,n2,hd⟩:=pl.isList;simp only at hc hd;subst hc hd;have hl2:=r2.length;have h1:=sz its2 hl2;exact call_meets F.slot_list_extend ⟨_,e,rfl⟩ F.entry_list_extend (F.args_list_extend_2 _ _) (rA l its.toArray n b its2.toArray n2 dd sl (lg its2 hl2) (by omega) (by omega)) ⟨e,ho,fin its2 r2⟩
 ·obtain⟨its2,r2,pl,_⟩:=I.tuple hB;obtain⟨⟨cls,dd,data,sl⟩,ho,hc,n2,hd⟩:=pl;simp only at hc hd;subst hc hd;have hl2:=r2.length;have h1:=sz its2 hl2;exact call_meets F.slot_list_extend ⟨_,e,rfl⟩ F.entry_list_extend (F.args_list_extend_2 _ _) (rB l its.toArray n b its2.toArray n2 dd sl (lg its2 hl2) (by omega) (by omega)) ⟨e,ho,fin its2 r2⟩
end
end L2
namespace L2
open PySem PySem.W PyProof.Rows
noncomputable def fB{α:Type}(lt:Nat->Nat->Bool):KasT α->α
 |.ret x=>x
 |.ask i j k=>fB lt (k (lt i j))
noncomputable def InT{α:Type}(n:Nat)(P:α->Prop):KasT α->Prop
 |.ret x=>P x
 |.ask i j k=>i<n/\j<n/\∀b,InT n P (k b)
theorem InT.bnd{α β:Type}{n:Nat}{P:α->Prop}{Q:β->Prop}{f:α->KasT β}(hf:∀x,P x->InT n Q (f x)):∀{t:KasT α},InT n P t->InT n Q (t.bind f)
 |.ret x,h=>hf x h
 |.ask i j k,h=>⟨h.1,h.2.1,fun b=>InT.bnd hf (h.2.2 b)⟩
theorem InT.got{α:Type}{n:Nat}{P:α->Prop}{lt:Nat->Nat->Bool}:∀{t:KasT α},InT n P t->P (fB lt t)
 |.ret _,h=>h
 |.ask i j k,h=>InT.got (t:=k (lt i j)) (h.2.2 _)
theorem InT.wp{α:Type}{n:Nat}{P:α->Prop}{lt:Nat->Nat->Bool}{s:Shared}{cmp:Nat->Nat->(Bool->Shared->Prop)->Shared->Prop}(hc:∀i j,i<n->j<n->∀C:Bool->Shared->Prop,C (lt i j) s->cmp i j C s){Q:α->Shared->Prop}:
  ∀{t:KasT α},InT n P t->Q (fB lt t) s->t.kasWp cmp Q s
 |.ret _,_,q=>q
 |.ask i j k,h,q=>hc i j h.1 h.2.1 _ (InT.wp hc (t:=k (lt i j)) (h.2.2 _) q)
noncomputable def Pm(n:Nat)(p:Array Nat):Prop:=p.toList.Perm (List.range n)
section
variable{n:Nat}(hn:0<n)
include hn
theorem Pm.at{p:Array Nat}(h:Pm n p)(i:Nat):p.getD i 0<n:=by
 by_cases hi:i<p.size
 ·have:p.getD i 0=p[i]:=by simp[Array.getD,hi]
  rw[this];have hm:p[i]∈p.toList:=by simp
  exact List.mem_range.mp (h.mem_iff.mp hm)
 ·have:p.getD i 0=0:=by simp[Array.getD,hi]
  rw[this];exact hn
omit hn in
theorem Pm.rev{p:Array Nat}(h:Pm n p)(i j:Nat):Pm n (kas_rev p i j):=(mirror_perm p i j _).toList.trans h
omit hn in
theorem Pm.bub{p:Array Nat}(h:Pm n p)(i j:Nat):Pm n (bubble p i j):=(bubble_perm p i j).toList.trans h
theorem oJ{p:Array Nat}(h:Pm n p):∀(f m:Nat),InT n (fun _=>True) (kas_asc p f m)
 |0,m=>trivial
 |f+1,m=>⟨h.at hn _,h.at hn _,fun b=>by
  cases b
  ·exact oJ h f (m+1)
  ·exact trivial⟩
theorem iG:∀(f:Nat) (p:Array Nat) (m q:Nat),Pm n p->InT n (fun r=>Pm n r.1) (kas_desc f p m q)
 |0,p,m,q,h=>h
 |f+1,p,m,q,h=>⟨h.at hn _,h.at hn _,fun b=>by
  cases b
  ·exact⟨h.at hn _,h.at hn _,fun b=>by
    cases b
    ·exact iG f p (m+1) (q+1) h
    ·exact h⟩
  ·show InT n _ (if q>0 then _ else _);split
   ·exact iG f _ _ _ (h.rev _ _)
   ·exact iG f _ _ _ h⟩
theorem qc{p:Array Nat}(h:Pm n p)(m r:Nat):InT n (fun x=>Pm n x.2) (kas_tail3 m r p):=by
 unfold kas_tail3;refine InT.bnd (fun x _=>?_) (oJ hn (h.rev _ _) _ _);exact h.rev _ _
theorem qd{p:Array Nat}(h:Pm n p)(m r:Nat):InT n (fun x=>Pm n x.2) (kas_descPart m r p):=by
 unfold kas_descPart;refine InT.bnd (fun x hx=>?_) (iG hn _ _ _ _ h);split
 ·exact qc hn (hx.rev _ _) _ _
 ·exact qc hn hx _ _
theorem tF{p:Array Nat}(h:Pm n p)(r:Nat):InT n (fun x=>Pm n x.2) (kas_count r p):=by
 unfold kas_count;refine InT.bnd (fun m _=>?_) (oJ hn h _ _);split
 ·exact h
 ·split
  ·exact⟨h.at hn _,h.at hn _,fun b=>by
    cases b
    ·exact qd hn (h.rev _ _) _ _
    ·exact h⟩
  ·exact qd hn h _ _
theorem jo{p:Array Nat}(h:Pm n p)(k:Nat):∀(f l r:Nat),InT n (fun _=>True) (kas_place p k f l r)
 |0,l,r=>trivial
 |f+1,l,r=>by
  unfold kas_place;split
  ·exact trivial
  ·exact⟨h.at hn _,h.at hn _,fun b=>by
    cases b
    ·exact jo h k f _ _
    ·exact jo h k f _ _⟩
theorem tH:∀(f:Nat) (p:Array Nat) (k:Nat),Pm n p->InT n (Pm n) (kas_bin f p k)
 |0,p,k,h=>h
 |f+1,p,k,h=>InT.bnd (fun l _=>tH f _ _ (h.bub _ _)) (jo hn h _ _ _ _)
theorem qe:InT n (Pm n) (kas_sort n):=by
 unfold kas_sort;refine InT.bnd (fun x hx=>?_) (tF hn (p:=List.toArray (List.range n)) (by unfold Pm;simp) n);split
 ·exact tH hn _ _ _ hx
 ·exact hx
end
theorem jq(lt:Nat->Nat->Bool)(n:Nat):(fB lt (kas_sort n)).toList.Perm (List.range n):=by
 cases n with
 |zero=>exact List.Perm.refl _
 |succ n=>exact(qe (Nat.succ_pos n)).got
end L2
namespace L2
open PySem PySem.W PyProof.Rows
section
variable{prog:Program}{w:World}{A:Around}{E:Value->Shared->Prop}{s:Shared}
theorem rC{a:Addr}{vs:List Value}{n:Nat}{P:PySem.Fin->Shared->Prop}{lt:Nat->Nat->Bool}(ho:s.heap.get? a=some (seqObj "list" vs.toArray n))(h64:vs.length<64)
  (hkk:2<=vs.length->∀s1:Shared,(∀b o,b≠a->s.heap.get? b=some o->s1.heap.get? b=some o)->wpAny (model prog w) A (keyKind' vs.toArray) (fun κ s'=>s'=s1/\∀i j,i<vs.length->j<vs.length->∀C:Bool->Shared->Prop,C (lt i j) s1->kas_ask prog w A κ vs i j C s1) (fun _ _=>False) s1)
  (h:P (.done (.ret .none)) {s with heap:=sortedHeap s.heap a vs (((fB lt (kas_sort vs.length)).toList.map fun i=>vs.getD i Value.none).toArray)}) :
  wpAny (model prog w) A (Builtin.«list.sort» ⟨[.ref a],[]⟩) P E s:=by
 have ha:a<s.heap.objs.size:=Heap.lt_size ho;have big:(64:Nat)<=sizeLine:=by decide
 rw[list_sort_plain];refine wpAny_bind (listItems_at ho rfl (wpAny_bind (listUpdate_at ho rfl ?_ (by rw[List.size_toArray];omega) (Nat.zero_le _))));obtain⟨e1,ho1⟩:∃e1,(s.heap.update a (Obj.mapSeq fun _=>(#[]:Array Value))).get? a=some (seqObj "list" #[] e1):=⟨_,get?_update_seq ho fun _=>#[]⟩
 refine wpAny_bind (seqEpoch_at ho1 rfl (wpAny_bind (wpAny_newTuple (wpAny_bind (wpAny_newList (wpAny_holding ?_) (Nat.zero_le _))) (by show vs.length<=_;omega))));have ho6:(((s.heap.update a (Obj.mapSeq fun _=>(#[]:Array Value))).push (seqObj "tuple" vs.toArray 0)).push (seqObj "list" #[] 0)).get? a=some (seqObj "list" #[] e1):=Heap.get?_push_of_some _ (Heap.get?_push_of_some _ ho1);have old:∀b o,b≠a->s.heap.get? b=some o->(((s.heap.update a (Obj.mapSeq fun _=>(#[]:Array Value))).push (seqObj "tuple" vs.toArray 0)).push (seqObj "list" #[] 0)).get? b=some o:=fun b o hb e =>
  Heap.get?_push_of_some _ (Heap.get?_push_of_some _ (by rw[Heap.get?_update_ne _ _ _ _ hb];exact e))
 show wpAny (model prog w) A _ P E {s with heap:=((s.heap.update a (Obj.mapSeq fun _=>(#[]:Array Value))).push (seqObj "tuple" vs.toArray 0)).push (seqObj "list" #[] 0)}
 dsimp only
 have plen:((fB lt (kas_sort vs.length)).toList.map fun i=>vs.getD i Value.none).length=vs.length:=by rw[List.length_map,(jq lt _).length_eq,List.length_range]
 by_cases h2:vs.toArray.size<2
 ·rw[if_pos h2,if_pos h2];refine wpAny_bind (wpAny_pure ?_);rw[StateT.run_pure];refine wpAny_bind (wpAny_pure ?_);have eo:((fB lt (kas_sort vs.length)).toList.map fun i=>vs.getD i Value.none).toArray=(vs.toArray.zip vs.toArray).map (·.2):=by
   have hp:=jq lt vs.length;clear h hkk plen old ho6 ho h64
   match vs,h2,hp with
   |[],_,hp=>rw[show(fB lt (kas_sort ([]:List Value).length)).toList=[] from List.perm_nil.mp hp];simp
   |[v],_,hp=>rw[show(fB lt (kas_sort [v].length)).toList=[0] from List.perm_singleton.mp hp];simp
   |_::_::_,h2,_=>simp at h2;omega
  rw[eo]at h
  dsimp only
  refine wpAny_bind (seqEpoch_at ho6 rfl (wpAny_bind (listUpdate_at ho6 rfl ?_ (Nat.zero_le _) (by rw[Array.size_map];show(pairsOf vs).size<=_;rw[pairsOf_size];omega))));simp only[bne_self_eq_false,Bool.false_eq_true,if_false];exact wpAny_pure h
 ·rw[if_neg h2,if_neg h2];have h2':2<=vs.length:=by rw[List.size_toArray]at h2;omega
  refine wpAny_bind (wpAny_mono (hkk h2' _ old) (fun κ s0 hk=>?_) fun _ _ x=>x.elim);obtain⟨rfl,hk⟩:=hk;refine wpAny_bind (wpAny_mono (kat_run (κ:=κ) (ks:=vs) (vs:=vs) (G:=fun p s'=>p=fB lt (kas_sort vs.length)/\s'={s with heap:=((s.heap.update a (Obj.mapSeq fun _=>(#[]:Array Value))).push (seqObj "tuple" vs.toArray 0)).push (seqObj "list" #[] 0)})
   (Q:=fun st' s'=>∃p:Array Nat,arrOf st'=p.map (kas_item (vs.toArray.zip vs.toArray))/\failedOf st'=none/\p=fB lt (kas_sort vs.length)/\s'={s with heap:=((s.heap.update a (Obj.mapSeq fun _=>(#[]:Array Value))).push (seqObj "tuple" vs.toArray 0)).push (seqObj "list" #[] 0)})
   rfl h2' h64 (fun p st' s' a1 a2 a3 a4=>⟨p,a2,a3,a4⟩) (InT.wp hk (qe (by omega)) ⟨rfl,rfl⟩)) ?_ fun _ _ e=>e)
  rintro⟨⟨⟩,st'⟩ s' ⟨p,har,hf,rfl,rfl⟩
  dsimp only
  have hout:=kat_snds rfl har;rw[hout,hf];refine wpAny_bind (seqEpoch_at ho6 rfl (wpAny_bind (listUpdate_at ho6 rfl ?_ (Nat.zero_le _) (by rw[List.size_toArray,plen];omega))));simp only[bne_self_eq_false,Bool.false_eq_true,if_false];exact wpAny_pure h
end
end L2
namespace L2
open PySem PySem.W PyProof.Rows
noncomputable abbrev lM:=Str×Int
noncomputable def kLt(ks:List Str)(i j:Nat):Bool:=decide ((ks.getD i Str.empty).cps.toList<(ks.getD j Str.empty).cps.toList)
noncomputable def iw(ks:List Str):List Nat:=(fB (kLt ks) (kas_sort ks.length)).toList
theorem eV(ks:List Str):(iw ks).Perm (List.range ks.length):=jq _ _
noncomputable def Ab(x:Str)(n:Int)(t u:Tok):Obj:={cls:=.type "tuple",data:=.seq #[.str x t,.int n u]}
noncomputable def d4(h:Heap)(as:List Addr)(ps:List lM):Prop:=as.length=ps.length/\∀(j:Nat) (a:Addr),as[j]?=some a->∃p t u,ps[j]?=some p/\h.get? a=some (Ab p.1 p.2 t u)
theorem d4.keeps{h h':Heap}{as:List Addr}{ps:List lM}(x:d4 h as ps)(k:∀b o,b∈as->h.get? b=some o->h'.get? b=some o):d4 h' as ps :=
 ⟨x.1,fun j a e=>let ⟨p,t,u,e1,e2⟩:=x.2 j a e;⟨p,t,u,e1,k a _ (List.mem_of_getElem? e) e2⟩⟩
theorem d4.tail{h:Heap}{a:Addr}{as:List Addr}{p:lM}{ps:List lM}(x:d4 h (a::as) (p::ps)):d4 h as ps :=
 ⟨by have:=x.1;simpa using this,fun j b e=>by
  obtain⟨q,t,u,e1,e2⟩:=x.2 (j+1) b (by simpa using e);exact⟨q,t,u,by simpa using e1,e2⟩⟩
theorem d4.iy{h:Heap}:∀{as:List Addr}{ps:List lM},d4 h as ps->∃fs:List Value,KatTups h (as.map Value.ref) fs/\fs.length=as.length/\∀v∈fs,∃x t,v=Value.str x t
 |[],_,_=>⟨[],KatTups.nil,rfl,by simp⟩
 |a::as,[],x=>by have:=x.1;simp at this
 |a::as,p::ps,x=>by
  obtain⟨fs,h1,h2,h3⟩:=d4.iy x.tail;obtain⟨q,t,u,e1,e2⟩:=x.2 0 a rfl;refine⟨.str q.1 t::fs,KatTups.cons e2 rfl rfl rfl h1,by simp[h2],fun v hv=>?_⟩;rcases List.mem_cons.mp hv with rfl|hv
  ·exact⟨_,_,rfl⟩
  ·exact h3 v hv
theorem kI{α β:Type}{F:α->β->Prop}:∀{l:List α}{m:List β}{i:Nat}{x:α},Paired F l m->l[i]?=some x->∃y,m[i]?=some y/\F x y
 |_,_,_,_,.nil,e=>by simp at e
 |_,_,0,_,.cons r _,e=>by simp at e;subst e;exact⟨_,rfl,r⟩
 |_,_,i+1,x,.cons _ t,e=>by
  obtain⟨u,h1,h2⟩:=kI (i:=i) (x:=x) t (by simpa using e);exact⟨u,by simpa using h1,h2⟩
section
variable{prog:Program}{w:World}{A:Around}{E:Value->Shared->Prop}{s:Shared}
theorem yt{as:List Addr}{ps:List lM}{C:Bool->Shared->Prop}(x:d4 s.heap as ps)(hnd:(ps.map (·.1)).Nodup){i j:Nat}(hi:i<as.length)(hj:j<as.length)(q:C (kLt (ps.map (·.1)) i j) s):
  kas_ask prog w A (tuples' true) (as.map Value.ref) i j C s:=by
 obtain⟨p,t,u,e1,e2⟩:=x.2 i as[i] (by simp[hi]);obtain⟨p',t',u',e1',e2'⟩:=x.2 j as[j] (by simp[hj]);have hl:=x.1;have hip:i<ps.length:=by omega
 have hjp:j<ps.length:=by omega
 have gi:(as.map Value.ref).getD i Value.none=.ref as[i]:=by simp[List.getD,hi]
 have gj:(as.map Value.ref).getD j Value.none=.ref as[j]:=by simp[List.getD,hj]
 have ki:(ps.map (·.1)).getD i Str.empty=p.1:=by simp[List.getD,e1]
 have kj:(ps.map (·.1)).getD j Str.empty=p'.1:=by simp[List.getD,e1']
 unfold kas_ask;rw[gi,gj];refine kat_lt (b:=true) e2 rfl e2' rfl ?_;unfold kLt at q;rw[ki,kj]at q;show KatLex prog w A true (decide (2<2)) C [(.str p.1 t,.str p'.1 t'),(.int p.2 u,.int p'.2 u')] 0 s;refine kat_cons (wpAny_eqBool_str ?_);by_cases h:p.1=p'.1
 ·have hij:i=j:=by
   have a1:(ps.map (·.1))[i]'(by simpa using hip)=(ps.map (·.1))[j]'(by simpa using hjp):=by
    obtain⟨_,z1⟩:=List.getElem?_eq_some_iff.mp e1;obtain⟨_,z2⟩:=List.getElem?_eq_some_iff.mp e1';simp[z1,z2,h]
   exact(List.getElem_inj hnd).mp a1
  subst hij;rw[e1]at e1';cases e1';rw[decide_eq_true rfl];refine kat_yes (kat_cons (wpAny_eqBool_int ?_));rw[show(p.2==p.2)=true by simp];refine kat_yes (kat_nil ?_);have:decide (p.1.cps.toList<p.1.cps.toList)=false:=decide_eq_false (List.lt_irrefl _);rw[this]at q;exact q
 ·rw[decide_eq_false h];exact kat_no (oneLt_str q)
theorem yu{as:List Addr}{ps:List lM}(x:d4 s.heap as ps)(hnd:(ps.map (·.1)).Nodup)(h2:2<=as.length):
  wpAny (model prog w) A (keyKind' (as.map Value.ref).toArray) (fun κ s'=>s'=s/\∀i j,i<(as.map Value.ref).length->j<(as.map Value.ref).length->∀C:Bool->Shared->Prop,C (kLt (ps.map (·.1)) i j) s->kas_ask prog w A κ (as.map Value.ref) i j C s) (fun _ _=>False) s:=by
 obtain⟨fs,f1,f2,f3⟩:=x.iy;refine kat_kind (T:=.type "str") f1 (by omega) (fun v hv=>?_) rfl ⟨rfl,fun i j hi hj C q=>?_⟩
 ·obtain⟨y,t,rfl⟩:=f3 v hv;exact Looks.of_pure rfl
 ·rw[List.length_map]at hi hj;exact yt x hnd hi hj q
end
noncomputable def iz(H:Hp):List (Addr×List V)->Hp
 |[]=>H
 |(a,vs)::r=>upd (iz H r) a (.tup vs)
theorem jr{H:Hp}:∀{l:List (Addr×List V)}{b:Addr}{o:HO},iz H l b=some o->(∃vs,(b,vs)∈l/\o=.tup vs)\/H b=some o
 |[],b,o,h=>.inr h
 |(a,vs)::r,b,o,h=>by
  by_cases hb:b=a
  ·subst hb;rw[iz,ar]at h;cases h;exact .inl ⟨vs,by simp,rfl⟩
  ·rw[iz,ak hb]at h;rcases jr h with⟨ws,q1,q2⟩|q
   ·exact .inl ⟨ws,by simp[q1],q2⟩
   ·exact .inr q
theorem js{H:Hp}:∀{l:List (Addr×List V)}{b:Addr},(∀p∈l,p.1≠b)->iz H l b=H b
 |[],b,_=>rfl
 |(a,vs)::r,b,h=>by
  rw[iz,ak (Ne.symm (h _ List.mem_cons_self))];exact js fun p hp=>h p (by simp[hp])
theorem qf{H:Hp}:∀{l:List (Addr×List V)}{b:Addr}{vs:List V},(l.map (·.1)).Nodup->(b,vs)∈l->iz H l b=some (.tup vs)
 |(a,ws)::r,b,vs,nd,h=>by
  have nd':a∉r.map (·.1)/\(r.map (·.1)).Nodup:=by simpa using nd
  rcases List.mem_cons.mp h with h|h
  ·cases h;exact ar
  ·have:b≠a:=fun z=>nd'.1 (by rw[<-z];exact List.mem_map.mpr ⟨_,h,rfl⟩);rw[iz,ak this];exact qf nd'.2 h
section
variable{X:Cx}{pins:List (Addr×Obj)}{σ:List (Option V)}{H H':Hp}{s:Shared}{h':Heap}
theorem Inv.many{t':Nat}(I:Inv X pins σ H s)(k:∀b u,s.heap.get? b=some u->h'.get? b=some u)(hH:∀b o,H b=some o->H' b=some o)
  (hn:∀b o,H' b=some o->H b=some o\/(s.heap.objs.size<=b/\bE X.prog X.w H' h' b o)):Inv X pins σ H' {s with heap:=h',toks:=t' }:=by
 refine I.un ⟨fun b u q _ _ _=>k b u q,fun b u q _ _ _=>⟨u.slots,k b u q⟩,fun b u q n _=>?_,fun b u q _=>⟨u,k b u q⟩,fun b xs q=>hH b _ q,fun b u xs q=>hH b _ q,fun b ps q=>⟨#[],by rw[hH b _ q];simp⟩⟩ fun b o e=>?_
 ·cases e:H' b with
  |none=>rfl
  |some o =>
   rcases hn b o e with z|⟨z,_⟩
   ·rw[n]at z;cases z
   ·exact absurd (Nat.lt_of_lt_of_le (Heap.lt_size q) z) (Nat.lt_irrefl _)
 ·rcases hn b o e with z|⟨_,z⟩
  ·exact(I.hok b o z).la (fun c v _ q=>k c v q) (fun c q=>hH c _ q) fun c xs q=>hH c _ q
  ·exact z
noncomputable def prV(p:lM):List V:=[.str p.1,.int p.2]
theorem lN{Q:VK}{d:Addr}{ps:List lM}(hc:X.calm=true)(I:Inv X pins σ H s)(e:H d=some (.dK (ps.map fun p=>((Sum.inr p.1:Key),V.int p.2))))(hnd:(ps.map (·.1)).Nodup)(h64:ps.length<64)
  (q:∀(as:List Addr) (L:Addr),as.length=ps.length->as.Nodup->(∀a∈L::as,H a=none)->L∉as->Q (.ref L) (upd (iz H (as.zip (ps.map prV))) L (.lst ((iw (ps.map (·.1))).map fun i=>V.ref (as.getD i 0))))) :
  wpAny (model X.prog X.w) X.A (call (.builtin "dict.items") [.ref d]) (fun v s1=>wpAny (model X.prog X.w) X.A (call (.builtin "sorted") [v]) (EP X pins σ Q) X.xe s1) X.xe s:=by
 have big:(64:Nat)<=sizeLine:=by decide
 obtain⟨hz,lo,vs,kv,dd⟩:=sR I.hok e;have hlen:vs.length=ps.length:=by
  have:=Paired.length kv;simpa using this.symm
 obtain⟨o,es,ep,hd⟩:=id dd;refine call_meetsIn PySem.F.slot_dict_items (show s.TypeIs (.ref d) "dict" from⟨o,hd.1,hd.2.1.1⟩) PySem.F.entry_dict_items (PySem.F.args_dict_items_1 _) (meets_dict_items (aO X.prog X.w) d lo) ⟨⟨vs,dd⟩,?_⟩;show wpAny (model X.prog X.w) X.A (call (.builtin "sorted") [.ref s.heap.objs.size]) (EP X pins σ Q) X.xe {s with heap:=s.heap.push {cls:=.type "dict_items",data:=.fields #[.ref d]}};have k1:∀b u,s.heap.get? b=some u->(s.heap.push {cls:=.type "dict_items",data:=.fields #[.ref d]}).get? b=some u:=fun b u z=>Heap.get?_push_of_some _ z;have dd1:(s.heap.push {cls:=.type "dict_items",data:=.fields #[.ref d]}).DictOf (aO X.prog X.w) d vs:=⟨o,es,ep,k1 _ _ hd.1,hd.2⟩
 have hat:(s.heap.push {cls:=.type "dict_items",data:=.fields #[.ref d]}).DictAt (aO X.prog X.w) d vs ep:=⟨o,es,k1 _ _ hd.1,hd.2⟩
 refine Calls.call_function_entry kind_sorted plain_sorted entry_sorted (args_sorted1 _) ?_;unfold Builtin.«sorted»;refine wpAny_bind (m:=checkCount "sorted" 1 1 _) (wpAny_pure ?_);refine wpAny_bind (kdx_collect (A:=X.A.in1) (knd:=aO X.prog X.w) (kvs:=vs) (ep:=ep) (I.ok.hd hc) ⟨_,Heap.get?_push_size _ rfl,rfl,rfl⟩ hat (by omega) fun h1 tk as hk hl hG=>?_);have hl':as.length=ps.length:=hl.trans hlen;have above:∀a∈as,s.heap.objs.size<=a:=fun a ha=>by
  have:=hG.above a ha;have z:(s.heap.push {cls:=.type "dict_items",data:=.fields #[.ref d]}).objs.size=s.heap.objs.size+1:=size_push' ..;have this':(s.heap.push {cls:=.type "dict_items",data:=.fields #[.ref d]}).objs.size<a:=this;omega
 have pa:d4 h1 as ps:=⟨hl',fun j a ea=>by
  obtain⟨key,k,x,e1,e2,e3⟩:=hG.pairs j a ea;have hj:j<ps.length:=by rw[<-hl'];exact(List.getElem?_eq_some_iff.mp ea).1
  obtain⟨y,ey,r1,r2⟩:=kI kv (i:=j) (x:=((Sum.inr ps[j].1:Key),V.int ps[j].2)) (by simp[hj]);rw[e1]at ey;cases ey;obtain⟨tx,rfl⟩:∃t,x=.int ps[j].2 t:=r2;have r1':k=Sum.inr ps[j].1:=r1.symm;subst r1';obtain⟨t,rfl⟩:=Value.isStrOf_shape (x:=ps[j].1) (v:=key) e2;exact⟨ps[j],t,tx,by simp[hj],e3⟩⟩
 have nd:as.Nodup:=hG.rise.imp fun h=>Nat.ne_of_lt h;refine wpAny_bind (wpAny_newList ?_ (by rw[List.length_map];omega));have hoL:(h1.push (seqObj "list" (as.map Value.ref).toArray 0)).get? h1.objs.size=some (seqObj "list" (as.map Value.ref).toArray 0):=Heap.get?_push_size _ rfl;show wpAny _ _ _ _ _ {s with heap:=h1.push (seqObj "list" (as.map Value.ref).toArray 0),toks:=tk};have lt1:∀a∈as,a<h1.objs.size:=fun a ha=>hG.there ha;refine wpAny_bind (wpAny_holding (wpAny_call_entry slot_list_sort ⟨_,hoL,rfl⟩ entry_list_sort (rC (lt:=kLt (ps.map (·.1))) hoL (by rw[List.length_map];omega) (fun h2 s1 ks=>?_) ⟨_,rfl,?_⟩) (args_list_sort _)))
 ·refine yu (pa.keeps fun b o hb z=>ks b o (Nat.ne_of_lt (lt1 b hb)) (Heap.get?_push_of_some _ z)) hnd (by rw[List.length_map]at h2;exact h2)
 ·obtain⟨ee,he⟩:=sortedHeap_at (out:=((fB (kLt (ps.map (·.1))) (kas_sort (as.map Value.ref).length)).toList.map fun i=>(as.map Value.ref).getD i Value.none).toArray) hoL;have hold:∀b o,h1.get? b=some o->(sortedHeap (h1.push (seqObj "list" (as.map Value.ref).toArray 0)) h1.objs.size (as.map Value.ref) ((fB (kLt (ps.map (·.1))) (kas_sort (as.map Value.ref).length)).toList.map fun i=>(as.map Value.ref).getD i Value.none).toArray).get? b=some o:=fun b o z=>by
   have hlt:b<h1.objs.size:=Heap.lt_size z;rw[sortedHeap_old (Nat.ne_of_lt hlt) (by rw[size_push'];exact Nat.lt_succ_of_lt hlt)];exact Heap.get?_push_of_some _ z
  have hsz1:s.heap.objs.size<=h1.objs.size:=Nat.le_of_lt (Heap.lt_size (hk _ _ (Heap.get?_push_size _ rfl)));have eP:((fB (kLt (ps.map (·.1))) (kas_sort (as.map Value.ref).length)).toList)=iw (ps.map (·.1)):=by
   unfold iw;rw[List.length_map,List.length_map,hl']
  have hLn:H h1.objs.size=none:=I.hok.fresh hsz1;have hLa:h1.objs.size∉as:=fun z=>Nat.lt_irrefl _ (lt1 _ z);have han:∀a∈as,H a=none:=fun a ha=>I.hok.fresh (above a ha);have hzip:∀{b:Addr} {ws:List V},(b,ws)∈as.zip (ps.map prV)->b∈as:=fun z=>(List.of_mem_zip z).1;refine wpAny_pure ⟨_,rfl,.ref h1.objs.size,upd (iz H (as.zip (ps.map prV))) h1.objs.size (.lst ((iw (ps.map (·.1))).map fun i=>V.ref (as.getD i 0))),?_,rfl,q as _ hl' nd (fun a ha=>?_) hLa⟩
  ·refine I.many (fun b u z=>hold b u (hk b u (k1 b u z))) (fun b o z=>?_) fun b o z=>?_
   ·have n1:b≠h1.objs.size:=fun y=>by rw[y,hLn]at z;cases z
    rw[ak n1,js fun p hp y=>?_]
    ·exact z
    ·have:=han p.1 (hzip (b:=p.1) (ws:=p.2) hp);rw[y,z]at this;cases this
   ·by_cases hb:b=h1.objs.size
    ·subst hb;rw[ar]at z;cases z;refine .inr ⟨hsz1,by rw[List.length_map,(eV _).length_eq,List.length_range,List.length_map];omega,(iw (ps.map (·.1))).map fun i=>(as.map Value.ref).getD i Value.none,ee,?_,?_⟩
     ·have hin:∀i∈iw (ps.map (·.1)),i<as.length:=fun i hi=>by
       have:=List.mem_range.mp ((eV _).mem_iff.mp hi);rw[List.length_map]at this;omega
      generalize iw (ps.map (·.1))=l at hin;induction l with
      |nil=>exact .nil
      |cons i l ih =>
       refine .cons ?_ (ih fun j hj=>hin j (by simp[hj]));have hi:=hin i (by simp);show RelV (.ref (as.getD i 0)) ((as.map Value.ref).getD i Value.none);have:(as.map Value.ref).getD i Value.none=.ref (as.getD i 0):=by simp[List.getD,hi]
       rw[this];rfl
     ·rw[<-eP];exact he
    ·rw[ak hb]at z;rcases jr z with⟨ws,z1,rfl⟩|z1
     ·obtain⟨j,hj,ej⟩:=List.mem_iff_getElem.mp z1;have hja:j<as.length:=by simp at hj;omega
      have hjp:j<ps.length:=by omega
      have ej':as[j]=b/\prV ps[j]=ws:=by simpa using ej
      obtain⟨rfl,rfl⟩:=ej';obtain⟨p,t,u,e1,e2⟩:=pa.2 j as[j] (by simp[hja]);have:p=ps[j]:=by simpa[hjp] using e1.symm
      subst this;exact .inr ⟨above _ (by simp),by show 2<=sizeLine;omega,[.str ps[j].1 t,.int ps[j].2 u],.cons ⟨t,rfl⟩ (.cons ⟨u,rfl⟩ .nil),_,hold _ _ e2,rfl,0,rfl⟩
     ·exact .inl z1
  ·rcases List.mem_cons.mp ha with rfl|ha
   ·exact hLn
   ·exact han a ha
end
end L2
namespace L2
open PySem PySem.W PyProof.Rows
section
variable{X:Cx}
noncomputable def hJ(l:List Int):List Int:=l.mergeSort (fun a b=>decide (a<=b))
theorem dH(l:List Int):(hJ l).Perm l:=List.mergeSort_perm l _
theorem ni(l:List Int):(hJ l).Pairwise (·<=·):=by
 have:=List.pairwise_mergeSort (le:=fun a b:Int=>decide (a<=b)) (fun a b c h1 h2=>by simp at h1 h2 ⊢;omega) (fun a b=>by simp;omega) l;exact this.imp fun h=>by simpa using h
theorem fC:∀{l m:List Int},l.Perm m->l.Pairwise (·<=·)->m.Pairwise (·<=·)->l=m
 |[],m,p,_,_=>by rw[p.nil_eq]
 |a::l,[],p,_,_=>by cases p.eq_nil
 |a::l,b::m,p,h1,h2=>by
  rw[List.pairwise_cons]at h1 h2;have e:a=b:=by
   have ha:=p.subset (List.mem_cons_self ..);have hb:=p.symm.subset (List.mem_cons_self ..);rcases List.mem_cons.mp ha with e|ha
   ·exact e
   rcases List.mem_cons.mp hb with e|hb
   ·exact e.symm
   have:=h1.1 b hb;have:=h2.1 a ha;omega
  subst e;rw[fC (List.Perm.cons_inv p) h1.2 h2.2]
theorem fX:∀{its:List Value}{ns:List Int},IntsAre its ns->Vals (ns.map V.int) its
 |_,_,.nil=>.nil
 |_,_,.cons n t h=>.cons ⟨t,rfl⟩ (fX h)
theorem gG:fL X (.builtin "sorted") (fun xs H Q=>∃(p:Addr) (ns:List Int),xs=[.ref p]/\SqL X.K H p (ns.map V.int)/\ns.length<64/\∀q,H q=none->Q (.ref q) (upd H q (.lst ((hJ ns).map V.int)))):=by
 intro pins s σ H xs us Q I rs h;obtain⟨p,ns,rfl,hq,h64,q⟩:=h;obtain⟨u,rfl,r⟩:=vals1 rs;cases r;obtain⟨its,rv,pl,hz⟩:=I.list hq;have el:its.length=ns.length:=by rw[<-rv.length,List.length_map]
 refine sorted_ints pl.isList (intsAre_of rv) (by omega) fun out ns' a1 a2 a3=>?_;have e:=fC (a2.trans (dH ns).symm) a3 (ni ns);subst e;have hsz:((s.heap.push (seqObj "list" #[] 0)).update s.heap.objs.size (Obj.mapSeq (·++its.toArray))).objs.size=s.heap.objs.size+1:=by rw[Heap.size_update,size_push']
 have hoL:(((s.heap.push (seqObj "list" #[] 0)).update s.heap.objs.size (Obj.mapSeq (·++its.toArray))).push (seqObj "list" its.toArray 0)).get? (s.heap.objs.size+1)=some (seqObj "list" its.toArray 0):=by
  rw[<-hsz];exact Heap.get?_push_size _ rfl
 obtain⟨e,he⟩:=sortedHeap_at (out:=out) hoL;have hk:∀b o,s.heap.get? b=some o->(sortedAll s.heap its out).get? b=some o:=fun b o z=>by
  have hlt:b<s.heap.objs.size:=Heap.lt_size z;unfold sortedAll;rw[sortedHeap_old (Nat.ne_of_lt (Nat.lt_succ_of_lt hlt)) (by rw[size_push',hsz];exact Nat.lt_succ_of_lt (Nat.lt_succ_of_lt hlt))];exact Heap.get?_push_of_some _ (fi z)
 have big:(64:Nat)<=sizeLine:=by decide
 exact⟨.ref _,_,I.laid (t':=s.toks) (o:=.lst ((hJ ns).map V.int)) hk (Nat.le_succ _) ⟨by rw[List.length_map,(dH ns).length_eq];omega,out.toList,e,fX a1,by rw[Array.toArray_toList];exact he⟩,rfl,q _ (I.hok.fresh (Nat.le_succ _))⟩
theorem rD{P:Program}{w:World}{acc:List Value}{ks:List Str}{vs:List (Key×Value)}(hk:vs.map (·.1)=ks.map Sum.inr)(hl:acc.length=vs.length)(h:∀(j:Nat) (v:Value),acc[j]?=some v->∃k x,vs[j]?=some (k,x)/\(aO P w).is k v=true):StrsAre acc ks:=by
 induction acc generalizing ks vs with
 |nil =>
  cases vs with
  |nil=>cases ks with
   |nil=>exact .nil
   |cons _ _=>cases hk
  |cons _ _=>cases hl
 |cons v acc ih =>
  cases vs with
  |nil=>cases hl
  |cons p vs =>
   cases ks with
   |nil=>cases hk
   |cons k ks =>
    simp only[List.map_cons,List.cons.injEq]at hk;obtain⟨k',x,e1,e2⟩:=h 0 v rfl;simp only[List.getElem?_cons_zero,Option.some.injEq]at e1;subst e1;have hk1:k'=Sum.inr k:=hk.1;subst hk1;rcases aY (show iL (Sum.inr k) v=true from e2) with⟨i,t,e,rfl⟩|⟨y,t,e,rfl⟩
    ·cases e
    ·cases e;exact .cons _ _ (ih hk.2 (by simpa using hl) fun j u ej=>h (j+1) u (by simpa using ej))
theorem gH:X.calm=true->fL X (.builtin "sorted") (fun xs H Q=>∃(d:Addr) (kvs:List (Key×V)) (ks:List Str),xs=[.ref d]/\H d=some (.dK kvs)/\kvs.map (·.1)=ks.map Sum.inr/\ks.length<64/\∀q,H q=none->Q (.ref q) (upd H q (.lst ((aH ks).map V.str)))):=by
 intro hc pins s σ H xs us Q I rs h;obtain⟨d,kvs,ks,rfl,e,hk,h64,q⟩:=h;obtain⟨u,rfl,r⟩:=vals1 rs;cases r;obtain⟨hz,lo,vs,kv,dd⟩:=sR I.hok e;have hlen:vs.length=kvs.length:=(Paired.length kv).symm;have hkl:kvs.length=ks.length:=by rw[<-List.length_map (f:=(·.1)),hk,List.length_map]
 have hvk:vs.map (·.1)=ks.map Sum.inr:=by
  rw[<-hk];clear dd hlen hk hkl e q hz;induction kv with
  |nil=>rfl
  |cons r _ ih=>rw[List.map_cons,List.map_cons,ih,r.1]
 obtain⟨o,es,ep,hd⟩:=id dd;have big:(64:Nat)<=sizeLine:=by decide
 refine dE (kdu_collect (A:=X.A.in1) (kdl_dict (knd:=aO X.prog X.w) (kvs:=vs) (ep:=ep) lo) (I.ok.hd hc) ⟨o,es,hd⟩ (by omega) fun h' tk acc hk' hacc=>⟨ks,rD hvk (by rw[Array.length_toList];exact hacc.1) (fun j v ej=>hacc.2 j v (by rw[<-Array.getElem?_toList];exact ej)),by rw[Array.length_toList,hacc.1];omega,fun h2 vs' e2 k2 at2 s2=>?_⟩);have I1:Inv X pins σ H {s with heap:=h',toks:=tk}:=I.kept (t':=tk) hk';exact⟨.ref h'.objs.size,_,I1.laid (t':=tk) (o:=.lst ((aH ks).map V.str)) k2 (Nat.le_refl _) ⟨by rw[List.length_map,cG];omega,vs',e2,cH s2,at2⟩,rfl,q _ (I1.hok.fresh (Nat.le_refl _))⟩
end
end L2
namespace TM
open PySem L2
inductive U where
 |non|bl (b:Bool)|int (i:Int)|str (x:Str)
 |tup (xs:List U)|lst (xs:List U)
 |dic (ks:List Str) (vs:List U)|rdc (ks:List ei)
mutual
noncomputable def imm:U->Bool
 |.tup xs=>fY xs
 |.lst _=>false
 |.dic _ _=>false
 |.rdc _=>false
 |.non=>true|.bl _=>true|.int _=>true|.str _=>true
noncomputable def fY:List U->Bool
 |[]=>true
 |u::us=>imm u&&fY us
end
inductive Kd where|own|io|loc|any|bor (j:Nat)|ownD
deriving DecidableEq
noncomputable def Kd.root:Kd->Bool
 |.own=>true
 |.io=>true
 |_=>false
noncomputable abbrev ag:=List (Option (Kd×U))
structure Ct where
 P:Program
 w:World
 K:PySem.W.Frag
 H₀:Hp
 Par:Addr->Prop
 IO:Addr->Prop
noncomputable def KL(K:PySem.W.Frag)(a:Addr)(xs:List V):Prop :=
 ∃(o:Obj) (its:Array Value) (n:Nat),K.lookup a=some o/\o.cls=.type "list"/\o.dict=none/\o.data=.seq its n/\its.size<=sizeLine/\Vals xs its.toList
noncomputable def LAt(K:PySem.W.Frag)(S:Addr->Prop)(H:Hp)(a:Addr)(vs:List V):Prop:=(S a/\Rd H a (.lst vs))\/KL K a vs
theorem LAt.sq{K:PySem.W.Frag}{S:Addr->Prop}{H:Hp}{a:Addr}{vs:List V}(h:LAt K S H a vs):SqL K H a vs:=h.elim (fun z=>.inl z.2) .inr
noncomputable def DAt(H:Hp)(R:List V->Prop)(a:Addr)(ks:List Str):Prop:=∃kvs:List (Key×V),H a=some (.dK kvs)/\kvs.map (·.1)=ks.map Sum.inr/\R (kvs.map (·.2))
section
variable(C:Ct)(S:Addr->Prop)(H:Hp)
mutual
noncomputable def Rep:U->V->Prop
 |.non,v=>v=.non
 |.bl b,v=>v=.bl b
 |.int i,v=>v=.int i
 |.str x,v=>v=.str x
 |.tup us,v=>∃a vs,v=.ref a/\SqT C.K H a vs/\ai us vs
 |.lst us,v=>∃a vs,v=.ref a/\LAt C.K S H a vs/\ai us vs
 |.dic ks us,v=>∃a,v=.ref a/\S a/\DAt H (ai us) a ks
 |.rdc ks,v=>∃a,v=.ref a/\S a/\d0 C.P C.w C.K H a ks
noncomputable def ai:List U->List V->Prop
 |[],vs=>vs=[]
 |u::us,vs=>∃v r,vs=v::r/\Rep u v/\ai us r
end
end
noncomputable def Tp:HO->Prop
 |.tup _=>True
 |.frz _ (.tup _)=>True
 |_=>False
structure Mv(S:Addr->Prop)(H:Hp)(S':Addr->Prop)(H':Hp):Prop where
 sub:∀a,S a->S' a
 tps:∀a o,H a=some o->Tp o->H' a=some o
 sam:∀a o,S a->H a=some o->H' a=some o
theorem Mv.sqT{K:PySem.W.Frag}{S S':Addr->Prop}{H H':Hp}{a:Addr}{vs:List V}(m:Mv S H S' H')(h:SqT K H a vs):SqT K H' a vs:=by
 rcases h with(h|⟨o,h⟩)|h
 ·exact .inl (.inl (m.tps a _ h trivial))
 ·exact .inl (.inr ⟨o,m.tps a _ h trivial⟩)
 ·exact .inr h
theorem Mv.lat{K:PySem.W.Frag}{S S':Addr->Prop}{H H':Hp}{a:Addr}{vs:List V}(m:Mv S H S' H')(h:LAt K S H a vs):LAt K S' H' a vs:=by
 rcases h with⟨s,h|⟨o,h⟩⟩|h
 ·exact .inl ⟨m.sub a s,.inl (m.sam a _ s h)⟩
 ·exact .inl ⟨m.sub a s,.inr ⟨o,m.sam a _ s h⟩⟩
 ·exact .inr h
theorem Mv.row{K:PySem.W.Frag}{S S':Addr->Prop}{H H':Hp}{v:V}{r:ei}(m:Mv S H S' H')(h:eu K H v r):eu K H' v r :=
 let ⟨a,b,e,h1,h2⟩:=h;⟨a,b,e,m.sqT h1,m.sqT h2⟩
theorem DAt.mv{H H':Hp}{R R':List V->Prop}{a:Addr}{ks:List Str}(ha:∀o,H a=some o->H' a=some o)(hR:∀vs,R vs->R' vs)(h:DAt H R a ks):DAt H' R' a ks :=
 let ⟨kvs,h1,h2,h3⟩:=h;⟨kvs,ha _ h1,h2,hR _ h3⟩
theorem Mv.qg{P:Program}{w:World}{K:PySem.W.Frag}{S S':Addr->Prop}{H H':Hp}{a:Addr}{ks:List ei}(m:Mv S H S' H')(ha:∀o,H a=some o->H' a=some o)(h:d0 P w K H a ks):d0 P w K H' a ks :=
 let ⟨xs,h1,h2,h3⟩:=h;⟨xs,ha _ h1,h2,fun x hx=>m.row (h3 x hx)⟩
section
variable{C:Ct}{S S':Addr->Prop}{H H':Hp}
mutual
theorem Rep.mv'(m:Mv S H S' H'):∀(u:U) (v:V),Rep C S H u v->Rep C S' H' u v
 |.non,_,h=>h
 |.bl _,_,h=>h
 |.int _,_,h=>h
 |.str _,_,h=>h
 |.tup us,v,h=>by
  obtain⟨a,vs,e,h1,h2⟩:=h;exact⟨a,vs,e,m.sqT h1,ai.mv' m us vs h2⟩
 |.lst us,v,h=>by
  obtain⟨a,vs,e,h1,h2⟩:=h;exact⟨a,vs,e,m.lat h1,ai.mv' m us vs h2⟩
 |.dic ks us,v,h=>by
  obtain⟨a,e,h1,h2⟩:=h;exact⟨a,e,m.sub a h1,h2.mv (fun o q=>m.sam a o h1 q) fun vs q=>ai.mv' m us vs q⟩
 |.rdc ks,v,h=>by
  obtain⟨a,e,h1,h2⟩:=h;exact⟨a,e,m.sub a h1,m.qg (fun o q=>m.sam a o h1 q) h2⟩
theorem ai.mv'(m:Mv S H S' H'):∀(us:List U) (vs:List V),ai C S H us vs->ai C S' H' us vs
 |[],_,h=>h
 |u::us,vs,h=>by
  obtain⟨v,r,e,h1,h2⟩:=h;exact⟨v,r,e,Rep.mv' m u v h1,ai.mv' m us r h2⟩
end
mutual
theorem Rep.rE:∀(u:U) (v:V),imm u=true->Rep C S H u v->Rep C S' H u v
 |.non,_,_,h=>h
 |.bl _,_,_,h=>h
 |.int _,_,_,h=>h
 |.str _,_,_,h=>h
 |.tup us,v,i,h=>by
  obtain⟨a,vs,e,h1,h2⟩:=h;exact⟨a,vs,e,h1,ai.rE us vs (by simpa[TM.imm] using i) h2⟩
 |.lst us,v,i,h=>by simp[TM.imm]at i
 |.dic ks us,v,i,h=>by simp[TM.imm]at i
 |.rdc ks,v,i,h=>by simp[TM.imm]at i
theorem ai.rE:∀(us:List U) (vs:List V),fY us=true->ai C S H us vs->ai C S' H us vs
 |[],_,_,h=>h
 |u::us,vs,i,h=>by
  obtain⟨v,r,e,h1,h2⟩:=h;have i':TM.imm u=true/\fY us=true:=by simpa[fY] using i
  exact⟨v,r,e,Rep.rE u v i'.1 h1,ai.rE us r i'.2 h2⟩
end
theorem Rep.mv(m:Mv S H S' H'){u:U}{v:V}(h:Rep C S H u v):Rep C S' H' u v:=Rep.mv' m u v h
theorem ai.mv(m:Mv S H S' H'){us:List U}{vs:List V}(h:ai C S H us vs):ai C S' H' us vs:=ai.mv' m us vs h
theorem Rep.imm{u:U}{v:V}(i:TM.imm u=true)(h:Rep C S H u v):Rep C S' H u v:=Rep.rE u v i h
theorem ai.imm{us:List U}{vs:List V}(i:fY us=true)(h:ai C S H us vs):ai C S' H us vs:=ai.rE us vs i h
theorem Mv.up(sub:∀a,S a->S' a):Mv S H S' H:=⟨sub,fun _ _ h _=>h,fun _ _ _ h=>h⟩
theorem ai.len:∀{us:List U}{vs:List V},ai C S H us vs->us.length=vs.length
 |[],_,h=>by cases h;rfl
 |u::us,vs,h=>by
  obtain⟨v,r,rfl,_,h2⟩:=h;rw[List.length_cons,List.length_cons,ai.len h2]
theorem ai.get:∀{us:List U}{vs:List V}{i:Nat}{u:U},ai C S H us vs->us[i]?=some u->∃v,vs[i]?=some v/\Rep C S H u v
 |[],_,_,_,_,e=>by simp at e
 |u::us,vs,0,w,h,e=>by
  obtain⟨v,r,rfl,h1,_⟩:=h;simp at e;subst e;exact⟨v,rfl,h1⟩
 |u::us,vs,i+1,w,h,e=>by
  obtain⟨v,r,rfl,_,h2⟩:=h;obtain⟨v',e',h'⟩:=ai.get (i:=i) (u:=w) h2 (by simpa using e);exact⟨v',by simpa using e',h'⟩
theorem ai.append:∀{us ws:List U}{vs ys:List V},ai C S H us vs->ai C S H ws ys->ai C S H (us++ws) (vs++ys)
 |[],_,_,_,h,h'=>by cases h;exact h'
 |u::us,ws,vs,ys,h,h'=>by
  obtain⟨v,r,rfl,h1,h2⟩:=h;exact⟨v,r++ys,rfl,h1,h2.append h'⟩
theorem ai.take:∀{us:List U}{vs:List V} (n:Nat),ai C S H us vs->ai C S H (us.take n) (vs.take n)
 |_,_,0,_=>by simp[ai]
 |[],_,n+1,h=>by cases h;simp[ai]
 |u::us,vs,n+1,h=>by
  obtain⟨v,r,rfl,h1,h2⟩:=h;exact⟨v,r.take n,rfl,h1,h2.take n⟩
theorem ai.drop:∀{us:List U}{vs:List V} (n:Nat),ai C S H us vs->ai C S H (us.drop n) (vs.drop n)
 |_,_,0,h=>h
 |[],_,n+1,h=>by cases h;simp[ai]
 |u::us,vs,n+1,h=>by
  obtain⟨v,r,rfl,h1,h2⟩:=h;exact h2.drop n
theorem ai.set:∀{us:List U}{vs:List V} (n:Nat) {u:U}{v:V},ai C S H us vs->Rep C S H u v->ai C S H (us.set n u) (vs.set n v)
 |[],_,n,_,_,h,_=>by cases h;simp[ai]
 |u::us,vs,0,_,_,h,h'=>by
  obtain⟨v,r,rfl,h1,h2⟩:=h;exact⟨_,r,rfl,h',h2⟩
 |u::us,vs,n+1,_,_,h,h'=>by
  obtain⟨v,r,rfl,h1,h2⟩:=h;exact⟨v,_,rfl,h1,h2.set n h'⟩
theorem ai.snoc{us:List U}{vs:List V}{u:U}{v:V}(h:ai C S H us vs)(h':Rep C S H u v):ai C S H (us++[u]) (vs++[v]):=h.append ⟨v,[],rfl,h',rfl⟩
theorem ai.strs:∀{xs:List Str}{vs:List V},ai C S H (xs.map .str) vs↔vs=xs.map V.str
 |[],vs=>by simp[ai]
 |x::xs,vs=>by
  constructor
  ·rintro⟨v,r,rfl,h1,h2⟩;rw[ai.strs.mp h2];have:v=.str x:=h1;rw[this];rfl
  ·rintro rfl;exact⟨_,_,rfl,rfl,ai.strs.mpr rfl⟩
end
structure Ct.Eqv(C C':Ct):Prop where
 P:C.P=C'.P
 w:C.w=C'.w
 K:C.K=C'.K
section
variable{C C':Ct}{S:Addr->Prop}{H:Hp}
mutual
theorem Rep.cg'(q:C.Eqv C'):∀(u:U) (v:V),Rep C S H u v->Rep C' S H u v
 |.non,_,h=>h
 |.bl _,_,h=>h
 |.int _,_,h=>h
 |.str _,_,h=>h
 |.tup us,v,h=>by
  obtain⟨a,vs,e,h1,h2⟩:=h;exact⟨a,vs,e,q.K▸h1,ai.cg' q us vs h2⟩
 |.lst us,v,h=>by
  obtain⟨a,vs,e,h1,h2⟩:=h;exact⟨a,vs,e,q.K▸h1,ai.cg' q us vs h2⟩
 |.dic ks us,v,h=>by
  obtain⟨a,e,h1,h2⟩:=h;exact⟨a,e,h1,h2.mv (fun _ q=>q) fun vs z=>ai.cg' q us vs z⟩
 |.rdc ks,v,h=>by
  obtain⟨a,e,h1,h2⟩:=h;exact⟨a,e,h1,by rw[<-q.P,<-q.w,<-q.K];exact h2⟩
theorem ai.cg'(q:C.Eqv C'):∀(us:List U) (vs:List V),ai C S H us vs->ai C' S H us vs
 |[],_,h=>h
 |u::us,vs,h=>by
  obtain⟨v,r,e,h1,h2⟩:=h;exact⟨v,r,e,Rep.cg' q u v h1,ai.cg' q us r h2⟩
end
theorem Rep.cg(q:C.Eqv C'){u:U}{v:V}(h:Rep C S H u v):Rep C' S H u v:=Rep.cg' q u v h
theorem ai.cg(q:C.Eqv C'){us:List U}{vs:List V}(h:ai C S H us vs):ai C' S H us vs:=ai.cg' q us vs h
end
noncomputable def cT(C:Ct)(S:Addr->Prop)(H:Hp)(r:Addr):U->Prop
 |.lst us=>∃vs,H r=some (.lst vs)/\ai C S H us vs
 |.dic ks us=>DAt H (ai C S H us) r ks
 |.rdc ks=>d0 C.P C.w C.K H r ks
 |_=>False
theorem cT.mv{C:Ct}{S S':Addr->Prop}{H H':Hp}{r:Addr}{u:U}(m:Mv S H S' H')(hr:∀o,H r=some o->H' r=some o)(h:cT C S H r u):cT C S' H' r u:=by
 cases u with
 |lst us=>obtain⟨vs,h1,h2⟩:=h;exact⟨vs,hr _ h1,h2.mv m⟩
 |dic ks us=>exact DAt.mv hr (fun vs q=>q.mv m) h
 |rdc ks=>exact m.qg hr h
 |non=>exact h
 |bl _=>exact h
 |int _=>exact h
 |str _=>exact h
 |tup _=>exact h
theorem cT.rep{C:Ct}{S S':Addr->Prop}{H:Hp}{r:Addr}{u:U}(hs:∀a,S a->S' a)(hr:S' r)(h:cT C S H r u):Rep C S' H u (.ref r):=by
 cases u with
 |lst us=>obtain⟨vs,h1,h2⟩:=h;exact⟨r,vs,rfl,.inl ⟨hr,.inl h1⟩,h2.mv (.up hs)⟩
 |dic ks us=>exact⟨r,rfl,hr,DAt.mv (fun _ q=>q) (fun vs q=>q.mv (.up hs)) h⟩
 |rdc ks=>exact⟨r,rfl,hr,h⟩
 |non=>exact h.elim
 |bl _=>exact h.elim
 |int _=>exact h.elim
 |str _=>exact h.elim
 |tup _=>exact h.elim
theorem cT.cg{C C':Ct}{S:Addr->Prop}{H:Hp}{r:Addr}(q:C.Eqv C'){u:U}(h:cT C S H r u):cT C' S H r u:=by
 cases u with
 |lst us=>obtain⟨vs,h1,h2⟩:=h;exact⟨vs,h1,h2.cg q⟩
 |dic ks us=>exact DAt.mv (fun _ q=>q) (fun vs z=>z.cg q) h
 |rdc ks=>show d0 _ _ _ _ _ _;rw[<-q.P,<-q.w,<-q.K];exact h
 |non=>exact h
 |bl _=>exact h
 |int _=>exact h
 |str _=>exact h
 |tup _=>exact h
theorem cT.some{C:Ct}{S:Addr->Prop}{H:Hp}{r:Addr}{u:U}(h:cT C S H r u):∃o,H r=some o/\¬Tp o:=by
 cases u with
 |lst us=>obtain⟨vs,h1,_⟩:=h;exact⟨_,h1,fun z=>z⟩
 |dic ks us=>obtain⟨kvs,h1,_⟩:=h;exact⟨_,h1,fun z=>z⟩
 |rdc ks=>obtain⟨xs,h1,_⟩:=h;exact⟨_,h1,fun z=>z⟩
 |non=>exact h.elim
 |bl _=>exact h.elim
 |int _=>exact h.elim
 |str _=>exact h.elim
 |tup _=>exact h.elim
end TM
namespace TM
open PySem L2
structure Cf where
 S:Addr->Prop
 H:Hp
 σ:St
 st:ag
 kid:Nat->List Addr
noncomputable def Cf.R1(c:Cf)(a:Addr):Prop:=∃(j:Nat) (k:Kd) (u:U),k.root=true/\c.st[j]?=some (some (k,u))/\c.σ[j]?=some (some (.ref a))
noncomputable def Cf.RD(c:Cf)(j:Nat)(a:Addr):Prop:=∃(u:U) (r:Addr),c.st[j]?=some (some (.ownD,u))/\c.σ[j]?=some (some (.ref r))/\(a=r\/a∈c.kid j)
noncomputable def Cf.R(c:Cf)(a:Addr):Prop:=c.R1 a\/∃j,c.RD j a
noncomputable def PS(C:Ct)(S:Addr->Prop):Addr->Prop:=fun a=>C.Par a\/S a
noncomputable def eE(C:Ct)(S:Addr->Prop)(H:Hp):Kd->U->V->Prop
 |.own,u,v=>∃r,v=.ref r/\¬S r/\¬C.Par r/\C.H₀ r=none/\cT C S H r u
 |.io,u,v=>∃r,v=.ref r/\¬S r/\¬C.Par r/\C.IO r/\cT C S H r u
 |.loc,u,v=>Rep C S H u v
 |.any,u,v=>Rep C (PS C S) H u v
 |.bor _,_,_=>False
 |.ownD,_,v=>∃r,v=.ref r
noncomputable def cB(C:Ct)(S:Addr->Prop)(H:Hp):List U->List Addr->Prop
 |[],as=>as=[]
 |u::us,as=>∃a as' ys vs,as=a::as'/\u=.lst ys/\H a=some (.lst vs)/\ai C S H ys vs/\cB C S H us as'
noncomputable def bP(C:Ct)(S:Addr->Prop)(H:Hp)(r:Addr)(as:List Addr):U->Prop
 |.dic ks us=>∃kvs:List (Key×V),H r=some (.dK kvs)/\kvs.map (·.1)=ks.map Sum.inr/\kvs.map (·.2)=as.map V.ref/\(r::as).Nodup/\(∀a∈r::as,¬S a/\¬C.Par a/\C.H₀ a=none)/\cB C S H us as
 |_=>False
structure DOk(C:Ct)(c:Cf):Prop where
 kd:∀(j:Nat) (u:U) (r:Addr),c.st[j]?=some (some (.ownD,u))->c.σ[j]?=some (some (.ref r))->bP C c.S c.H r (c.kid j) u
 dj:∀(i j:Nat) (a:Addr),c.RD i a->c.RD j a->i=j
 d1:∀(j:Nat) (a:Addr),c.RD j a->¬c.R1 a
structure Ok(C:Ct)(c:Cf):Prop where
 same:∀a o,C.H₀ a=some o->¬C.IO a->c.H a=some o
 sfr:∀a,c.S a->C.H₀ a=none/\∃o,c.H a=some o
 par:∀a,C.Par a->(∃o,C.H₀ a=some o)/\¬C.IO a
 io:∀a,C.IO a->(∃o,C.H₀ a=some o)/\∃o,c.H a=some o
 len:c.st.length=c.σ.length
 sl:∀(i:Nat) (k:Kd) (u:U),c.st[i]?=some (some (k,u))->∃v,c.σ[i]?=some (some v)/\eE C c.S c.H k u v
 inj:∀(i j:Nat) (k k':Kd) (u u':U) (r:Addr),k.root=true->k'.root=true->c.st[i]?=some (some (k,u))->c.st[j]?=some (some (k',u'))->c.σ[i]?=some (some (.ref r))->c.σ[j]?=some (some (.ref r))->i=j
 dd:DOk C c
structure Ns(c c':Cf):Prop where
 keep:∀a o,c.H a=some o->¬c.R a->c'.H a=some o
 there:∀a o,c.H a=some o->∃o',c'.H a=some o'
 roots:∀a,c'.R a->c.R a\/c.H a=none
 sub:∀a,c.S a->c'.S a
 new:∀a,c'.S a->c.S a\/c.R a\/c.H a=none
section
variable{C:Ct}{c c' c'' c0 c1:Cf}
theorem Ns.refl(c:Cf):Ns c c:=⟨fun _ _ h _=>h,fun _ o h=>⟨o,h⟩,fun _ h=>.inl h,fun _ h=>h,fun _ h=>.inl h⟩
theorem Ns.none(n:Ns c c'){a:Addr}(h:c'.H a=.none):c.H a=.none:=by
 cases e:c.H a with
 |none=>rfl
 |some o=>obtain⟨o',q⟩:=n.there a o e;rw[h]at q;cases q
theorem Ns.trans(m:Ns c c')(n:Ns c' c''):Ns c c'' where
 keep:=fun a o h hr=>by
  refine n.keep a o (m.keep a o h hr) fun z=>?_;rcases m.roots a z with z|z
  ·exact hr z
  ·rw[h]at z;cases z
 there:=fun a o h=>let ⟨o',h'⟩:=m.there a o h;n.there a o' h'
 roots:=fun a h=>by
  rcases n.roots a h with z|z
  ·exact m.roots a z
  ·exact .inr (m.none z)
 sub:=fun a h=>n.sub a (m.sub a h)
 new:=fun a h=>by
  rcases n.new a h with z|z|z
  ·exact m.new a z
  ·rcases m.roots a z with z|z
   ·exact .inr (.inl z)
   ·exact .inr (.inr z)
  ·exact .inr (.inr (m.none z))
theorem eE.rt{S:Addr->Prop}{H:Hp}{k:Kd}{u:U}{v:V}(hk:k.root=true)(h:eE C S H k u v):∃r,v=.ref r/\¬S r/\¬C.Par r/\(C.H₀ r=none\/C.IO r)/\cT C S H r u:=by
 cases k with
 |own=>obtain⟨r,h1,h2,h3,h4,h5⟩:=h;exact⟨r,h1,h2,h3,.inl h4,h5⟩
 |io=>obtain⟨r,h1,h2,h3,h4,h5⟩:=h;exact⟨r,h1,h2,h3,.inr h4,h5⟩
 |_=>cases hk
theorem cB.mem{S:Addr->Prop}{H:Hp}:∀{us:List U}{as:List Addr}{a:Addr},cB C S H us as->a∈as->∃vs,H a=some (.lst vs)
 |[],as,a,h,ha=>by cases h;cases ha
 |u::us,as,a,h,ha=>by
  obtain⟨a',as',ys,vs,rfl,_,h1,_,h2⟩:=h;rcases List.mem_cons.mp ha with rfl|ha
  ·exact⟨vs,h1⟩
  ·exact cB.mem h2 ha
theorem cB.mv{S S':Addr->Prop}{H H':Hp}(m:Mv S H S' H'):∀{us:List U}{as:List Addr},(∀a∈as,∀o,H a=some o->H' a=some o)->cB C S H us as->cB C S' H' us as
 |[],as,_,h=>h
 |u::us,as,hf,h=>by
  obtain⟨a,as',ys,vs,rfl,e,h1,h2,h3⟩:=h;exact⟨a,as',ys,vs,rfl,e,hf a (by simp) _ h1,h2.mv m,cB.mv m (fun a ha=>hf a (by simp[ha])) h3⟩
theorem bP.fr{S:Addr->Prop}{H:Hp}{r:Addr}{as:List Addr}{u:U}(h:bP C S H r as u):∀a∈r::as,¬S a/\¬C.Par a/\C.H₀ a=none:=by
 cases u<;>first|exact h.elim|(obtain⟨kvs,_,_,_,_,h5,_⟩:=h;exact h5)
theorem bP.there{S:Addr->Prop}{H:Hp}{r:Addr}{as:List Addr}{u:U}(h:bP C S H r as u):∀a∈r::as,∃o,H a=some o/\¬Tp o:=by
 cases u<;>first|exact h.elim|skip
 obtain⟨kvs,h1,_,_,_,_,h6⟩:=h;intro a ha;rcases List.mem_cons.mp ha with rfl|ha
 ·exact⟨_,h1,fun z=>z⟩
 ·obtain⟨vs,e⟩:=h6.mem ha;exact⟨_,e,fun z=>z⟩
theorem bP.mv{S S':Addr->Prop}{H H':Hp}{r:Addr}{as:List Addr}{u:U}(m:Mv S H S' H')(hf:∀a∈r::as,¬S' a/\∀o,H a=some o->H' a=some o)(h:bP C S H r as u):bP C S' H' r as u:=by
 cases u<;>first|exact h.elim|skip
 obtain⟨kvs,h1,h2,h3,h4,h5,h6⟩:=h;exact⟨kvs,(hf r (by simp)).2 _ h1,h2,h3,h4,fun a ha=>⟨(hf a ha).1,(h5 a ha).2⟩,h6.mv m fun a ha=>(hf a (by simp[ha])).2⟩
theorem DOk.of(d:DOk C c)(hk:c'.kid=c.kid)(hD:∀(j:Nat) (u:U),c'.st[j]?=some (some (.ownD,u))->c.st[j]?=some (some (.ownD,u))/\c'.σ[j]?=c.σ[j]?)(h1:∀a,c'.R1 a->c.R1 a\/∀j,¬c.RD j a)
  (m:Mv c.S c.H c'.S c'.H) (hf:∀j a,c.RD j a->¬c'.S a/\∀o,c.H a=some o->c'.H a=some o):DOk C c':=by
 have back:∀j a,c'.RD j a->c.RD j a:=fun j a hIx=>by
  obtain⟨u,r,e1,e2,e3⟩:=hIx;obtain⟨q1,q2⟩:=hD j u e1;rw[q2]at e2;rw[hk]at e3;exact⟨u,r,q1,e2,e3⟩
 refine⟨fun j u r e1 e2=>?_,fun i j a z1 z2=>d.dj i j a (back i a z1) (back j a z2),fun j a z1 z2=>?_⟩
 ·obtain⟨q1,q2⟩:=hD j u e1;rw[q2]at e2;rw[hk];exact bP.mv m (fun a ha=>hf j a ⟨u,r,q1,e2,List.mem_cons.mp ha⟩) (d.kd j u r q1 e2)
 ·rcases h1 a z2 with z|z
  ·exact d.d1 j a (back j a z1) z
  ·exact z j (back j a z1)
theorem DOk.hs(d:DOk C c){H':Hp}{S':Addr->Prop}(m:Mv c.S c.H S' H')(hf:∀j a,c.RD j a->¬S' a/\∀o,c.H a=Option.some o->H' a=Option.some o):DOk C {c with H:=H',S:=S' } :=
 d.of rfl (fun _ _ e=>⟨e,rfl⟩) (fun _ z=>.inl z) m hf
theorem Ok.root(ok:Ok C c){r:Addr}(h:c.R r):¬c.S r/\¬C.Par r/\(C.H₀ r=none\/C.IO r)/\∃o,c.H r=some o/\¬Tp o:=by
 rcases h with⟨j,k,u,hk,h1,h2⟩|⟨j,u,r',h1,h2,h3⟩
 ·obtain⟨v,e,hs⟩:=ok.sl j _ _ h1;obtain⟨r',ev,h3,h4,h5,h6⟩:=hs.rt hk;rw[h2]at e;cases e;cases ev;exact⟨h3,h4,h5,h6.some⟩
 ·have hd:=ok.dd.kd j u r' h1 h2;obtain⟨q1,q2,q3⟩:=bP.fr hd r (List.mem_cons.mpr h3);exact⟨q1,q2,.inl q3,bP.there hd r (List.mem_cons.mpr h3)⟩
theorem Ok.mv(ok:Ok C c)(n:Ns c c'):Mv c.S c.H c'.S c'.H:=⟨n.sub,fun a o h t=>n.keep a o h fun z=>by
  obtain⟨_,_,_,o',h',nt⟩:=ok.root z;rw[h]at h';cases h';exact nt t,fun a o s h=>n.keep a o h fun z=>(ok.root z).1 s⟩
theorem Ok.mvP(ok:Ok C c)(n:Ns c c'):Mv (PS C c.S) c.H (PS C c'.S) c'.H:=⟨fun a h=>h.imp id (n.sub a),(ok.mv n).tps,fun a o s h=>n.keep a o h fun z=>by
  rcases s with s|s
  ·exact(ok.root z).2.1 s
  ·exact(ok.root z).1 s⟩
theorem Ok.j_(ok:Ok C c){p:Addr}(h:c.H p=none):C.H₀ p=none/\¬c.S p/\¬C.Par p/\¬C.IO p/\¬c.R p:=by
 have hio:¬C.IO p:=fun z=>by obtain⟨_,o,q⟩:=ok.io p z;rw[h]at q;cases q
 have h0:C.H₀ p=none:=by
  cases e:C.H₀ p with
  |none=>rfl
  |some o=>have:=ok.same p o e hio;rw[h]at this;cases this
 refine⟨h0,fun z=>?_,fun z=>?_,hio,fun z=>?_⟩
 ·obtain⟨_,o,q⟩:=ok.sfr p z;rw[h]at q;cases q
 ·obtain⟨⟨o,q⟩,_⟩:=ok.par p z;rw[h0]at q;cases q
 ·obtain⟨_,_,_,o,q,_⟩:=ok.root z;rw[h]at q;cases q
theorem eE.mv{S S':Addr->Prop}{H H':Hp}{k:Kd}{u:U}{v:V}(m:Mv S H S' H')(mp:Mv (PS C S) H (PS C S') H')(hr:k.root=true->∀r,v=.ref r->¬S' r/\∀o,H r=some o->H' r=some o)(h:eE C S H k u v):eE C S' H' k u v:=by
 cases k with
 |own =>
  obtain⟨r,e,h1,h2,h3,h4⟩:=h;obtain⟨q1,q2⟩:=hr rfl r e;exact⟨r,e,q1,h2,h3,h4.mv m q2⟩
 |io =>
  obtain⟨r,e,h1,h2,h3,h4⟩:=h;obtain⟨q1,q2⟩:=hr rfl r e;exact⟨r,e,q1,h2,h3,h4.mv m q2⟩
 |loc=>exact Rep.mv m h
 |any=>exact Rep.mv mp h
 |bor j=>exact h.elim
 |ownD=>exact h
structure Nx(c c':Cf):Prop extends Ns c c' where
 all:∀a o,c.H a=some o->c'.H a=some o
noncomputable instance {c c':Cf}:Coe (Nx c c') (Ns c c'):=⟨Nx.toNs⟩
theorem Nx.refl(c:Cf):Nx c c:=⟨.refl c,fun _ _ h=>h⟩
theorem Nx.trans(m:Nx c c')(n:Nx c' c''):Nx c c'':=⟨m.toNs.trans n.toNs,fun a o h=>n.all a o (m.all a o h)⟩
theorem Nx.none(n:Nx c c'){a:Addr}(h:c'.H a=.none):c.H a=.none:=n.toNs.none h
theorem Ok.lay(ok:Ok C c){p:Addr}{o:HO}(h:c.H p=none):Ok C {c with H:=upd c.H p o}/\Nx c {c with H:=upd c.H p o}:=by
 have ne:∀{a:Addr} {o':HO},c.H a=some o'->a≠p:=fun e z=>by subst z;rw[h]at e;cases e
 have kp:∀a o',c.H a=some o'->(upd c.H p o) a=some o':=fun a o' e=>by rw[ak (ne e)];exact e
 have nx:Nx c {c with H:=upd c.H p o}:=⟨⟨fun a o' e _=>kp a o' e,fun a o' e=>⟨o',kp a o' e⟩,fun a z=>.inl z,fun _ z=>z,fun _ z=>.inl z⟩,kp⟩
 refine⟨⟨fun a o' e z=>kp a o' (ok.same a o' e z),fun a z=>⟨(ok.sfr a z).1,let ⟨o',q⟩:=(ok.sfr a z).2;⟨o',kp a o' q⟩⟩,ok.par,fun a z=>⟨(ok.io a z).1,let ⟨o',q⟩:=(ok.io a z).2;⟨o',kp a o' q⟩⟩,ok.len,fun i k u e=>?_,ok.inj,ok.dd.hs (ok.mv nx.toNs) fun j a z=>⟨(ok.root (.inr ⟨j,z⟩)).1,fun o' e=>kp a o' e⟩⟩,nx⟩;obtain⟨v,e1,e2⟩:=ok.sl i k u e;refine⟨v,e1,e2.mv (ok.mv nx.toNs) (ok.mvP nx.toNs) fun hk r er=>?_⟩;obtain⟨r',er',q1,_⟩:=e2.rt hk;rw[er]at er';cases er';exact⟨q1,fun o' e=>kp r o' e⟩
theorem Ok.grow(ok:Ok C c){H':Hp}{S':Addr->Prop}(hs:ye c.H H')(hS:∀a,S' a->c.S a\/(c.H a=none/\∃o,H' a=some o))(hS1:∀a,c.S a->S' a):Ok C {c with H:=H',S:=S' }/\Nx c {c with H:=H',S:=S' }:=by
 have nx:Nx c {c with H:=H',S:=S' }:=⟨⟨fun a o' e _=>hs a o' e,fun a o' e=>⟨o',hs a o' e⟩,fun a z=>.inl z,hS1,fun a z=>(hS a z).imp id fun q=>.inr q.1⟩,hs⟩
 refine⟨⟨fun a o' e z=>hs a o' (ok.same a o' e z),fun a z=>?_,ok.par,fun a z=>⟨(ok.io a z).1,let ⟨o',q⟩:=(ok.io a z).2;⟨o',hs a o' q⟩⟩,ok.len,fun i k u e=>?_,ok.inj,ok.dd.hs (ok.mv nx.toNs) fun j a z=>⟨fun z'=>?_,fun o' e=>hs a o' e⟩⟩,nx⟩
 rotate_left 2
 ·obtain⟨q1,_,_,o,q4,_⟩:=ok.root (.inr ⟨j,z⟩);rcases hS a z' with z'|⟨z',_⟩
  ·exact q1 z'
  ·rw[q4]at z';cases z'
 ·rcases hS a z with q|⟨q1,q2⟩
  ·exact⟨(ok.sfr a q).1,let ⟨o',q⟩:=(ok.sfr a q).2;⟨o',hs a o' q⟩⟩
  ·exact⟨(ok.j_ q1).1,q2⟩
 ·obtain⟨v,e1,e2⟩:=ok.sl i k u e;refine⟨v,e1,e2.mv (ok.mv nx.toNs) (ok.mvP nx.toNs) fun hk r er=>?_⟩;obtain⟨r',er',q1,q2,q3,q4⟩:=e2.rt hk;rw[er]at er';cases er';obtain⟨o,ho,_⟩:=q4.some;refine⟨fun z=>?_,fun o' e=>hs r o' e⟩;rcases hS r z with z|⟨z,_⟩
  ·exact q1 z
  ·rw[z]at ho;cases ho
noncomputable def aA(C:Ct)(c0 c:Cf):Kd->U->V->Prop
 |.own,u,v=>∃r,v=.ref r/\c0.H r=none/\¬c.S r/\¬c.R r/\cT C c.S c.H r u
 |.loc,u,v=>Rep C c.S c.H u v
 |.any,u,v=>Rep C (PS C c.S) c.H u v
 |.bor j,u,v=>(∃k:Kd,k.root=true/\c.st[j]?=some (some (k,u)))/\c.σ[j]?=some (some v)
 |.io,_,_=>False
 |.ownD,_,_=>False
noncomputable def eF(C:Ct)(c0 c:Cf):Kd->U->V->Prop
 |.own,u,v=>∃r,v=.ref r/\c0.H r=none/\¬c.S r/\¬c.R r/\cT C c.S c.H r u
 |.loc,u,v=>Rep C c.S c.H u v
 |.any,u,v=>Rep C (PS C c.S) c.H u v
 |.bor j,u,v=>c.σ[j]?=some (some v)
 |.io,_,_=>False
 |.ownD,_,_=>False
theorem aA.w{k:Kd}{u:U}{v:V}(h:aA C c0 c k u v):eF C c0 c k u v:=by
 cases k with
 |own=>exact h
 |loc=>exact h
 |any=>exact h
 |bor j=>exact h.2
 |io=>exact h
 |ownD=>exact h
theorem eF.on'{k:Kd}{u:U}{v:V}(ok:Ok C c)(n:Ns c c')(hσ:∀j,k=.bor j->c'.σ[j]?=c.σ[j]?)(h:eF C c0 c k u v):eF C c0 c' k u v:=by
 cases k with
 |own =>
  obtain⟨r,e,h1,h2,h3,h4⟩:=h;obtain⟨o,ho,_⟩:=h4.some;refine⟨r,e,h1,fun z=>?_,fun z=>?_,h4.mv (ok.mv n) fun o q=>n.keep r o q h3⟩
  ·rcases n.new r z with z|z|z
   ·exact h2 z
   ·exact h3 z
   ·rw[z]at ho;cases ho
  ·rcases n.roots r z with z|z
   ·exact h3 z
   ·rw[z]at ho;cases ho
 |loc=>exact Rep.mv (ok.mv n) h
 |any=>exact Rep.mv (ok.mvP n) h
 |bor j=>show c'.σ[j]?=_;rw[hσ j rfl];exact h
 |io=>exact h
 |ownD=>exact h
theorem eF.on{k:Kd}{u:U}{v:V}(ok:Ok C c)(n:Ns c c')(hσ:c'.σ=c.σ)(h:eF C c0 c k u v):eF C c0 c' k u v:=h.on' ok n fun j _=>by rw[hσ]
theorem eF.from{k:Kd}{u:U}{v:V}(n:Ns c0 c1)(h:eF C c1 c k u v):eF C c0 c k u v:=by
 cases k with
 |own=>obtain⟨r,e,h1,h2⟩:=h;exact⟨r,e,n.none h1,h2⟩
 |loc=>exact h
 |any=>exact h
 |bor j=>exact h
 |io=>exact h
 |ownD=>exact h
theorem aA.from{k:Kd}{u:U}{v:V}(n:Ns c0 c1)(h:aA C c1 c k u v):aA C c0 c k u v:=by
 cases k with
 |own=>obtain⟨r,e,h1,h2⟩:=h;exact⟨r,e,n.none h1,h2⟩
 |loc=>exact h
 |any=>exact h
 |bor j=>exact h
 |io=>exact h
 |ownD=>exact h
noncomputable def SK(C:Ct)(c:Cf):Kd->Addr->Prop
 |.any=>PS C c.S
 |_=>c.S
noncomputable def kE:Kd->Kd
 |.any=>.any
 |_=>.loc
theorem Ok.rootOf(ok:Ok C c){j:Nat}{u:U}{v:V}(h:∃k:Kd,k.root=true/\c.st[j]?=some (some (k,u)))(e:c.σ[j]?=some (some v)):∃r,v=.ref r/\¬c.S r/\¬C.Par r/\(C.H₀ r=none\/C.IO r)/\cT C c.S c.H r u:=by
 obtain⟨k,hk,h⟩:=h;obtain⟨v',e1,e2⟩:=ok.sl j _ _ h;rw[e]at e1;cases e1;exact e2.rt hk
theorem aA.list{k:Kd}{us:List U}{v:V}(ok:Ok C c)(h:aA C c0 c k (.lst us) v):∃a vs,v=.ref a/\SqL C.K c.H a vs/\ai C (SK C c k) c.H us vs:=by
 cases k with
 |own=>obtain⟨r,e,_,_,_,vs,h1,h2⟩:=h;exact⟨r,vs,e,SqL.of h1,h2⟩
 |loc=>obtain⟨a,vs,e,h1,h2⟩:=h;exact⟨a,vs,e,h1.sq,h2⟩
 |any=>obtain⟨a,vs,e,h1,h2⟩:=h;exact⟨a,vs,e,h1.sq,h2⟩
 |bor j=>obtain⟨r,e,_,_,_,vs,h1,h2⟩:=ok.rootOf h.1 h.2;exact⟨r,vs,e,SqL.of h1,h2⟩
 |io=>exact h.elim
 |ownD=>exact h.elim
theorem aA.tuple{k:Kd}{us:List U}{v:V}(ok:Ok C c)(h:aA C c0 c k (.tup us) v):∃a vs,v=.ref a/\SqT C.K c.H a vs/\ai C (SK C c k) c.H us vs:=by
 cases k with
 |own=>obtain⟨r,e,_,_,_,h⟩:=h;exact h.elim
 |loc=>obtain⟨a,vs,e,h1,h2⟩:=h;exact⟨a,vs,e,h1,h2⟩
 |any=>obtain⟨a,vs,e,h1,h2⟩:=h;exact⟨a,vs,e,h1,h2⟩
 |bor j=>obtain⟨r,e,_,_,_,h⟩:=ok.rootOf h.1 h.2;exact h.elim
 |io=>exact h.elim
 |ownD=>exact h.elim
theorem aA.flat{k:Kd}{u:U}{v:V}(ok:Ok C c)(hu:imm u=true)(h:aA C c0 c k u v):Rep C c.S c.H u v:=by
 cases k with
 |own=>obtain⟨r,e,_,_,_,h⟩:=h;cases u<;>simp[imm]at hu<;>exact h.elim
 |loc=>exact h
 |any=>exact Rep.imm hu h
 |bor j=>obtain⟨r,e,_,_,_,h⟩:=ok.rootOf h.1 h.2;cases u<;>simp[imm]at hu<;>exact h.elim
 |io=>exact h.elim
 |ownD=>exact h.elim
theorem aA.int{k:Kd}{i:Int}{v:V}(ok:Ok C c)(h:aA C c0 c k (.int i) v):v=.int i:=h.flat ok rfl
theorem aA.str{k:Kd}{x:Str}{v:V}(ok:Ok C c)(h:aA C c0 c k (.str x) v):v=.str x:=h.flat ok rfl
theorem aA.bl{k:Kd}{b:Bool}{v:V}(ok:Ok C c)(h:aA C c0 c k (.bl b) v):v=.bl b:=h.flat ok rfl
theorem aA.item{k:Kd}{u:U}{v:V}(h:Rep C (SK C c k) c.H u v):aA C c0 c (kE k) u v:=by
 cases k<;>exact h
noncomputable def Dom(H:Hp):Addr->Prop:=fun a=>∃o,H a=some o
theorem Ok.vK(ok:Ok C c):∀a,c.S a->Dom c.H a:=fun a h=>(ok.sfr a h).2
theorem Ok.Bu(ok:Ok C c):∀a,PS C c.S a->Dom c.H a:=fun a h=>by
 rcases h with h|h
 ·obtain⟨⟨o,e⟩,n⟩:=ok.par a h;exact⟨o,ok.same a o e n⟩
 ·exact ok.vK a h
theorem aA.read{k:Kd}{u:U}{v:V}(ok:Ok C c)(h:aA C c0 c k u v):Rep C (Dom c.H) c.H u v:=by
 cases k with
 |own =>
  obtain⟨r,e,_,_,_,h4⟩:=h;rw[e];obtain⟨o,ho,_⟩:=h4.some;exact h4.rep ok.vK ⟨o,ho⟩
 |loc=>exact Rep.mv (.up ok.vK) h
 |any=>exact Rep.mv (.up ok.Bu) h
 |bor j =>
  obtain⟨r,e,_,_,_,h4⟩:=ok.rootOf h.1 h.2;rw[e];obtain⟨o,ho,_⟩:=h4.some;exact h4.rep ok.vK ⟨o,ho⟩
 |io=>exact h.elim
 |ownD=>exact h.elim
theorem Ok.newList(ok:Ok C c)(n:Nx c0 c){p:Addr}{us:List U}{vs:List V}(h:c.H p=none)(hr:ai C c.S c.H us vs):
  Ok C {c with H:=upd c.H p (.lst vs)}/\Nx c0 {c with H:=upd c.H p (.lst vs)}/\aA C c0 {c with H:=upd c.H p (.lst vs)} .own (.lst us) (.ref p):=by
 obtain⟨ok',n'⟩:=ok.lay (o:=.lst vs) h;obtain⟨h0,h1,h2,h3,h4⟩:=ok.j_ h;exact⟨ok',n.trans n',p,rfl,n.none h,h1,h4,vs,ar,hr.mv (ok.mv n'.toNs)⟩
theorem Ok.yw(ok:Ok C c)(n:Nx c0 c){p:Addr}{us:List U}{vs:List V}(h:c.H p=none)(hr:ai C c.S c.H us vs):
  Ok C {c with H:=upd c.H p (.tup vs)}/\Nx c0 {c with H:=upd c.H p (.tup vs)}/\aA C c0 {c with H:=upd c.H p (.tup vs)} .loc (.tup us) (.ref p):=by
 obtain⟨ok',n'⟩:=ok.lay (o:=.tup vs) h;exact⟨ok',n.trans n',p,vs,rfl,SqT.of ar,hr.mv (ok.mv n'.toNs)⟩
end
end TM
namespace TM
open PySem L2
inductive Ex(α:Type) where|ok (a:α)|exc (c:Str)
noncomputable def M(α:Type):=ag->Option (Ex α×ag)
namespace M
variable{α β:Type}
noncomputable def pure(a:α):M α:=fun st=>some (.ok a,st)
noncomputable def fail:M α:=fun _=>none
noncomputable def bind(m:M α)(f:α->M β):M β:=fun st=>match m st with
 |none=>none
 |some (.ok a,st')=>f a st'
 |some (.exc c,st')=>some (.exc c,st')
noncomputable def ofO(o:Option α):M α:=fun st=>match o with
 |none=>none
 |some a=>some (.ok a,st)
end M
noncomputable instance:Monad M:={pure:=M.pure,bind:=M.bind}
noncomputable def W{α:Type}(m:M α)(st:ag)(Q:α->ag->Prop):Prop:=∃a st',m st=some (.ok a,st')/\Q a st'
section
variable{α β:Type}{m:M α}{f:α->M β}{st:ag}
theorem ah{a:α}{Q:α->ag->Prop}:W (pure a) st Q↔Q a st:=by
 constructor
 ·rintro⟨b,st',e,h⟩;cases e;exact h
 ·intro h;exact⟨a,st,rfl,h⟩
theorem ab{Q:β->ag->Prop}:W (m >>= f) st Q↔W m st fun a st'=>W (f a) st' Q:=by
 constructor
 ·rintro⟨b,st',e,h⟩;have e':M.bind m f st=some (.ok b,st'):=e;unfold M.bind at e';cases q:m st with
  |none=>rw[q]at e';cases e'
  |some r =>
   obtain⟨r,s1⟩:=r;rw[q]at e';cases r with
   |ok a=>exact⟨a,s1,q,b,st',e',h⟩
   |exc c=>cases e'
 ·rintro⟨a,s1,q,b,st',e,h⟩;refine⟨b,st',?_,h⟩;show M.bind m f st=_;unfold M.bind;rw[q];exact e
theorem bT{o:Option α}{Q:α->ag->Prop}:W (M.ofO o) st Q↔∃a,o=some a/\Q a st:=by
 cases o with
 |none=>exact⟨fun⟨_,_,e,_⟩=>(by cases e),fun⟨_,e,_⟩=>(by cases e)⟩
 |some a=>exact⟨fun⟨_,_,e,h⟩=>(by cases e;exact⟨a,rfl,h⟩),fun⟨_,e,h⟩=>(by cases e;exact⟨a,st,rfl,h⟩)⟩
theorem av{Q:α->ag->Prop}:W (M.fail:M α) st Q↔False:=⟨fun⟨_,_,e,_⟩=>(by cases e),False.elim⟩
theorem W.mono{Q Q':α->ag->Prop}(h:W m st Q)(i:∀a s,Q a s->Q' a s):W m st Q':=let ⟨a,s,e,q⟩:=h;⟨a,s,e,i a s q⟩
end
inductive Bop where|add|sub|mul|fdv|mod|pow
deriving DecidableEq
inductive Cop where|eq|ne|lt|le|gt|ge|isin|notin|is|isnt
deriving DecidableEq
inductive Bf where|len|sorted|list|tuple|str|int|repr|max|min|all|any
deriving DecidableEq
inductive B2 where|revT|revL|sset|j3
deriving DecidableEq
inductive Mf where|split|join|partition|endswith
deriving DecidableEq
inductive Ty5 where|str|list|tuple|int|bool
deriving DecidableEq
inductive Ik where|seq|rng1|rng2|enm|zip|rev
deriving DecidableEq
inductive E where
 |var (i:Nat)
 |cst (u:U)
 |glb (x:Str) (u:U)
 |bin (op:Bop) (a b:E)
 |cmp (op:Cop) (a b:E)
 |cmp2 (o1 o2:Cop) (a b c:E)
 |and (es:List E)|or (es:List E)|not (a:E)
 |ite (c a b:E)
 |tup (es:List E)|lst (es:List E)|dnew (r:Bool)
 |idx (a b:E)
 |slc (a:E) (lo hi:List E)
 |bi (f:Bf) (es:List E)
 |bi2 (f:B2) (es:List E)
 |mth (m:Mf) (a:E) (es:List E)
 |call (f:Str) (es:List E)
 |comp (k:Nat) (t:Bool) (ik:Ik) (src:List E) (cond:List E) (e:E)
 |neg (a:E)|bad|isi (a:E) (T:Ty5)|fst (es:List E)|inD (neg:Bool) (a:E) (i:Nat)|pub (i:Nat)|get2 (i:Nat) (k d:E)|sit (i:Nat)|sdf (ln:Bool) (a b:E)
inductive S where
 |set (i:Nat) (e:E)
 |setT (is:List Nat) (e:E)
 |put (i:Nat) (k v:E)
 |app (i:Nat) (e:E)|ext (i:Nat) (e:E)|bad|newD (i:Nat)|putD (i:Nat) (k v:E)|appD (i:Nat) (k v:E)|aug (sub:Bool) (i:Nat) (k v:E)|rvs (i:Nat)
 |exp (e:E)
 |ret (e:E)|retN
 |ite (c:E) (a b:List S)
 |for_ (t:Bool) (is:List Nat) (ik:Ik) (src:List E) (body:List S)
 |whl (c:E) (body:List S)
 |brk|cnt|pas
noncomputable def isAny:Kd->Bool
 |.any=>true
 |_=>false
noncomputable def jt(k:Kd)(xs:List U):Bool:=!isAny k||fY xs
noncomputable def kT(k k':Kd):Kd:=if isAny k||isAny k' then .any else .loc
noncomputable def cut{α:Type}(xs:List α)(lo hi:Option Int):List α:=(xs.drop (HT.sIx xs.length 0 lo)).take (HT.sIx xs.length xs.length hi - HT.sIx xs.length 0 lo)
noncomputable def oK:Kd×U->Kd×U->Option (Kd×U)
 |(_,.int i),(_,.int j)=>some (.loc,.int (i+j))
 |(_,.str x),(_,.str y)=>if x.length+y.length<=sizeLine then some (.loc,.str (x++y)) else none
 |(k,.lst xs),(k',.lst ys)=>if xs.length+ys.length<=sizeLine/\jt k xs=true/\jt k' ys=true then some (.own,.lst (xs++ys)) else none
 |(k,.tup xs),(k',.tup ys)=>if xs.length+ys.length<=sizeLine then some (kT k k',.tup (xs++ys)) else none
 |_,_=>none
noncomputable def oM(f:Int->Int->Option Int):U->U->Option (Kd×U)
 |.int i,.int j=>(f i j).map fun n=>(.loc,.int n)
 |_,_=>none
noncomputable def vL(i j:Int):Option Int:=if ((-(2 ^ 64)<i/\i<2 ^ 64)\/(-(2 ^ 64)<j/\j<2 ^ 64)) then some (i * j) else none
noncomputable def vM(i j:Int):Option Int:=if 0<j/\j<1073741824 then some (i / j) else none
noncomputable def vN(i j:Int):Option Int:=if 0<j then some (i % j) else none
noncomputable def vO(i j:Int):Option Int:=if 0<=j/\j<=1000000/\i.natAbs<2 ^ 64 then some (i ^ j.toNat) else none
noncomputable def opU(op:Bop)(x y:Kd×U):Option (Kd×U):=match op with
 |.add=>oK x y
 |.sub=>oM (fun i j=>some (i - j)) x.2 y.2
 |.mul=>oM vL x.2 y.2
 |.fdv=>oM vM x.2 y.2
 |.mod=>oM vN x.2 y.2
 |.pow=>oM vO x.2 y.2
mutual
noncomputable def eqD:Nat->U->Bool
 |_,.dic _ _=>false
 |_,.rdc _=>false
 |0,.tup _=>false
 |0,.lst _=>false
 |n+1,.tup xs=>bI n xs
 |n+1,.lst xs=>bI n xs
 |_,.non=>true|_,.bl _=>true|_,.int _=>true|_,.str _=>true
noncomputable def bI:Nat->List U->Bool
 |_,[]=>true
 |n,u::us=>eqD n u&&bI n us
end
mutual
noncomputable def aW:U->U->Bool
 |.non,.non=>true
 |.bl a,.bl b=>a==b
 |.bl a,.int b=>(if a then 1 else 0)==b
 |.int a,.bl b=>a==(if b then 1 else 0)
 |.int a,.int b=>a==b
 |.str a,.str b=>a==b
 |.tup xs,.tup ys=>bx xs ys
 |.lst xs,.lst ys=>bx xs ys
 |_,_=>false
noncomputable def bx:List U->List U->Bool
 |[],[]=>true
 |u::us,w::ws=>aW u w&&bx us ws
 |_,_=>false
end
noncomputable def inU(x:U)(ys:List U):Option Bool:=if eqD 50 x=true/\bI 50 ys=true then some (ys.any fun y=>aW y x) else none
noncomputable def strsOf:List U->Option (List Str)
 |[]=>some []
 |.str x::us=>(strsOf us).map (x::·)
 |_::_=>none
noncomputable def rowOf:U->Option ei
 |.tup [.str x,.tup ys]=>(strsOf ys).map fun ss=>(x,ss)
 |_=>none
noncomputable def vP:U->U->Option Bool
 |x,.lst ys=>inU x ys
 |x,.tup ys=>inU x ys
 |.str x,.dic ks _=>some (decide (x∈ks))
 |x,.rdc ks=>(rowOf x).map fun r=>decide (r∈ks)
 |_,_=>none
noncomputable def cU:List Str->List U->Str->Option U
 |y::ks,u::us,x=>if y=x then some u else cU ks us x
 |_,_,_=>none
noncomputable def dput(ks:List Str)(us:List U)(x:Str)(u:U):List Str×List U :=
 if x∈ks then(ks,(ks.zip us).map fun p=>if p.1=x then u else p.2) else(ks++[x],us++[u])
noncomputable def bz:Cop->U->U->Option Bool
 |.eq,a,b=>if eqD 50 a=true/\eqD 50 b=true then some (aW a b) else none
 |.ne,a,b=>if eqD 50 a=true/\eqD 50 b=true then some (!aW a b) else none
 |.lt,.int i,.int j=>some (decide (i<j))
 |.gt,.int i,.int j=>some (decide (j<i))
 |.ge,.int i,.int j=>some (decide (j<=i))
 |.isin,x,y=>vP x y
 |.notin,x,y=>(vP x y).map (!·)
 |_,_,_=>none
noncomputable def ju:List U->Option (List Bool)
 |[]=>some []
 |.bl x::us=>(ju us).map (x::·)
 |_::_=>none
noncomputable def iA:Kd×U->U->Option (Kd×U)
 |(k,.lst xs),.int i=>(atI xs i).map fun u=>(kE k,u)
 |(k,.tup xs),.int i=>(atI xs i).map fun u=>(kE k,u)
 |(_,.str x),.int i=>if x.length<=sizeLine then(atI x.cps.toList i).map fun c=>(.loc,.str ⟨#[c]⟩) else none
 |_,_=>none
noncomputable def iB:Kd×U->Option Int->Option Int->Option (Kd×U)
 |(k,.lst xs),lo,hi=>if jt k xs=true then some (.own,.lst (cut xs lo hi)) else none
 |(k,.tup xs),lo,hi=>some (kE k,.tup (cut xs lo hi))
 |(_,.str x),lo,hi=>if x.length<=sizeLine then some (.loc,.str (PySem.StrLaws.sliceText x lo hi)) else none
 |_,_,_=>none
noncomputable def yx:U->Option Nat
 |.lst xs=>some xs.length
 |.tup xs=>some xs.length
 |.str x=>if x.length<=sizeLine then some x.length else none
 |_=>none
noncomputable def fZ{β:Type}(f:Kd×U->Option β):List (Kd×U)->Option β
 |[x]=>f x
 |_=>none
noncomputable def intsOf:List U->Option (List Int)
 |[]=>some []
 |.int x::us=>(intsOf us).map (x::·)
 |_::_=>none
noncomputable def tI(k:Kd)(xs:List U):Option (Kd×U):=match strsOf xs with
 |some ss=>if ss.length<64 then some (.own,.lst ((aH ss).map .str)) else none
 |none=>(intsOf xs).bind fun ns=>if ns.length<64 then some (.own,.lst ((hJ ns).map .int)) else none
noncomputable def yy:Kd×U->Option (Kd×U)
 |(k,.lst xs)=>tI k xs
 |(_,.dic ks _)=>if ks.length<64 then some (.own,.lst ((aH ks).map .str)) else none
 |(_,.tup xs)=>(strsOf xs).bind fun ss=>if ss.length<64 then some (.own,.lst ((aH ss).map .str)) else none
 |_=>none
noncomputable def yz:Kd×U->Option (Kd×U)
 |(k,.lst xs)=>some (kE k,.tup xs)
 |(k,.tup xs)=>some (kE k,.tup xs)
 |_=>none
noncomputable def tJ:Kd×U->Option (Kd×U)
 |(_,.int i)=>if i.natAbs.log2<1920 then some (.loc,.str (toString i)) else none
 |_=>none
noncomputable def yA:Kd×U->Option (Kd×U)
 |(_,.lst xs)=>(ju xs).map fun bs=>(.loc,.bl (bs.all id))
 |_=>none
noncomputable def biU(f:Bf)(rs:List (Kd×U)):Option (Kd×U):=match f with
 |.len=>fZ (fun x=>(yx x.2).map fun(n:Nat)=>(Kd.loc,U.int (n:Int))) rs
 |.sorted=>fZ yy rs
 |.tuple=>fZ yz rs
 |.str=>fZ tJ rs
 |.all=>fZ yA rs
 |_=>none
noncomputable def rF:U->Option (List Str)
 |.lst xs=>(strsOf xs).bind fun ss=>if ss.length+1<scanBound then some (bp ss) else none
 |.tup xs=>(strsOf xs).bind fun ss=>if ss.length+1<scanBound then some (bp ss) else none
 |_=>none
noncomputable def tK(f:B2)(rs:List (Kd×U)):Option (Kd×U):=match f with
 |.sset=>fZ (fun x=>(rF x.2).bind fun ss=>if ss.length<64 then some (.own,.lst ((aH ss).map .str)) else none) rs
 |.j3=>fZ (fun x=>(rF x.2).map fun ss=>(.loc,.int ss.length)) rs
 |_=>none
noncomputable def iC:Mf->U->List (Kd×U)->Option (Kd×U)
 |.split,.str a,[(_,.str b)]=>if (b.length==0)=false/\a.length+2<=sizeLine then some (.own,.lst ((Txt.split a b).map .str)) else none
 |.join,.str a,[(_,.lst xs)]=>(strsOf xs).bind fun ss=>if JoinOk a ss=true then some (.loc,.str (Txt.join a ss)) else none
 |_,_,_=>none
noncomputable def Bv:Kd×U->Option (List (Kd×U))
 |(k,.lst xs)=>some (xs.map fun u=>(kE k,u))
 |(k,.tup xs)=>some (xs.map fun u=>(kE k,u))
 |_=>none
noncomputable def rG:Kd×U->Option (List (Kd×U))
 |(_,.int n)=>if n<2 ^ 62/\-(2 ^ 62)<n then some ((List.range n.toNat).map fun i:Nat=>(Kd.loc,U.int (0+(i:Int)))) else none
 |_=>none
noncomputable def yB:Kd×U->Option (List (Kd×U))
 |(k,.lst xs)=>some (xs.zipIdx.map fun p=>(kE k,.tup [.int p.2,p.1]))
 |(k,.tup xs)=>some (xs.zipIdx.map fun p=>(kE k,.tup [.int p.2,p.1]))
 |_=>none
noncomputable def itU(ik:Ik)(rs:List (Kd×U)):Option (List (Kd×U)):=match ik with
 |.seq=>fZ Bv rs
 |.rng1=>fZ rG rs
 |.enm=>fZ yB rs
 |_=>none
noncomputable def vQ(ps:List (Str×Int)):List (Str×Int):=(iw (ps.map (·.1))).map fun i=>ps.getD i (Str.empty,0)
noncomputable def rH(p:Str×Int):U:=.tup [.str p.1,.int p.2]
noncomputable def tL:U->Option (Kd×U)
 |.dic ks us=>(intsOf us).bind fun ns=>if ks.length<64/\ks.Nodup/\ks.length=ns.length then some (.own,.lst ((vQ (ks.zip ns)).map rH)) else none
 |_=>none
noncomputable def ka:U->Option Bool
 |.bl b=>some b
 |.lst xs=>some !xs.isEmpty
 |.tup xs=>some !xs.isEmpty
 |.str x=>if x.length<=sizeLine then some ((x.length:Int) != 0) else none
 |_=>none
noncomputable def lift:Kd×U->M U
 |(.own,u)=>pure u
 |(.loc,u)=>pure u
 |(.any,u)=>if imm u=true then pure u else M.fail
 |(.bor j,_)=>fun st=>match st[j]? with
  |some (some (.own,u))=>some (.ok u,st.set j (some (.loc,u)))
  |_=>none
 |(.io,_)=>M.fail
 |(.ownD,_)=>M.fail
noncomputable def cw:List (Kd×U)->M (List U)
 |[]=>pure []
 |r::rs=>do let u <-lift r;let us <-cw rs;pure (u::us)
noncomputable def d9(i:Nat):Kd×U->M Unit
 |(.bor j,_)=>fun st=>match st[j]? with
  |some (some (.own,u))=>some (.ok (),(st.set j (some (.loc,u))).set i (some (.loc,u)))
  |_=>none
 |(.io,_)=>M.fail
 |(.ownD,_)=>M.fail
 |(k,u)=>fun st=>some (.ok (),st.set i (some (k,u)))
noncomputable def ba:List (Kd×U)->ag->Prop
 |[],_=>True
 |(.bor j,u)::rs,st=>(∃k:Kd,k.root=true/\st[j]?=some (some (k,u)))/\ba rs st
 |_::rs,st=>ba rs st
open Classical in
noncomputable def au(rs:List (Kd×U)):M Unit:=fun st=>if ba rs st then some (.ok (),st) else none
noncomputable abbrev Tab:=Str->List U->Option (Ex (Kd×U))
noncomputable def jv(Γ:Tab)(f:Str)(us:List U):M (Kd×U):=fun st=>match Γ f us with
 |some (.ok (.any,_))=>none
 |none=>none
 |some r=>some (r,st)
noncomputable def cZ(i:Nat):M (Kd×U):=fun st=>match st[i]? with
 |some (some (.ownD,_))=>none
 |some (some (k,u))=>some (.ok (if k.root=true then .bor i else k,u),st)
 |_=>none
noncomputable def fb(i:Nat):M (List Str×List U):=fun st=>match st[i]? with
 |some (some (.ownD,.dic ks us))=>some (.ok (ks,us),st)
 |_=>none
noncomputable def f7(x:Kd×U):M Str:=match x.2 with
 |.str y=>pure y
 |_=>M.fail
noncomputable def inB(neg:Bool)(y:Str)(ks:List Str):Bool:=if neg=true then !decide (y∈ks) else decide (y∈ks)
noncomputable def tM(i:Nat):M (Kd×U):=fun st=>match st[i]? with
 |some (some (.ownD,u))=>some (.ok (.bor i,u),st.set i (some (.own,u)))
 |_=>cZ i st
noncomputable def xj(i:Nat):M Unit:=fun st=>some (.ok (),st.set i (some (.ownD,.dic [] [])))
noncomputable def jw(i:Nat)(y:Str):Kd×U->M Unit
 |(.own,.lst us)=>fun st=>match st[i]? with
  |some (some (.ownD,.dic ks vs))=>if y∉ks/\ks.length<sizeLine then some (.ok (),st.set i (some (.ownD,.dic (ks++[y]) (vs++[.lst us])))) else none
  |_=>none
 |_=>M.fail
noncomputable def iD:List Str->List U->Str->U->List U
 |k::ks,v::vs,y,u=>if k=y then u::vs else v::iD ks vs y u
 |_,vs,_,_=>vs
noncomputable def jx(i:Nat)(y:Str)(u:U):M Unit:=fun st=>match st[i]? with
 |some (some (.ownD,.dic ks vs))=>match cU ks vs y with
  |some (.lst xs)=>if xs.length<sizeLine then some (.ok (),st.set i (some (.ownD,.dic ks (iD ks vs y (.lst (xs++[u])))))) else none
  |_=>none
 |_=>none
noncomputable def isD:U->M Unit
 |.dic _ _=>pure ()
 |_=>M.fail
noncomputable def vR(x:Kd×U)(y:Str)(u:U):Option (Kd×U):=match x with
 |(k,.dic ks us)=>some (match cU ks us y with|some v=>(kE k,v)|none=>(.loc,u))
 |_=>none
noncomputable def nj(i:Nat):M (List U):=fun st=>match st[i]? with
 |some (some (k,.lst us))=>if k.root=true then some (.ok us,st) else none
 |_=>none
noncomputable def rJ(x:Kd×U):M Int:=match x.2 with
 |.int j=>pure j
 |_=>M.fail
noncomputable def nq(us:List U)(j:Int):Option Int:=if 0<=j then(match us[j.toNat]? with|some (.int o)=>some o|_=>none) else none
noncomputable def rK(sub:Bool)(o w:Int):Int:=if sub=true then o - w else o+w
noncomputable def yC:U->Option U
 |.lst us=>some (.lst us.reverse)
 |_=>none
noncomputable def sets:List Nat->List (Kd×U)->M Unit
 |[],[]=>pure ()
 |i::is,r::rs=>do d9 i r;sets is rs
 |_,_=>M.fail
noncomputable def cC(t:Bool)(is:List Nat)(r:Kd×U):M Unit:=match t,is,r with
 |false,[i],r=>d9 i r
 |true,is,(k,.tup xs)=>sets is (xs.map fun u=>(kE k,u))
 |_,_,_=>M.fail
noncomputable def inScope{α:Type}(k:Nat)(m:M α):M α:=fun st=>match m (List.replicate k none++st) with
 |none=>none
 |some (r,st')=>some (r,st'.drop k)
noncomputable def bg(k:Nat)(t:Bool)(cond:M Bool)(elt:M (Kd×U))(src:List (Kd×U)):List (Kd×U)->List U->M (List U)
 |[],acc=>do au src;pure acc
 |x::xs,acc=>do
  au src
  let r <-inScope k (cC t (List.range k) x >>= fun _=>cond >>= fun b=>if b=true then(elt >>= fun r=>lift r >>= fun u=>pure (some u)) else pure none)
  match r with
  |some u=>if acc.length<sizeLine then bg k t cond elt src xs (acc++[u]) else M.fail
  |none=>bg k t cond elt src xs acc
noncomputable def oN:U->Ty5->Option Bool
 |.str _,T=>some (decide (T=.str))
 |.int _,T=>some (decide (T=.int))
 |.bl _,.bool=>some true
 |.bl _,.int=>some true
 |.lst _,.list=>some true
 |.tup _,.tuple=>some true
 |_,_=>none
noncomputable def Bw:Kd×U->Option (Kd×U)
 |(_,.int i)=>some (.loc,.int (-i))
 |_=>none
noncomputable def yD(x:Kd×U):M (Option Int):=match x.2 with
 |.int i=>pure (some i)
 |_=>M.fail
section
variable(Γ:Tab)
mutual
noncomputable def ev:E->M (Kd×U)
 |.var i=>cZ i
 |.cst u=>pure (.loc,u)
 |.glb _ u=>pure (.loc,u)
 |.bin op a b=>do
  let x <-ev a
  let y <-ev b
  au [x,y]
  M.ofO (opU op x y)
 |.cmp op a b=>do
  let x <-ev a
  let y <-ev b
  au [x,y]
  let c <-M.ofO (bz op x.2 y.2)
  pure (.loc,.bl c)
 |.cmp2 o1 o2 a b c=>do
  let x <-ev a
  let y <-ev b
  au [x,y]
  let p <-M.ofO (bz o1 x.2 y.2)
  if p=true then do
   let z <-ev c
   au [y,z]
   let q <-M.ofO (bz o2 y.2 z.2)
   pure (.loc,.bl q)
  else pure (.loc,.bl false)
 |.and es=>tN es
 |.or es=>yE es
 |.not a=>do
  let x <-ev a
  match x.2 with
  |.bl c=>pure (.loc,.bl !c)
  |_=>M.fail
 |.ite c a b=>do
  let p <-tst c
  if p=true then ev a else ev b
 |.tup es=>do
  let rs <-bA es
  au rs
  let us <-cw rs
  if us.length<=sizeLine then pure (.loc,.tup us) else M.fail
 |.lst es=>do
  let rs <-bA es
  au rs
  let us <-cw rs
  if us.length<=sizeLine then pure (.own,.lst us) else M.fail
 |.dnew r=>pure (.own,if r=true then .rdc [] else .dic [] [])
 |.idx a b=>do
  let x <-ev a
  let y <-ev b
  au [x,y]
  M.ofO (iA x y.2)
 |.slc a lo hi=>do
  let x <-ev a
  let l <-evO lo
  let h <-evO hi
  au [x]
  M.ofO (iB x l h)
 |.bi f es=>do
  let rs <-bA es
  au rs
  M.ofO (biU f rs)
 |.bi2 f es=>do
  let rs <-bA es
  au rs
  M.ofO (tK f rs)
 |.mth m a es=>do
  let x <-ev a
  let rs <-bA es
  au (x::rs)
  M.ofO (iC m x.2 rs)
 |.call f es=>do
  let rs <-bA es
  au rs
  jv Γ f (rs.map (·.2))
 |.comp k t ik src cond e=>do
  let rs <-bA src
  au rs
  let xs <-M.ofO (itU ik rs)
  let us <-bg k t (aS cond) (ev e) rs xs []
  pure (.own,.lst us)
 |.neg a=>do
  let x <-ev a
  M.ofO (Bw x)
 |.bad=>M.fail
 |.inD neg a i=>do
  let x <-ev a
  let y <-f7 x
  let d <-fb i
  pure (.loc,.bl (inB neg y d.1))
 |.pub i=>tM i
 |.get2 i k d=>do
  let x <-cZ i
  isD x.2
  let y <-ev k
  let y <-f7 y
  let z <-ev d
  let u <-lift z
  let x <-cZ i
  M.ofO (vR x y u)
 |.sit i=>do
  let x <-cZ i
  M.ofO (tL x.2)
 |.sdf _ _ _=>M.fail
 |.fst es=>M.fail
 |.isi a T=>do
  let x <-ev a
  let b <-M.ofO (oN x.2 T)
  pure (.loc,.bl b)
noncomputable def bA:List E->M (List (Kd×U))
 |[]=>pure []
 |e::es=>do let r <-ev e;let rs <-bA es;pure (r::rs)
noncomputable def evO:List E->M (Option Int)
 |[]=>pure none
 |[e]=>do let x <-ev e;yD x
 |_=>M.fail
noncomputable def tN:List E->M (Kd×U)
 |[]=>M.fail
 |[e]=>ev e
 |e::es=>do
  let x <-ev e
  match x.2 with
  |.bl true=>tN es
  |.bl false=>pure (.loc,.bl false)
  |_=>M.fail
noncomputable def yE:List E->M (Kd×U)
 |[]=>M.fail
 |[e]=>ev e
 |e::es=>do
  let x <-ev e
  match x.2 with
  |.bl true=>pure (.loc,.bl true)
  |.bl false=>yE es
  |_=>M.fail
noncomputable def tst:E->M Bool
 |.and es=>aS es
 |.or es=>hU es
 |.not a=>do let b <-tst a;pure !b
 |.cmp op a b=>do
  let x <-ev a
  let y <-ev b
  au [x,y]
  M.ofO (bz op x.2 y.2)
 |.var i=>do let x <-cZ i;M.ofO (ka x.2)
 |.cst u=>M.ofO (ka u)
 |.idx a b=>do
  let x <-ev a
  let y <-ev b
  au [x,y]
  let r <-M.ofO (iA x y.2)
  M.ofO (ka r.2)
 |.bi2 f es=>do
  let rs <-bA es
  au rs
  let r <-M.ofO (tK f rs)
  M.ofO (ka r.2)
 |.bi f es=>do
  let rs <-bA es
  au rs
  let r <-M.ofO (biU f rs)
  M.ofO (ka r.2)
 |.mth m a es=>do
  let x <-ev a
  let rs <-bA es
  au (x::rs)
  let r <-M.ofO (iC m x.2 rs)
  M.ofO (ka r.2)
 |.call f es=>do
  let rs <-bA es
  au rs
  let r <-jv Γ f (rs.map (·.2))
  M.ofO (ka r.2)
 |.cmp2 o1 o2 a b c=>do
  let x <-ev a
  let y <-ev b
  au [x,y]
  let p <-M.ofO (bz o1 x.2 y.2)
  if p=true then do
   let z <-ev c
   au [y,z]
   M.ofO (bz o2 y.2 z.2)
  else pure false
 |.inD neg a i=>do
  let x <-ev a
  let y <-f7 x
  let d <-fb i
  pure (inB neg y d.1)
 |.isi a T=>do
  let x <-ev a
  M.ofO (oN x.2 T)
 |_=>M.fail
noncomputable def aS:List E->M Bool
 |[]=>pure true
 |[e]=>tst e
 |e::es=>do let b <-tst e;if b=true then aS es else pure false
noncomputable def hU:List E->M Bool
 |[]=>pure false
 |[e]=>tst e
 |e::es=>do let b <-tst e;if b=true then pure true else hU es
end
inductive Fl where|nx|rt (k:Kd) (u:U)|bk|ct
noncomputable def retS:Kd×U->M Fl
 |(.own,u)=>pure (.rt .own u)
 |(.loc,u)=>pure (.rt .loc u)
 |(.any,u)=>if imm u=true then pure (.rt .loc u) else pure (.rt .any u)
 |(.bor j,_)=>fun st=>match st[j]? with
  |some (some (.own,u))=>some (.ok (.rt .own u),st.set j none)
  |_=>none
 |(.io,_)=>M.fail
 |(.ownD,_)=>M.fail
noncomputable def forM(t:Bool)(is:List Nat)(body:M Fl)(src:List (Kd×U)):List (Kd×U)->M Fl
 |[]=>do au src;pure .nx
 |x::xs=>do
  au src
  cC t is x
  let f <-body
  match f with
  |.nx=>forM t is body src xs
  |.ct=>forM t is body src xs
  |.bk=>pure .nx
  |.rt k u=>pure (.rt k u)
noncomputable def fD(c:M Bool)(body:M Fl):Nat->M Fl
 |0=>M.fail
 |n+1=>do
  let b <-c
  if b=true then do
   let f <-body
   match f with
   |.nx=>fD c body n
   |.ct=>fD c body n
   |.bk=>pure .nx
   |.rt k u=>pure (.rt k u)
  else pure .nx
noncomputable def modS(i:Nat)(f:U->Option U):M Unit:=fun st=>match st[i]? with
 |some (some (k,u))=>if k.root=true then match f u with
   |some u'=>some (.ok (),st.set i (some (k,u')))
   |none=>none
  else none
 |_=>none
noncomputable def tP(u:U):U->Option U
 |.lst xs=>if xs.length<sizeLine then some (.lst (xs++[u])) else none
 |_=>none
noncomputable def kb:Kd×U->U->Option U
 |(k,.lst ys),.lst xs=>if xs.length+ys.length<=sizeLine/\jt k ys=true then some (.lst (xs++ys)) else none
 |(k,.tup ys),.lst xs=>if xs.length+ys.length<=sizeLine/\jt k ys=true then some (.lst (xs++ys)) else none
 |_,_=>none
noncomputable def du(x u:U):U->Option U
 |.dic ks vs=>match x with
  |.str y=>if ks.length<sizeLine then some (.dic (dput ks vs y u).1 (dput ks vs y u).2) else none
  |_=>none
 |.rdc ks=>match rowOf x,u with
  |some r,.bl true=>if r∉ks/\ks.length<=1000 then some (.rdc (ks++[r])) else none
  |_,_=>none
 |.lst xs=>match x with
  |.int i=>(ixN xs.length i).map fun j=>.lst (xs.set j u)
  |_=>none
 |_=>none
noncomputable def qh:List U->U->Option U
 |[u,x]=>du x u
 |_=>fun _=>none
noncomputable def isL:U->M Unit
 |.lst _=>pure ()
 |_=>M.fail
noncomputable def fuel:Nat:=100000
mutual
noncomputable def nsS:S->Nat->Bool
 |.set i _,j=>decide (j≠i)
 |.setT is _,j=>decide (j∉is)
 |.ite _ a b,j=>nsL a j&&nsL b j
 |.for_ _ is _ _ body,j=>decide (j∉is)&&nsL body j
 |.whl _ body,j=>nsL body j
 |.put _ _ _,_=>true
 |.app _ _,_=>true
 |.ext _ _,_=>true
 |.bad,_=>true
 |.newD i,j=>decide (j≠i)
 |.putD _ _ _,_=>true
 |.appD _ _ _,_=>true
 |.aug _ _ _ _,_=>true
 |.rvs _,_=>true
 |.exp _,_=>true
 |.ret _,_=>true
 |.retN,_=>true
 |.brk,_=>true
 |.cnt,_=>true
 |.pas,_=>true
noncomputable def nsL:List S->Nat->Bool
 |[],_=>true
 |s::ss,j=>nsS s j&&nsL ss j
end
noncomputable def qi(rs:List (Kd×U))(is:List Nat)(body:List S):Bool:=rs.all fun r=>match r.1 with
 |.bor j=>decide (j∉is)&&nsL body j
 |_=>true
mutual
noncomputable def exec:S->M Fl
 |.set i e=>do let r <-ev Γ e;d9 i r;pure .nx
 |.setT is e=>do let r <-ev Γ e;cC true is r;pure .nx
 |.put i k v=>do
  let r <-ev Γ v
  let _ <-cZ i
  let x <-ev Γ k
  let us <-cw [r,x]
  modS i (qh us)
  pure .nx
 |.app i e=>do
  let x <-cZ i
  isL x.2
  let r <-ev Γ e
  let u <-lift r
  modS i (tP u)
  pure .nx
 |.ext i e=>do
  let x <-cZ i
  isL x.2
  let r <-ev Γ e
  modS i (kb r)
  pure .nx
 |.bad=>M.fail
 |.newD i=>do xj i;pure .nx
 |.putD i k v=>do
  let r <-ev Γ v
  let d <-fb i
  let x <-ev Γ k
  let y <-f7 x
  jw i y r
  pure .nx
 |.appD i k v=>do
  let _ <-fb i
  let x <-ev Γ k
  let y <-f7 x
  let d <-fb i
  if y∈d.1 then do
   let r <-ev Γ v
   let u <-lift r
   jx i y u
   pure .nx
  else M.fail
 |.aug sub i k v=>do
  let _ <-nj i
  let y <-ev Γ k
  let j <-rJ y
  let us <-nj i
  let o <-M.ofO (nq us j)
  let z <-ev Γ v
  let w <-rJ z
  modS i (du (.int j) (.int (rK sub o w)))
  pure .nx
 |.rvs i=>do
  modS i yC
  pure .nx
 |.exp e=>do let _ <-ev Γ e;pure .nx
 |.ret e=>do let r <-ev Γ e;retS r
 |.retN=>pure (.rt .loc .non)
 |.ite c a b=>do let p <-tst Γ c;if p=true then execs a else execs b
 |.for_ t is ik src body=>do
  let rs <-bA Γ src
  au rs
  let xs <-M.ofO (itU ik rs)
  if qi rs is body=true then forM t is (execs body) rs xs else M.fail
 |.whl c body=>fD (tst Γ c) (execs body) fuel
 |.brk=>pure .bk
 |.cnt=>pure .ct
 |.pas=>pure .nx
noncomputable def execs:List S->M Fl
 |[]=>pure .nx
 |s::ss=>do
  let f <-exec s
  match f with
  |.nx=>execs ss
  |f=>pure f
end
end
structure Fn where
 name:Str
 np:Nat
 ns:Nat
 body:List S
noncomputable def start(us:List U)(n:Nat):ag:=us.map (fun u=>some (if imm u=true then Kd.loc else Kd.any,u))++List.replicate (n - us.length) none
noncomputable def bW(Γ:Tab)(fn:Fn)(us:List U):Option (Ex (Kd×U)):=if us.length=fn.np then match execs Γ fn.body (start us fn.ns) with
  |some (.ok (.rt .own u),_)=>some (.ok (.own,u))
  |some (.ok (.rt .loc u),_)=>some (.ok (.loc,u))
  |some (.ok (.rt .any u),_)=>some (.ok (.any,u))
  |some (.ok .nx,_)=>some (.ok (.loc,.non))
  |some (.exc c,_)=>some (.exc c)
  |_=>none
 else none
noncomputable def sem(P:List Fn):Nat->Tab
 |0=>fun _ _=>none
 |d+1=>fun f us=>match P.find? fun fn=>decide (fn.name=f) with
  |some fn=>bW (sem P d) fn us
  |none=>none
end TM
namespace TM
open PySem L2
section
variable{X:Cx}{pins:List (Addr×Obj)}{σ:St}{H:Hp}{s:Shared}{C:Ct}{S:Addr->Prop}
theorem qj(I:Inv X pins σ H s){a:Addr}{vs:List V}(h:SqL X.K H a vs):∃its:List Value,Vals vs its/\s.heap.IsList a its.toArray/\vs.length<=sizeLine:=by
 obtain⟨its,r,p,z⟩:=I.list h;exact⟨its,r,p.isList,z⟩
theorem aE(I:Inv X pins σ H s)(hK:C.K=X.K){a:Addr}{vs:List V}(h:LAt C.K S H a vs):∃its:List Value,Vals vs its/\s.heap.IsList a its.toArray/\vs.length<=sizeLine:=qj I (hK▸h.sq)
theorem qk(I:Inv X pins σ H s)(hK:C.K=X.K){a:Addr}{vs ws:List V}(h:LAt C.K S H a vs)(h':LAt C.K S H a ws):vs=ws:=I.iP (hK▸h.sq) (hK▸h'.sq)
theorem f9(I:Inv X pins σ H s)(hK:C.K=X.K){a:Addr}{vs ws:List V}(h:LAt C.K S H a vs)(h':SqT C.K H a ws):False:=by
 obtain⟨its,_,p,_⟩:=aE I hK h;rw[hK]at h';obtain⟨its',_,p',_⟩:=I.tuple h';exact SeqAt.ne_of_list_tuple p p' rfl
mutual
theorem oO(I:Inv X pins σ H s)(hK:C.K=X.K):∀(u w:U) (v:V) (n:Nat),eqD n u=true->eqD n w=true->Rep C S H u v->Rep C S H w v->aW u w=true
 |.non,w,v,n,_,h2,h3,h4=>by
  cases w<;>first|rfl|(simp only[Rep]at h3 h4;subst h3;first|(cases h4;done)|(obtain⟨a,vs,e,_⟩:=h4;cases e;done))|(cases n<;>simp[eqD]at h2)
 |.bl b,w,v,n,_,h2,h3,h4=>by
  cases w<;>first|(simp only[Rep]at h3 h4;subst h3;first|(cases h4;done)|(cases h4;simp[aW];done)|(obtain⟨a,vs,e,_⟩:=h4;cases e;done))|(cases n<;>simp[eqD]at h2)
 |.int b,w,v,n,_,h2,h3,h4=>by
  cases w<;>first|(simp only[Rep]at h3 h4;subst h3;first|(cases h4;done)|(cases h4;simp[aW];done)|(obtain⟨a,vs,e,_⟩:=h4;cases e;done))|(cases n<;>simp[eqD]at h2)
 |.str b,w,v,n,_,h2,h3,h4=>by
  cases w<;>first|(simp only[Rep]at h3 h4;subst h3;first|(cases h4;done)|(cases h4;simp[aW];done)|(obtain⟨a,vs,e,_⟩:=h4;cases e;done))|(cases n<;>simp[eqD]at h2)
 |.tup us,w,v,n,h1,h2,h3,h4=>by
  obtain⟨a,vs,rfl,q1,q2⟩:=h3;cases n with
  |zero=>simp[eqD]at h1
  |succ n =>
   cases w with
   |tup ws =>
    obtain⟨a',vs',e,q3,q4⟩:=h4;cases e;rw[hK]at q1 q3;have:=I.eS q1 q3;subst this;simp only[eqD]at h1 h2;exact lO I hK us ws vs n h1 h2 q2 q4
   |lst ws =>
    obtain⟨a',vs',e,q3,q4⟩:=h4;cases e;exact(f9 I hK q3 q1).elim
   |dic=>simp[eqD]at h2
   |rdc=>simp[eqD]at h2
   |_=>simp only[Rep]at h4;cases h4
 |.lst us,w,v,n,h1,h2,h3,h4=>by
  obtain⟨a,vs,rfl,q1,q2⟩:=h3;cases n with
  |zero=>simp[eqD]at h1
  |succ n =>
   cases w with
   |lst ws =>
    obtain⟨a',vs',e,q3,q4⟩:=h4;cases e;have:=qk I hK q1 q3;subst this;simp only[eqD]at h1 h2;exact lO I hK us ws vs n h1 h2 q2 q4
   |tup ws =>
    obtain⟨a',vs',e,q3,q4⟩:=h4;cases e;exact(f9 I hK q1 q3).elim
   |dic=>simp[eqD]at h2
   |rdc=>simp[eqD]at h2
   |_=>simp only[Rep]at h4;cases h4
 |.dic _ _,_,_,n,h,_,_,_=>by cases n<;>simp[eqD]at h
 |.rdc _,_,_,n,h,_,_,_=>by cases n<;>simp[eqD]at h
theorem lO(I:Inv X pins σ H s)(hK:C.K=X.K):∀(us ws:List U) (vs:List V) (n:Nat),bI n us=true->bI n ws=true->ai C S H us vs->ai C S H ws vs->bx us ws=true
 |[],[],_,_,_,_,_,_=>rfl
 |[],w::ws,vs,n,_,_,h3,h4=>by
  obtain⟨v,r,e,_⟩:=h4;simp only[ai]at h3;rw[h3]at e;cases e
 |u::us,[],vs,n,_,_,h3,h4=>by
  obtain⟨v,r,e,_⟩:=h3;simp only[ai]at h4;rw[h4]at e;cases e
 |u::us,w::ws,vs,n,h1,h2,h3,h4=>by
  obtain⟨v,r,rfl,q1,q2⟩:=h3;obtain⟨v',r',e,q3,q4⟩:=h4;cases e;simp only[bI,Bool.and_eq_true]at h1 h2;simp only[bx,Bool.and_eq_true];exact⟨oO I hK u w v n h1.1 h2.1 q1 q3,lO I hK us ws r n h1.2 h2.2 q2 q4⟩
end
mutual
theorem ql(I:Inv X pins σ H s)(hK:C.K=X.K):∀(u w:U) (v:V) (n:Nat),eqD n u=true->eqD n w=true->Rep C S H u v->Rep C S H w v->u=w
 |.non,w,v,n,_,h2,h3,h4=>by
  cases w<;>first|rfl|(simp only[Rep]at h3 h4;subst h3;first|(cases h4;done)|(obtain⟨a,vs,e,_⟩:=h4;cases e;done))|(cases n<;>simp[eqD]at h2)
 |.bl b,w,v,n,_,h2,h3,h4=>by
  cases w<;>first|(simp only[Rep]at h3 h4;subst h3;first|(cases h4;done)|(cases h4;rfl;done)|(obtain⟨a,vs,e,_⟩:=h4;cases e;done))|(cases n<;>simp[eqD]at h2)
 |.int b,w,v,n,_,h2,h3,h4=>by
  cases w<;>first|(simp only[Rep]at h3 h4;subst h3;first|(cases h4;done)|(cases h4;rfl;done)|(obtain⟨a,vs,e,_⟩:=h4;cases e;done))|(cases n<;>simp[eqD]at h2)
 |.str b,w,v,n,_,h2,h3,h4=>by
  cases w<;>first|(simp only[Rep]at h3 h4;subst h3;first|(cases h4;done)|(cases h4;rfl;done)|(obtain⟨a,vs,e,_⟩:=h4;cases e;done))|(cases n<;>simp[eqD]at h2)
 |.tup us,w,v,n,h1,h2,h3,h4=>by
  obtain⟨a,vs,rfl,q1,q2⟩:=h3;cases n with
  |zero=>simp[eqD]at h1
  |succ n =>
   cases w with
   |tup ws =>
    obtain⟨a',vs',e,q3,q4⟩:=h4;cases e;rw[hK]at q1 q3;have:=I.eS q1 q3;subst this;simp only[eqD]at h1 h2;rw[jy I hK us ws vs n h1 h2 q2 q4]
   |lst ws =>
    obtain⟨a',vs',e,q3,q4⟩:=h4;cases e;exact(f9 I hK q3 q1).elim
   |dic=>simp[eqD]at h2
   |rdc=>simp[eqD]at h2
   |_=>simp only[Rep]at h4;cases h4
 |.lst us,w,v,n,h1,h2,h3,h4=>by
  obtain⟨a,vs,rfl,q1,q2⟩:=h3;cases n with
  |zero=>simp[eqD]at h1
  |succ n =>
   cases w with
   |lst ws =>
    obtain⟨a',vs',e,q3,q4⟩:=h4;cases e;have:=qk I hK q1 q3;subst this;simp only[eqD]at h1 h2;rw[jy I hK us ws vs n h1 h2 q2 q4]
   |tup ws =>
    obtain⟨a',vs',e,q3,q4⟩:=h4;cases e;exact(f9 I hK q1 q3).elim
   |dic=>simp[eqD]at h2
   |rdc=>simp[eqD]at h2
   |_=>simp only[Rep]at h4;cases h4
 |.dic _ _,_,_,n,h,_,_,_=>by cases n<;>simp[eqD]at h
 |.rdc _,_,_,n,h,_,_,_=>by cases n<;>simp[eqD]at h
theorem jy(I:Inv X pins σ H s)(hK:C.K=X.K):∀(us ws:List U) (vs:List V) (n:Nat),bI n us=true->bI n ws=true->ai C S H us vs->ai C S H ws vs->us=ws
 |[],[],_,_,_,_,_,_=>rfl
 |[],w::ws,vs,n,_,_,h3,h4=>by
  obtain⟨v,r,e,_⟩:=h4;simp only[ai]at h3;rw[h3]at e;cases e
 |u::us,[],vs,n,_,_,h3,h4=>by
  obtain⟨v,r,e,_⟩:=h3;simp only[ai]at h4;rw[h4]at e;cases e
 |u::us,w::ws,vs,n,h1,h2,h3,h4=>by
  obtain⟨v,r,rfl,q1,q2⟩:=h3;obtain⟨v',r',e,q3,q4⟩:=h4;cases e;simp only[bI,Bool.and_eq_true]at h1 h2;rw[ql I hK u w v n h1.1 h2.1 q1 q3,jy I hK us ws r n h1.2 h2.2 q2 q4]
end
theorem cn:∀{us ws:List U},us.length≠ws.length->bx us ws=false
 |[],[],h=>absurd rfl h
 |[],_::_,_=>rfl
 |_::_,[],_=>rfl
 |u::us,w::ws,h=>by
  rw[bx,cn (us:=us) (ws:=ws) (fun e=>h (by simp[e])),Bool.and_false]
theorem bJ:∀{us ws:List U},us.length=ws.length->bx us ws=(List.range us.length).all fun j=>aW (us.getD j .non) (ws.getD j .non)
 |[],[],_=>rfl
 |[],_::_,h=>by simp at h
 |_::_,[],h=>by simp at h
 |u::us,w::ws,h=>by
  have h':us.length=ws.length:=by simpa using h
  rw[bx,bJ h',List.length_cons,List.range_succ_eq_map,List.all_cons,List.all_map];rfl
mutual
theorem tQ(I:Inv X pins σ H s)(hK:C.K=X.K):∀(u w:U) (v v':V) (x x':Value) (n:Nat) (A:Around),eqD n u=true->eqD n w=true->Rep C S H u v->Rep C S H w v'->RelV v x->RelV v' x'->A.units+n<cLine->SeqAt.EqAt A s x x' (aW u w)
 |.non,w,v,v',x,x',n,A,_,h2,h3,h4,r1,r2,hu=>by
  simp only[Rep]at h3;subst h3;cases r1;cases w with
  |non=>simp only[Rep]at h4;subst h4;cases r2;exact SeqAt.EqAt.same _
  |bl b=>simp only[Rep]at h4;subst h4;cases r2;exact SeqAt.EqAt.none_bool b
  |int b=>simp only[Rep]at h4;subst h4;obtain⟨t,rfl⟩:=r2;exact SeqAt.EqAt.none_int b t
  |str b=>simp only[Rep]at h4;subst h4;obtain⟨t,rfl⟩:=r2;exact SeqAt.EqAt.none_str b t
  |tup ws=>obtain⟨a,vs,rfl,q1,q2⟩:=h4;cases r2;rw[hK]at q1;obtain⟨its,_,p,_⟩:=I.tuple q1;exact SeqAt.EqAt.none_tuple p (by omega)
  |lst ws=>obtain⟨a,vs,rfl,q1,q2⟩:=h4;cases r2;obtain⟨its,_,p,_⟩:=aE I hK q1;exact SeqAt.EqAt.none_list p (by omega)
  |dic=>cases n<;>simp[eqD]at h2
  |rdc=>cases n<;>simp[eqD]at h2
 |.bl a,w,v,v',x,x',n,A,_,h2,h3,h4,r1,r2,hu=>by
  simp only[Rep]at h3;subst h3;cases r1;cases w with
  |non=>simp only[Rep]at h4;subst h4;cases r2;exact SeqAt.EqAt.bool_none a
  |bl b=>simp only[Rep]at h4;subst h4;cases r2;exact SeqAt.EqAt.bool_bool a b
  |int b=>simp only[Rep]at h4;subst h4;obtain⟨t,rfl⟩:=r2;exact SeqAt.EqAt.bool_int a b t
  |str b=>simp only[Rep]at h4;subst h4;obtain⟨t,rfl⟩:=r2;exact SeqAt.EqAt.bool_str a b t
  |tup ws=>obtain⟨a,vs,rfl,q1,q2⟩:=h4;cases r2;rw[hK]at q1;obtain⟨its,_,p,_⟩:=I.tuple q1;exact SeqAt.EqAt.bool_tuple _ p (by omega)
  |lst ws=>obtain⟨a,vs,rfl,q1,q2⟩:=h4;cases r2;obtain⟨its,_,p,_⟩:=aE I hK q1;exact SeqAt.EqAt.bool_list _ p (by omega)
  |dic=>cases n<;>simp[eqD]at h2
  |rdc=>cases n<;>simp[eqD]at h2
 |.int a,w,v,v',x,x',n,A,_,h2,h3,h4,r1,r2,hu=>by
  simp only[Rep]at h3;subst h3;obtain⟨t',rfl⟩:=r1;cases w with
  |non=>simp only[Rep]at h4;subst h4;cases r2;exact SeqAt.EqAt.int_none a t'
  |bl b=>simp only[Rep]at h4;subst h4;cases r2;exact SeqAt.EqAt.int_bool a t' b
  |int b=>simp only[Rep]at h4;subst h4;obtain⟨t,rfl⟩:=r2;exact SeqAt.EqAt.int_int a t' b t
  |str b=>simp only[Rep]at h4;subst h4;obtain⟨t,rfl⟩:=r2;exact SeqAt.EqAt.int_str a t' b t
  |tup ws=>obtain⟨a,vs,rfl,q1,q2⟩:=h4;cases r2;rw[hK]at q1;obtain⟨its,_,p,_⟩:=I.tuple q1;exact SeqAt.EqAt.int_tuple _ _ p (by omega)
  |lst ws=>obtain⟨a,vs,rfl,q1,q2⟩:=h4;cases r2;obtain⟨its,_,p,_⟩:=aE I hK q1;exact SeqAt.EqAt.int_list _ _ p (by omega)
  |dic=>cases n<;>simp[eqD]at h2
  |rdc=>cases n<;>simp[eqD]at h2
 |.str a,w,v,v',x,x',n,A,_,h2,h3,h4,r1,r2,hu=>by
  simp only[Rep]at h3;subst h3;obtain⟨t',rfl⟩:=r1;cases w with
  |non=>simp only[Rep]at h4;subst h4;cases r2;exact SeqAt.EqAt.str_none a t'
  |bl b=>simp only[Rep]at h4;subst h4;cases r2;exact SeqAt.EqAt.str_bool a t' b
  |int b=>simp only[Rep]at h4;subst h4;obtain⟨t,rfl⟩:=r2;exact SeqAt.EqAt.str_int a t' b t
  |str b=>simp only[Rep]at h4;subst h4;obtain⟨t,rfl⟩:=r2;exact SeqAt.EqAt.str_str a t' b t
  |tup ws=>obtain⟨a,vs,rfl,q1,q2⟩:=h4;cases r2;rw[hK]at q1;obtain⟨its,_,p,_⟩:=I.tuple q1;exact SeqAt.EqAt.str_tuple _ _ p (by omega)
  |lst ws=>obtain⟨a,vs,rfl,q1,q2⟩:=h4;cases r2;obtain⟨its,_,p,_⟩:=aE I hK q1;exact SeqAt.EqAt.str_list _ _ p (by omega)
  |dic=>cases n<;>simp[eqD]at h2
  |rdc=>cases n<;>simp[eqD]at h2
 |.tup us,w,v,v',x,x',n,A,h1,h2,h3,h4,r1,r2,hu=>by
  obtain⟨a,vs,rfl,q1,q2⟩:=id h3;cases r1;have q1':=q1;rw[hK]at q1';obtain⟨its,rv,p,_⟩:=I.tuple q1';cases n with
  |zero=>simp[eqD]at h1
  |succ n =>
   cases w with
   |tup ws =>
    obtain⟨a',vs',rfl,q3,q4⟩:=id h4;cases r2;by_cases e:a=a'
    ·subst e;rw[oO I hK (.tup us) (.tup ws) (.ref a) (n+1) h1 h2 h3 h4];exact SeqAt.EqAt.same _
    ·rw[hK]at q3;obtain⟨its',rv',p',_⟩:=I.tuple q3;simp only[eqD]at h1 h2;have l1:=q2.len;have l2:=q4.len;have l3:=rv.length;have l4:=rv'.length;have ee:aW (.tup us) (.tup ws)=((List.range (min its.toArray.size its'.toArray.size)).all (fun j=>aW (us.getD j .non) (ws.getD j .non))&&its.toArray.size==its'.toArray.size):=by
      show bx us ws=_;simp only[List.size_toArray];by_cases el:us.length=ws.length
      ·rw[bJ el,show min its.length its'.length=us.length by omega,show(its.length==its'.length)=true by simp;omega,Bool.and_true]
      ·rw[cn el,show(its.length==its'.length)=false by simp;omega,Bool.and_false]
     rw[ee];refine .of_refs e (.tuples p p' (by omega) fun j h1' h2'=>?_);simp only[List.size_toArray]at h1' h2';exact jz I hK us ws vs vs' its its' n A.in1 h1 h2 q2 q4 rv rv' (by show A.units+1+n < _;omega) j (us.getD j .non) (ws.getD j .non) _ _ (by rw[List.getD_eq_getElem?_getD,List.getElem?_eq_getElem (by omega)];simp) (by rw[List.getD_eq_getElem?_getD,List.getElem?_eq_getElem (by omega)];simp) (by simp) (by simp)
   |lst ws=>obtain⟨a',vs',rfl,q3,q4⟩:=h4;cases r2;obtain⟨its',_,p',_⟩:=aE I hK q3;exact SeqAt.EqAt.tuple_list p p' (by omega)
   |non=>simp only[Rep]at h4;subst h4;cases r2;exact SeqAt.EqAt.tuple_none p (by omega)
   |bl b=>simp only[Rep]at h4;subst h4;cases r2;exact SeqAt.EqAt.tuple_bool b p (by omega)
   |int b=>simp only[Rep]at h4;subst h4;obtain⟨t,rfl⟩:=r2;exact SeqAt.EqAt.tuple_int b t p (by omega)
   |str b=>simp only[Rep]at h4;subst h4;obtain⟨t,rfl⟩:=r2;exact SeqAt.EqAt.tuple_str b t p (by omega)
   |dic=>simp[eqD]at h2
   |rdc=>simp[eqD]at h2
 |.lst us,w,v,v',x,x',n,A,h1,h2,h3,h4,r1,r2,hu=>by
  obtain⟨a,vs,rfl,q1,q2⟩:=id h3;cases r1;obtain⟨its,rv,p,_⟩:=aE I hK q1;cases n with
  |zero=>simp[eqD]at h1
  |succ n =>
   cases w with
   |lst ws =>
    obtain⟨a',vs',rfl,q3,q4⟩:=id h4;cases r2;by_cases e:a=a'
    ·subst e;rw[oO I hK (.lst us) (.lst ws) (.ref a) (n+1) h1 h2 h3 h4];exact SeqAt.EqAt.same _
    ·obtain⟨its',rv',p',_⟩:=aE I hK q3;simp only[eqD]at h1 h2;have l1:=q2.len;have l2:=q4.len;have l3:=rv.length;have l4:=rv'.length;by_cases el:us.length=ws.length
     ·have ee:aW (.lst us) (.lst ws)=(List.range its.toArray.size).all (fun j=>aW (us.getD j .non) (ws.getD j .non)):=by
       show bx us ws=_;rw[bJ el,List.size_toArray,show its.length=us.length by omega]
      rw[ee];refine .of_refs e (.lists p p' (by simp;omega) (by omega) fun j h1' h2'=>?_);simp only[List.size_toArray]at h1' h2';exact jz I hK us ws vs vs' its its' n A.in1 h1 h2 q2 q4 rv rv' (by show A.units+1+n < _;omega) j (us.getD j .non) (ws.getD j .non) _ _ (by rw[List.getD_eq_getElem?_getD,List.getElem?_eq_getElem (by omega)];simp) (by rw[List.getD_eq_getElem?_getD,List.getElem?_eq_getElem (by omega)];simp) (by simp) (by simp)
     ·have ee:aW (.lst us) (.lst ws)=false:=cn el;rw[ee];exact .of_refs e (.lists_lengths p p' (by simp;omega) (by omega))
   |tup ws=>obtain⟨a',vs',rfl,q3,q4⟩:=h4;cases r2;rw[hK]at q3;obtain⟨its',_,p',_⟩:=I.tuple q3;exact SeqAt.EqAt.list_tuple p p' (by omega)
   |non=>simp only[Rep]at h4;subst h4;cases r2;exact SeqAt.EqAt.list_none p (by omega)
   |bl b=>simp only[Rep]at h4;subst h4;cases r2;exact SeqAt.EqAt.list_bool b p (by omega)
   |int b=>simp only[Rep]at h4;subst h4;obtain⟨t,rfl⟩:=r2;exact SeqAt.EqAt.list_int b t p (by omega)
   |str b=>simp only[Rep]at h4;subst h4;obtain⟨t,rfl⟩:=r2;exact SeqAt.EqAt.list_str b t p (by omega)
   |dic=>simp[eqD]at h2
   |rdc=>simp[eqD]at h2
 |.dic _ _,_,_,_,_,_,n,_,h,_,_,_,_,_,_=>by cases n<;>simp[eqD]at h
 |.rdc _,_,_,_,_,_,n,_,h,_,_,_,_,_,_=>by cases n<;>simp[eqD]at h
theorem jz(I:Inv X pins σ H s)(hK:C.K=X.K):∀(us ws:List U) (vs vs':List V) (its its':List Value) (n:Nat) (A:Around),bI n us=true->bI n ws=true->ai C S H us vs->ai C S H ws vs'->Vals vs its->Vals vs' its'->A.units+n<cLine ->
  ∀(j:Nat) (u w:U) (x x':Value),us[j]?=some u->ws[j]?=some w->its[j]?=some x->its'[j]?=some x'->SeqAt.EqAt A s x x' (aW u w)
 |[],_,_,_,_,_,_,_,_,_,_,_,_,_,_,j,_,_,_,_,e,_,_,_=>by simp at e
 |u::us,[],_,_,_,_,_,_,_,_,_,_,_,_,_,j,_,_,_,_,_,e,_,_=>by simp at e
 |u::us,w::ws,vs,vs',its,its',n,A,h1,h2,h3,h4,r1,r2,hu,j,u',w',x,x',e1,e2,e3,e4=>by
  obtain⟨v,r,rfl,q1,q2⟩:=h3;obtain⟨v',r',rfl,q3,q4⟩:=h4;simp only[bI,Bool.and_eq_true]at h1 h2;cases r1 with
  |cons ra rb =>
   cases r2 with
   |cons rc rd =>
    cases j with
    |zero =>
     simp at e1 e2 e3 e4;subst e1 e2 e3 e4;exact tQ I hK u w v v' _ _ n A h1.1 h2.1 q1 q3 ra rc hu
    |succ j=>exact jz I hK us ws r r' _ _ n A h1.2 h2.2 q2 q4 rb rd hu j u' w' x x' (by simpa using e1) (by simpa using e2) (by simpa using e3) (by simpa using e4)
end
end
end TM
namespace TM
open PySem L2
section
variable{X:Cx}{pins:List (Addr×Obj)}{σ:St}{H:Hp}{s:Shared}{C:Ct}{S:Addr->Prop}
theorem Bx(I:Inv X pins σ H s)(hK:C.K=X.K)(u w:U)(v v':V)(x x':Value)(n:Nat)(A:Around)(h1:eqD n u=true)(h2:eqD n w=true)(h3:Rep C S H u v)(h4:Rep C S H w v')(r1:RelV v x)(r2:RelV v' x')(hu:A.units+n<cLine):SeqAt.RcAt A s x x' (aW u w):=by
 cases u with
 |non =>
  simp only[Rep]at h3;subst h3;cases r1;cases w with
  |non=>simp only[Rep]at h4;subst h4;cases r2;exact SeqAt.RcAt.none_none
  |bl q=>simp only[Rep]at h4;subst h4;cases r2;exact SeqAt.RcAt.none_bool  q
  |int q=>simp only[Rep]at h4;subst h4;obtain⟨t,rfl⟩:=r2;exact SeqAt.RcAt.none_int  q t
  |str q=>simp only[Rep]at h4;subst h4;obtain⟨t,rfl⟩:=r2;exact SeqAt.RcAt.none_str  q t
  |tup ws=>obtain⟨a',vs',rfl,q3,q4⟩:=id h4;cases r2;rw[hK]at q3;obtain⟨its',rv',p',_⟩:=I.tuple q3;exact SeqAt.RcAt.none_tuple  p' (by omega)
  |lst ws=>obtain⟨a',vs',rfl,q3,q4⟩:=id h4;cases r2;obtain⟨its',rv',p',_⟩:=aE I hK q3;exact SeqAt.RcAt.none_list  p' (by omega)
  |dic=>cases n<;>simp[eqD]at h2
  |rdc=>cases n<;>simp[eqD]at h2
 |bl p =>
  simp only[Rep]at h3;subst h3;cases r1;cases w with
  |non=>simp only[Rep]at h4;subst h4;cases r2;exact SeqAt.RcAt.bool_none p
  |bl q=>simp only[Rep]at h4;subst h4;cases r2;exact SeqAt.RcAt.bool_bool p q
  |int q=>simp only[Rep]at h4;subst h4;obtain⟨t,rfl⟩:=r2;exact SeqAt.RcAt.bool_int p q t
  |str q=>simp only[Rep]at h4;subst h4;obtain⟨t,rfl⟩:=r2;exact SeqAt.RcAt.bool_str p q t
  |tup ws=>obtain⟨a',vs',rfl,q3,q4⟩:=id h4;cases r2;rw[hK]at q3;obtain⟨its',rv',p',_⟩:=I.tuple q3;exact SeqAt.RcAt.bool_tuple p p' (by omega)
  |lst ws=>obtain⟨a',vs',rfl,q3,q4⟩:=id h4;cases r2;obtain⟨its',rv',p',_⟩:=aE I hK q3;exact SeqAt.RcAt.bool_list p p' (by omega)
  |dic=>cases n<;>simp[eqD]at h2
  |rdc=>cases n<;>simp[eqD]at h2
 |int p =>
  simp only[Rep]at h3;subst h3;obtain⟨t',rfl⟩:=r1;cases w with
  |non=>simp only[Rep]at h4;subst h4;cases r2;exact SeqAt.RcAt.int_none p t'
  |bl q=>simp only[Rep]at h4;subst h4;cases r2;exact SeqAt.RcAt.int_bool p t' q
  |int q=>simp only[Rep]at h4;subst h4;obtain⟨t,rfl⟩:=r2;exact SeqAt.RcAt.int_int p t' q t
  |str q=>simp only[Rep]at h4;subst h4;obtain⟨t,rfl⟩:=r2;exact SeqAt.RcAt.int_str p t' q t
  |tup ws=>obtain⟨a',vs',rfl,q3,q4⟩:=id h4;cases r2;rw[hK]at q3;obtain⟨its',rv',p',_⟩:=I.tuple q3;exact SeqAt.RcAt.int_tuple p t' p' (by omega)
  |lst ws=>obtain⟨a',vs',rfl,q3,q4⟩:=id h4;cases r2;obtain⟨its',rv',p',_⟩:=aE I hK q3;exact SeqAt.RcAt.int_list p t' p' (by omega)
  |dic=>cases n<;>simp[eqD]at h2
  |rdc=>cases n<;>simp[eqD]at h2
 |str p =>
  simp only[Rep]at h3;subst h3;obtain⟨t',rfl⟩:=r1;cases w with
  |non=>simp only[Rep]at h4;subst h4;cases r2;exact SeqAt.RcAt.str_none p t'
  |bl q=>simp only[Rep]at h4;subst h4;cases r2;exact SeqAt.RcAt.str_bool p t' q
  |int q=>simp only[Rep]at h4;subst h4;obtain⟨t,rfl⟩:=r2;exact SeqAt.RcAt.str_int p t' q t
  |str q=>simp only[Rep]at h4;subst h4;obtain⟨t,rfl⟩:=r2;exact SeqAt.RcAt.str_str p t' q t
  |tup ws=>obtain⟨a',vs',rfl,q3,q4⟩:=id h4;cases r2;rw[hK]at q3;obtain⟨its',rv',p',_⟩:=I.tuple q3;exact SeqAt.RcAt.str_tuple p t' p' (by omega)
  |lst ws=>obtain⟨a',vs',rfl,q3,q4⟩:=id h4;cases r2;obtain⟨its',rv',p',_⟩:=aE I hK q3;exact SeqAt.RcAt.str_list p t' p' (by omega)
  |dic=>cases n<;>simp[eqD]at h2
  |rdc=>cases n<;>simp[eqD]at h2
 |tup us =>
  obtain⟨a,vs,rfl,q1,q2⟩:=id h3;cases r1;rw[hK]at q1;obtain⟨its,rv,p,_⟩:=I.tuple q1;cases w with
  |non=>simp only[Rep]at h4;subst h4;cases r2;exact SeqAt.RcAt.tuple_none  p (by omega)
  |bl q=>simp only[Rep]at h4;subst h4;cases r2;exact SeqAt.RcAt.tuple_bool q p (by omega)
  |int q=>simp only[Rep]at h4;subst h4;obtain⟨t,rfl⟩:=r2;exact SeqAt.RcAt.tuple_int q t p (by omega)
  |str q=>simp only[Rep]at h4;subst h4;obtain⟨t,rfl⟩:=r2;exact SeqAt.RcAt.tuple_str q t p (by omega)
  |tup ws =>
   obtain⟨a',vs',rfl,q3,q4⟩:=id h4;cases r2;rw[hK]at q3;obtain⟨its',rv',p',_⟩:=I.tuple q3;cases n with
   |zero=>simp[eqD]at h1
   |succ n =>
    simp only[eqD]at h1 h2;have l1:=q2.len;have l2:=q4.len;have l3:=rv.length;have l4:=rv'.length;have ee:aW (.tup us) (.tup ws)=((List.range (min its.toArray.size its'.toArray.size)).all (fun j=>aW (us.getD j .non) (ws.getD j .non))&&its.toArray.size==its'.toArray.size):=by
     show bx us ws=_;simp only[List.size_toArray];by_cases el:us.length=ws.length
     ·rw[bJ el,show min its.length its'.length=us.length by omega,show(its.length==its'.length)=true by simp;omega,Bool.and_true]
     ·rw[cn el,show(its.length==its'.length)=false by simp;omega,Bool.and_false]
    rw[ee];refine SeqAt.RcAt.tuples p p' (by omega) fun j h1' h2'=>?_;simp only[List.size_toArray]at h1' h2';exact jz I hK us ws vs vs' its its' n A.in1 h1 h2 q2 q4 rv rv' (by show A.units+1+n < _;omega) j (us.getD j .non) (ws.getD j .non) _ _ (by rw[List.getD_eq_getElem?_getD,List.getElem?_eq_getElem (by omega)];simp) (by rw[List.getD_eq_getElem?_getD,List.getElem?_eq_getElem (by omega)];simp) (by simp) (by simp)
  |lst ws=>obtain⟨a',vs',rfl,q3,q4⟩:=id h4;cases r2;obtain⟨its',rv',p',_⟩:=aE I hK q3;exact SeqAt.RcAt.tuple_list p p' (by omega)
  |dic=>cases n<;>simp[eqD]at h2
  |rdc=>cases n<;>simp[eqD]at h2
 |lst us =>
  obtain⟨a,vs,rfl,q1,q2⟩:=id h3;cases r1;obtain⟨its,rv,p,_⟩:=aE I hK q1;cases w with
  |non=>simp only[Rep]at h4;subst h4;cases r2;exact SeqAt.RcAt.list_none  p (by omega)
  |bl q=>simp only[Rep]at h4;subst h4;cases r2;exact SeqAt.RcAt.list_bool q p (by omega)
  |int q=>simp only[Rep]at h4;subst h4;obtain⟨t,rfl⟩:=r2;exact SeqAt.RcAt.list_int q t p (by omega)
  |str q=>simp only[Rep]at h4;subst h4;obtain⟨t,rfl⟩:=r2;exact SeqAt.RcAt.list_str q t p (by omega)
  |tup ws=>obtain⟨a',vs',rfl,q3,q4⟩:=id h4;cases r2;rw[hK]at q3;obtain⟨its',rv',p',_⟩:=I.tuple q3;exact SeqAt.RcAt.list_tuple p p' (by omega)
  |lst ws =>
   obtain⟨a',vs',rfl,q3,q4⟩:=id h4;cases r2;obtain⟨its',rv',p',_⟩:=aE I hK q3;cases n with
   |zero=>simp[eqD]at h1
   |succ n =>
    simp only[eqD]at h1 h2;have l1:=q2.len;have l2:=q4.len;have l3:=rv.length;have l4:=rv'.length;by_cases el:us.length=ws.length
    ·have ee:aW (.lst us) (.lst ws)=(List.range its.toArray.size).all (fun j=>aW (us.getD j .non) (ws.getD j .non)):=by
      show bx us ws=_;rw[bJ el,List.size_toArray,show its.length=us.length by omega]
     rw[ee];refine SeqAt.RcAt.lists p p' (by simp;omega) (by omega) fun j h1' h2'=>?_;simp only[List.size_toArray]at h1' h2';exact jz I hK us ws vs vs' its its' n A.in1 h1 h2 q2 q4 rv rv' (by show A.units+1+n < _;omega) j (us.getD j .non) (ws.getD j .non) _ _ (by rw[List.getD_eq_getElem?_getD,List.getElem?_eq_getElem (by omega)];simp) (by rw[List.getD_eq_getElem?_getD,List.getElem?_eq_getElem (by omega)];simp) (by simp) (by simp)
    ·have ee:aW (.lst us) (.lst ws)=false:=cn el;rw[ee];exact SeqAt.RcAt.lists_lengths p p' (by simp;omega) (by omega)
  |dic=>cases n<;>simp[eqD]at h2
  |rdc=>cases n<;>simp[eqD]at h2
 |dic=>cases n<;>simp[eqD]at h1
 |rdc=>cases n<;>simp[eqD]at h1
theorem yF(I:Inv X pins σ H s)(hK:C.K=X.K)(u w:U)(v v':V)(x x':Value)(n:Nat)(A:Around)(h1:eqD n u=true)(h2:eqD n w=true)(h3:Rep C S H u v)(h4:Rep C S H w v')(r1:RelV v x)(r2:RelV v' x')(hu:A.units+n<cLine):SeqAt.RcNeAt A s x x' (!(aW u w)):=by
 cases u with
 |non =>
  simp only[Rep]at h3;subst h3;cases r1;cases w with
  |non=>simp only[Rep]at h4;subst h4;cases r2;exact SeqAt.RcNeAt.none_none
  |bl q=>simp only[Rep]at h4;subst h4;cases r2;exact SeqAt.RcNeAt.none_bool  q
  |int q=>simp only[Rep]at h4;subst h4;obtain⟨t,rfl⟩:=r2;exact SeqAt.RcNeAt.none_int  q t
  |str q=>simp only[Rep]at h4;subst h4;obtain⟨t,rfl⟩:=r2;exact SeqAt.RcNeAt.none_str  q t
  |tup ws=>obtain⟨a',vs',rfl,q3,q4⟩:=id h4;cases r2;rw[hK]at q3;obtain⟨its',rv',p',_⟩:=I.tuple q3;exact SeqAt.RcNeAt.none_tuple  p' (by omega)
  |lst ws=>obtain⟨a',vs',rfl,q3,q4⟩:=id h4;cases r2;obtain⟨its',rv',p',_⟩:=aE I hK q3;exact SeqAt.RcNeAt.none_list  p' (by omega)
  |dic=>cases n<;>simp[eqD]at h2
  |rdc=>cases n<;>simp[eqD]at h2
 |bl p =>
  simp only[Rep]at h3;subst h3;cases r1;cases w with
  |non=>simp only[Rep]at h4;subst h4;cases r2;exact SeqAt.RcNeAt.bool_none p
  |bl q=>simp only[Rep]at h4;subst h4;cases r2;exact SeqAt.RcNeAt.bool_bool p q
  |int q=>simp only[Rep]at h4;subst h4;obtain⟨t,rfl⟩:=r2;exact SeqAt.RcNeAt.bool_int p q t
  |str q=>simp only[Rep]at h4;subst h4;obtain⟨t,rfl⟩:=r2;exact SeqAt.RcNeAt.bool_str p q t
  |tup ws=>obtain⟨a',vs',rfl,q3,q4⟩:=id h4;cases r2;rw[hK]at q3;obtain⟨its',rv',p',_⟩:=I.tuple q3;exact SeqAt.RcNeAt.bool_tuple p p' (by omega)
  |lst ws=>obtain⟨a',vs',rfl,q3,q4⟩:=id h4;cases r2;obtain⟨its',rv',p',_⟩:=aE I hK q3;exact SeqAt.RcNeAt.bool_list p p' (by omega)
  |dic=>cases n<;>simp[eqD]at h2
  |rdc=>cases n<;>simp[eqD]at h2
 |int p =>
  simp only[Rep]at h3;subst h3;obtain⟨t',rfl⟩:=r1;cases w with
  |non=>simp only[Rep]at h4;subst h4;cases r2;exact SeqAt.RcNeAt.int_none p t'
  |bl q=>simp only[Rep]at h4;subst h4;cases r2;exact SeqAt.RcNeAt.int_bool p t' q
  |int q=>simp only[Rep]at h4;subst h4;obtain⟨t,rfl⟩:=r2;exact SeqAt.RcNeAt.int_int p t' q t
  |str q=>simp only[Rep]at h4;subst h4;obtain⟨t,rfl⟩:=r2;exact SeqAt.RcNeAt.int_str p t' q t
  |tup ws=>obtain⟨a',vs',rfl,q3,q4⟩:=id h4;cases r2;rw[hK]at q3;obtain⟨its',rv',p',_⟩:=I.tuple q3;exact SeqAt.RcNeAt.int_tuple p t' p' (by omega)
  |lst ws=>obtain⟨a',vs',rfl,q3,q4⟩:=id h4;cases r2;obtain⟨its',rv',p',_⟩:=aE I hK q3;exact SeqAt.RcNeAt.int_list p t' p' (by omega)
  |dic=>cases n<;>simp[eqD]at h2
  |rdc=>cases n<;>simp[eqD]at h2
 |str p =>
  simp only[Rep]at h3;subst h3;obtain⟨t',rfl⟩:=r1;cases w with
  |non=>simp only[Rep]at h4;subst h4;cases r2;exact SeqAt.RcNeAt.str_none p t'
  |bl q=>simp only[Rep]at h4;subst h4;cases r2;exact SeqAt.RcNeAt.str_bool p t' q
  |int q=>simp only[Rep]at h4;subst h4;obtain⟨t,rfl⟩:=r2;exact SeqAt.RcNeAt.str_int p t' q t
  |str q=>simp only[Rep]at h4;subst h4;obtain⟨t,rfl⟩:=r2;exact SeqAt.RcNeAt.str_str p t' q t
  |tup ws=>obtain⟨a',vs',rfl,q3,q4⟩:=id h4;cases r2;rw[hK]at q3;obtain⟨its',rv',p',_⟩:=I.tuple q3;exact SeqAt.RcNeAt.str_tuple p t' p' (by omega)
  |lst ws=>obtain⟨a',vs',rfl,q3,q4⟩:=id h4;cases r2;obtain⟨its',rv',p',_⟩:=aE I hK q3;exact SeqAt.RcNeAt.str_list p t' p' (by omega)
  |dic=>cases n<;>simp[eqD]at h2
  |rdc=>cases n<;>simp[eqD]at h2
 |tup us =>
  obtain⟨a,vs,rfl,q1,q2⟩:=id h3;cases r1;rw[hK]at q1;obtain⟨its,rv,p,_⟩:=I.tuple q1;cases w with
  |non=>simp only[Rep]at h4;subst h4;cases r2;exact SeqAt.RcNeAt.tuple_none  p (by omega)
  |bl q=>simp only[Rep]at h4;subst h4;cases r2;exact SeqAt.RcNeAt.tuple_bool q p (by omega)
  |int q=>simp only[Rep]at h4;subst h4;obtain⟨t,rfl⟩:=r2;exact SeqAt.RcNeAt.tuple_int q t p (by omega)
  |str q=>simp only[Rep]at h4;subst h4;obtain⟨t,rfl⟩:=r2;exact SeqAt.RcNeAt.tuple_str q t p (by omega)
  |tup ws =>
   obtain⟨a',vs',rfl,q3,q4⟩:=id h4;cases r2;rw[hK]at q3;obtain⟨its',rv',p',_⟩:=I.tuple q3;cases n with
   |zero=>simp[eqD]at h1
   |succ n =>
    simp only[eqD]at h1 h2;have l1:=q2.len;have l2:=q4.len;have l3:=rv.length;have l4:=rv'.length;have ee:aW (.tup us) (.tup ws)=((List.range (min its.toArray.size its'.toArray.size)).all (fun j=>aW (us.getD j .non) (ws.getD j .non))&&its.toArray.size==its'.toArray.size):=by
     show bx us ws=_;simp only[List.size_toArray];by_cases el:us.length=ws.length
     ·rw[bJ el,show min its.length its'.length=us.length by omega,show(its.length==its'.length)=true by simp;omega,Bool.and_true]
     ·rw[cn el,show(its.length==its'.length)=false by simp;omega,Bool.and_false]
    rw[ee];refine SeqAt.RcNeAt.tuples p p' (by omega) fun j h1' h2'=>?_;simp only[List.size_toArray]at h1' h2';exact jz I hK us ws vs vs' its its' n A.in1 h1 h2 q2 q4 rv rv' (by show A.units+1+n < _;omega) j (us.getD j .non) (ws.getD j .non) _ _ (by rw[List.getD_eq_getElem?_getD,List.getElem?_eq_getElem (by omega)];simp) (by rw[List.getD_eq_getElem?_getD,List.getElem?_eq_getElem (by omega)];simp) (by simp) (by simp)
  |lst ws=>obtain⟨a',vs',rfl,q3,q4⟩:=id h4;cases r2;obtain⟨its',rv',p',_⟩:=aE I hK q3;exact SeqAt.RcNeAt.tuple_list p p' (by omega)
  |dic=>cases n<;>simp[eqD]at h2
  |rdc=>cases n<;>simp[eqD]at h2
 |lst us =>
  obtain⟨a,vs,rfl,q1,q2⟩:=id h3;cases r1;obtain⟨its,rv,p,_⟩:=aE I hK q1;cases w with
  |non=>simp only[Rep]at h4;subst h4;cases r2;exact SeqAt.RcNeAt.list_none  p (by omega)
  |bl q=>simp only[Rep]at h4;subst h4;cases r2;exact SeqAt.RcNeAt.list_bool q p (by omega)
  |int q=>simp only[Rep]at h4;subst h4;obtain⟨t,rfl⟩:=r2;exact SeqAt.RcNeAt.list_int q t p (by omega)
  |str q=>simp only[Rep]at h4;subst h4;obtain⟨t,rfl⟩:=r2;exact SeqAt.RcNeAt.list_str q t p (by omega)
  |tup ws=>obtain⟨a',vs',rfl,q3,q4⟩:=id h4;cases r2;rw[hK]at q3;obtain⟨its',rv',p',_⟩:=I.tuple q3;exact SeqAt.RcNeAt.list_tuple p p' (by omega)
  |lst ws =>
   obtain⟨a',vs',rfl,q3,q4⟩:=id h4;cases r2;obtain⟨its',rv',p',_⟩:=aE I hK q3;cases n with
   |zero=>simp[eqD]at h1
   |succ n =>
    simp only[eqD]at h1 h2;have l1:=q2.len;have l2:=q4.len;have l3:=rv.length;have l4:=rv'.length;by_cases el:us.length=ws.length
    ·have ee:aW (.lst us) (.lst ws)=(List.range its.toArray.size).all (fun j=>aW (us.getD j .non) (ws.getD j .non)):=by
      show bx us ws=_;rw[bJ el,List.size_toArray,show its.length=us.length by omega]
     rw[ee];refine SeqAt.RcNeAt.lists p p' (by simp;omega) (by omega) fun j h1' h2'=>?_;simp only[List.size_toArray]at h1' h2';exact jz I hK us ws vs vs' its its' n A.in1 h1 h2 q2 q4 rv rv' (by show A.units+1+n < _;omega) j (us.getD j .non) (ws.getD j .non) _ _ (by rw[List.getD_eq_getElem?_getD,List.getElem?_eq_getElem (by omega)];simp) (by rw[List.getD_eq_getElem?_getD,List.getElem?_eq_getElem (by omega)];simp) (by simp) (by simp)
    ·have ee:aW (.lst us) (.lst ws)=false:=cn el;rw[ee];exact SeqAt.RcNeAt.lists_lengths p p' (by simp;omega) (by omega)
  |dic=>cases n<;>simp[eqD]at h2
  |rdc=>cases n<;>simp[eqD]at h2
 |dic=>cases n<;>simp[eqD]at h1
 |rdc=>cases n<;>simp[eqD]at h1
end
end TM
namespace TM
open PySem L2 PyProof.Rows
noncomputable def tEv(C:Ct)(m:M (Kd×U)):TE:=fun σ H Q=>∃c0:Cf,c0.σ=σ/\c0.H=H/\Ok C c0/\W m c0.st fun r st'=>∀c v,c.σ=σ->c.st=st'->Ok C c->Nx c0 c->aA C c0 c r.1 r.2 v->Q v c.H
noncomputable def tTs(C:Ct)(m:M Bool):TT:=fun σ H Q=>∃c0:Cf,c0.σ=σ/\c0.H=H/\Ok C c0/\W m c0.st fun b st'=>∀c,c.σ=σ->c.st=st'->Ok C c->Nx c0 c->Q b c.H
noncomputable def cV(C:Ct)(c0 c:Cf):List (Kd×U)->List V->Prop
 |[],vs=>vs=[]
 |r::rs,vs=>∃v t,vs=v::t/\eF C c0 c r.1 r.2 v/\cV C c0 c rs t/\(r.1=.own->∀(i:Nat) r' v',rs[i]?=some r'->t[i]?=some v'->r'.1=.own->v'≠v)
noncomputable def tEs(C:Ct)(m:M (List (Kd×U))):TA:=fun σ H Q=>∃c0:Cf,c0.σ=σ/\c0.H=H/\Ok C c0/\W m c0.st fun rs st'=>∀c vs,c.σ=σ->c.st=st'->Ok C c->Nx c0 c->cV C c0 c rs vs->Q vs c.H
section
variable{X:Cx}{C:Ct}
theorem PE.weak{e:Expr}{t t':TE}(h:PE X e t)(i:∀σ H Q,t' σ H Q->t σ H Q):PE X e t':=fun pins s σ H Q I q=>h pins s σ H Q I (i σ H Q q)
theorem PT.weak{e:Expr}{t t':TT}(h:PT X e t)(i:∀σ H Q,t' σ H Q->t σ H Q):PT X e t':=fun pins s σ H Q I q=>h pins s σ H Q I (i σ H Q q)
theorem bU{rs:List (Kd×U)}{st:ag}{Q:Unit->ag->Prop}:W (au rs) st Q↔ba rs st/\Q () st:=by
 constructor
 ·rintro⟨a,st',e,h⟩;unfold au at e;split at e
  ·cases e;exact⟨by assumption,h⟩
  ·cases e
 ·rintro⟨h1,h2⟩;exact⟨(),st,by unfold au;rw[if_pos h1],h2⟩
theorem gI{r:Kd×U}{rs:List (Kd×U)}{st:ag}:ba (r::rs) st↔ba [r] st/\ba rs st:=by
 obtain⟨k,u⟩:=r;cases k<;>simp[ba]
theorem eF.t{c0 c:Cf}{k:Kd}{u:U}{v:V}(h:eF C c0 c k u v)(s:ba [(k,u)] c.st):aA C c0 c k u v:=by
 cases k with
 |own=>exact h
 |loc=>exact h
 |any=>exact h
 |bor j=>exact⟨s.1,h⟩
 |io=>exact h
 |ownD=>exact h
structure At2(C:Ct)(c0 c:Cf)(x y:Kd×U)(vx vy:V):Prop where
 hσ:c.σ=c0.σ
 ok:Ok C c
 nx:Nx c0 c
 rx:aA C c0 c x.1 x.2 vx
 ry:aA C c0 c y.1 y.2 vy
 ne:x.1=.own->y.1=.own->vy≠vx
theorem lP{c0 c1 c:Cf}{k k':Kd}{u u':U}{v v':V}(h:eF C c0 c1 k u v)(h':eF C c1 c k' u' v'):k=.own->k'=.own->v'≠v:=by
 rintro rfl rfl e;obtain⟨r,e1,_,_,_,h4⟩:=h;obtain⟨r',e2,h5,_⟩:=h';obtain⟨o,ho,_⟩:=h4.some;subst e1;rw[e2]at e;cases e;rw[ho]at h5;cases h5
variable{a b:Expr}{ma mb:M (Kd×U)}{pins:List (Addr×Obj)}{σ:L2.St}{H:Hp}{s:Shared}
theorem two{β:Type}{k:Kd×U->Kd×U->M β}{Post:β->ag->Prop}{α:Type}{f:Value->Value->Sem α}{Q':Value->Value->α->Shared->Prop}{c0:Cf}(ha:PE X a (tEv C ma))(hb:PE X b (tEv C mb))(I:Inv X pins c0.σ c0.H s)(ok:Ok C c0)
  (h:W (ma >>= fun x=>mb >>= fun y=>au [x,y] >>= fun _=>k x y) c0.st Post)
  (hf:∀x y c vx vy v u s2,At2 C c0 c x y vx vy->Inv X pins c.σ c.H s2->RelV vx v->RelV vy u->W (k x y) c.st Post->wpAny (model X.prog X.w) X.A (f v u) (Q' v u) X.xe s2) :
  wpAny (model X.prog X.w) X.A (eval a X.env) (fun v s₁=>wpAny (model X.prog X.w) X.A (eval b X.env) (fun u s₂=>wpAny (model X.prog X.w) X.A (f v u) (Q' v u) X.xe s₂) X.xe s₁) X.xe s:=by
 rw[ab]at h;refine thn (ha pins s c0.σ c0.H (fun vx H1=>∃x c1,c1.H=H1/\c1.σ=c0.σ/\Ok C c1/\Nx c0 c1/\aA C c0 c1 x.1 x.2 vx/\W (mb >>= fun y=>au [x,y] >>= fun _=>k x y) c1.st Post) I ⟨c0,rfl,rfl,ok,h.mono fun x st1 h1 c1 vx e1 e2 ok1 n1 r1=>⟨x,c1,rfl,e1,ok1,n1,r1,by rw[e2];exact h1⟩⟩) ?_;rintro v s1 ⟨vx,H1,I1,rv,x,c1,rfl,e1,ok1,n1,r1,h1⟩;rw[ab]at h1;refine thn (hb pins s1 c0.σ c1.H (fun vy H2=>∃y c2,c2.H=H2/\At2 C c0 c2 x y vx vy/\W (k x y) c2.st Post) I1 ⟨c1,e1,rfl,ok1,h1.mono fun y st2 h2 c2 vy e3 e4 ok2 n2 r2=>?_⟩) ?_
 ·rw[ab,bU]at h2;subst e4;rw[gI]at h2;exact⟨y,c2,rfl,⟨e3,ok2,n1.trans n2,(r1.w.on ok1 n2 (e3.trans e1.symm)).t h2.1.1,(r2.from n1),lP r1.w r2.w⟩,h2.2⟩
 ·rintro u s2 ⟨vy,H2,I2,ru,y,c2,rfl,at2,h2⟩;have hs:c2.σ=c0.σ:=at2.hσ;exact hf x y c2 vx vy v u s2 at2 (by rw[hs];exact I2) rv ru h2
structure At1(C:Ct)(c0 c:Cf)(x:Kd×U)(vx:V):Prop where
 hσ:c.σ=c0.σ
 ok:Ok C c
 nx:Nx c0 c
 rx:aA C c0 c x.1 x.2 vx
noncomputable def bX(C:Ct)(c0:Cf)(Q:VK)(r:Kd×U)(st':ag):Prop:=∀c v,c.σ=c0.σ->c.st=st'->Ok C c->Nx c0 c->aA C c0 c r.1 r.2 v->Q v c.H
section
variable{c0 c:Cf}{Q:VK}
theorem bX.flat{u:U}{v:V}(h:bX C c0 Q (.loc,u) c.st)(hσ:c.σ=c0.σ)(ok:Ok C c)(n:Nx c0 c)(r:Rep C c.S c.H u v):Q v c.H:=h c v hσ rfl ok n r
theorem bX.list{us:List U}{vs:List V}(h:bX C c0 Q (.own,.lst us) c.st)(hσ:c.σ=c0.σ)(ok:Ok C c)(n:Nx c0 c)(r:ai C c.S c.H us vs)(p:Addr)(hp:c.H p=none):Q (.ref p) (upd c.H p (.lst vs)):=by
 obtain⟨ok',n',r'⟩:=ok.newList n hp r;exact h {c with H:=upd c.H p (.lst vs)} _ hσ rfl ok' n' r'
theorem bX.tup{us:List U}{vs:List V}(h:bX C c0 Q (.loc,.tup us) c.st)(hσ:c.σ=c0.σ)(ok:Ok C c)(n:Nx c0 c)(r:ai C c.S c.H us vs)(p:Addr)(hp:c.H p=none):Q (.ref p) (upd c.H p (.tup vs)):=by
 obtain⟨ok',n',r'⟩:=ok.yw n hp r;exact h {c with H:=upd c.H p (.tup vs)} _ hσ rfl ok' n' r'
theorem bX.tupK{k:Kd}{us:List U}{vs:List V}(h:bX C c0 Q (kE k,.tup us) c.st)(hσ:c.σ=c0.σ)(ok:Ok C c)(n:Nx c0 c)(r:ai C (SK C c k) c.H us vs)(p:Addr)(hp:c.H p=none):Q (.ref p) (upd c.H p (.tup vs)):=by
 obtain⟨ok',n'⟩:=ok.lay (o:=.tup vs) hp;refine h {c with H:=upd c.H p (.tup vs)} _ hσ rfl ok' (n.trans n') (aA.item ?_);cases k<;>exact⟨p,vs,rfl,SqT.of ar,by first|exact r.mv (ok.mvP n')|exact r.mv (ok.mv n')⟩
theorem eG{k:Kd}{us:List U}{vs:List V}(h:jt k us=true)(r:ai C (SK C c k) c.H us vs):ai C c.S c.H us vs:=by
 cases k with
 |any=>exact r.imm (by simpa[jt,isAny] using h)
 |own=>exact r
 |loc=>exact r
 |bor j=>exact r
 |io=>exact r
 |ownD=>exact r
end
theorem yG{c:Cf}(k k':Kd):∀a,SK C c k a->SK C c (kT k k') a:=by
 intro a h;cases k<;>cases k'<;>first|exact h|exact .inr h
theorem vT{c:Cf}(k k':Kd):∀a,SK C c k' a->SK C c (kT k k') a:=by
 intro a h;cases k<;>cases k'<;>first|exact h|exact .inr h
theorem Ac(k k':Kd):kE (kT k k')=kT k k':=by cases k<;>cases k'<;>rfl
theorem vU:OpR X (binaryOp .Add) (fun x y H Q=>∃l b xs zs,x=.ref l/\y=.ref b/\SqL X.K H l xs/\SqL X.K H b zs/\xs.length+zs.length<=sizeLine/\∀p,H p=none->Q (.ref p) (upd H p (.lst (xs++zs)))):=by
 intro pins s σ H x y v u Q I rx ry h;obtain⟨l,b,xs,zs,rfl,rfl,hH,hB,hz,q⟩:=h;cases rx;cases ry;obtain⟨its,r,pl,z⟩:=I.list hH;obtain⟨its2,r2,pl2,z2⟩:=I.list hB;have hl:=r.length;have hl2:=r2.length;obtain⟨⟨cls,dd,data,sl⟩,ho,hc,n,hd⟩:=pl.isList;obtain⟨⟨cls2,dd2,data2,sl2⟩,ho2,hc2,n2,hd2⟩:=pl2.isList;simp only at hc hd hc2 hd2;subst hc hd hc2 hd2;refine concat_meets ⟨_,ho,rfl⟩ ⟨_,ho2,rfl⟩ noFill_list_add seq_list_add PySem.F.slot_list_add PySem.F.entry_list_add (PySem.F.args_list_add_2 _ _)
   (list_addW l b its.toArray its2.toArray n n2 dd dd2 sl sl2 (by rw[List.size_toArray,List.size_toArray];omega)) ⟨ho,ho2,?_⟩
 have ea:its.toArray++its2.toArray=(its++its2).toArray:=by simp
 rw[ea];exact⟨.ref _,_,I.Bp (t':=s.toks) (r.append r2) (by rw[List.length_append];omega),rfl,q _ I.fresh⟩
end
end TM
namespace TM
open PySem L2 PyProof.Rows
section
variable{X:Cx}{C:Ct}{pins:List (Addr×Obj)}{s:Shared}{c0 c:Cf}{Q:VK}
theorem tR:OpR X (binaryOp .Add) (fun x y H Q=>∃a b ys,x=.ref a/\y=.ref b/\SqT X.K H a []/\SqT X.K H b ys/\Q (.ref b) H):=by
 intro pins s σ H x y v u Q I rx ry h;obtain⟨a,b,ys,rfl,rfl,ha,hb,q⟩:=h;cases rx;cases ry;obtain⟨its,r1,p1,_⟩:=I.tuple ha;obtain⟨its2,r2,p2,_⟩:=I.tuple hb;cases r1;obtain⟨⟨cls,dd,data,sl⟩,ho,hc,n,hd⟩:=id p1;obtain⟨⟨cls2,dd2,data2,sl2⟩,ho2,hc2,n2,hd2⟩:=id p2;simp only at hc hd hc2 hd2;subst hc hd hc2 hd2;exact concat_meets ⟨_,ho,rfl⟩ ⟨_,ho2,rfl⟩ noFill_tuple_add seq_tuple_add PySem.F.slot_tuple_add PySem.F.entry_tuple_add (PySem.F.args_tuple_add_2 _ _)
   (tuple_addW0 a b _ its2.toArray n n2 dd dd2 sl sl2 (by rfl)) ⟨ho,ho2,.ref b,H,I,rfl,q⟩
noncomputable def Bop.op:Bop->Operator
 |.add=>.Add|.sub=>.Sub|.mul=>.Mult|.fdv=>.FloorDiv|.mod=>.Mod|.pow=>.Pow
theorem dv{f:Int->Int->Option Int}{a b:U}{r:Kd×U}(h:oM f a b=some r):∃i j o,a=.int i/\b=.int j/\f i j=some o/\r=(.loc,.int o):=by
 unfold oM at h;split at h
 ·rw[Option.map_eq_some_iff]at h;obtain⟨o,e,rfl⟩:=h;exact⟨_,_,o,rfl,rfl,e,rfl⟩
 ·cases h
theorem yH{op:Bop}{x y r:Kd×U}{vx vy:V}{v u:Value}(hK:C.K=X.K)(t:At2 C c0 c x y vx vy)(I:Inv X pins c.σ c.H s)(rx:RelV vx v)(ry:RelV vy u)(h:opU op x y=some r)(q:bX C c0 Q r c.st):
  wpAny (model X.prog X.w) X.A (binaryOp op.op v u) (EP X pins c.σ Q) X.xe s:=by
 obtain⟨hσ,ok,n,tx,ty,_⟩:=t;cases op with
 |add =>
  have h:oK x y=some r:=h;unfold oK at h;split at h
  ·have ex:=tx.int ok;have ey:=ty.int ok;cases h;exact bH pins s c.σ c.H vx vy v u Q I rx ry ⟨_,_,ex,ey,q.flat hσ ok n rfl⟩
  ·have ex:=tx.str ok;have ey:=ty.str ok;split at h
   ·cases h;exact oj pins s c.σ c.H vx vy v u Q I rx ry ⟨_,_,ex,ey,by assumption,q.flat hσ ok n rfl⟩
   ·cases h
  ·obtain⟨a,vs,ex,h1,h2⟩:=tx.list ok;obtain⟨b,ws,ey,h3,h4⟩:=ty.list ok;split at h
   ·rename_i hh;cases h;exact vU pins s c.σ c.H vx vy v u Q I rx ry ⟨a,b,vs,ws,ex,ey,hK▸h1,hK▸h3,by rw[<-h2.len,<-h4.len];exact hh.1,fun p hp=>q.list hσ ok n ((eG hh.2.1 h2).append (eG hh.2.2 h4)) p hp⟩
   ·cases h
  ·rename_i k xs k' ys _ _;obtain⟨a,vs,ex,h1,h2⟩:=tx.tuple ok;obtain⟨b,ws,ey,h3,h4⟩:=ty.tuple ok;have h1':=h1;have h3':=h3;rw[hK]at h1' h3';split at h
   ·rename_i hh;cases h;have m1:ai C (SK C c (kT k k')) c.H xs vs:=h2.mv (.up (yG k k'));have m2:ai C (SK C c (kT k k')) c.H ys ws:=h4.mv (.up (vT k k'));have q':bX C c0 Q (kE (kT k k'),.tup (xs++ys)) c.st:=by rw[Ac];exact q
    by_cases e1:vs=[]
    ·subst e1;refine tR pins s c.σ c.H vx vy v u Q I rx ry ⟨a,b,ws,ex,ey,h1',h3',?_⟩;refine q' c (.ref b) hσ rfl ok n (aA.item ⟨b,ws,rfl,h3,?_⟩);have:xs=[]:=by have:=m1.len;simpa using this
     rw[this];exact m2
    ·refine vk pins s c.σ c.H vx vy v u Q I rx ry ⟨a,b,vs,ws,ex,ey,h1',h3',e1,by rw[<-h2.len,<-h4.len];exact hh,fun e2=>?_,fun _ p hp=>q'.tupK hσ ok n (m1.append m2) p hp⟩;subst e2;refine q' c (.ref a) hσ rfl ok n (aA.item ⟨a,vs,rfl,h1,?_⟩);have:ys=[]:=by have:=m2.len;simpa using this
     rw[this,List.append_nil];exact m1
   ·cases h
  ·cases h
 |sub =>
  obtain⟨i,j,o,ex,ey,eo,rfl⟩:=dv h;have ex:=(ex▸tx).int ok;have ey:=(ey▸ty).int ok;cases eo;exact iT pins s c.σ c.H vx vy v u Q I rx ry ⟨_,_,ex,ey,q.flat hσ ok n rfl⟩
 |mul =>
  obtain⟨i,j,o,ex,ey,eo,rfl⟩:=dv h;have ex:=(ex▸tx).int ok;have ey:=(ey▸ty).int ok;unfold vL at eo;split at eo
  ·cases eo;exact iU pins s c.σ c.H vx vy v u Q I rx ry ⟨_,_,ex,ey,by assumption,q.flat hσ ok n rfl⟩
  ·cases eo
 |fdv =>
  obtain⟨i,j,o,ex,ey,eo,rfl⟩:=dv h;have ex:=(ex▸tx).int ok;have ey:=(ey▸ty).int ok;unfold vM at eo;split at eo
  ·cases eo;exact vd pins s c.σ c.H vx vy v u Q I rx ry ⟨_,_,ex,ey,by assumption,q.flat hσ ok n rfl⟩
  ·cases eo
 |mod =>
  obtain⟨i,j,o,ex,ey,eo,rfl⟩:=dv h;have ex:=(ex▸tx).int ok;have ey:=(ey▸ty).int ok;unfold vN at eo;split at eo
  ·cases eo;exact aR pins s c.σ c.H vx vy v u Q I rx ry ⟨_,_,ex,ey,by assumption,q.flat hσ ok n rfl⟩
  ·cases eo
 |pow =>
  obtain⟨i,j,o,ex,ey,eo,rfl⟩:=dv h;have ex:=(ex▸tx).int ok;have ey:=(ey▸ty).int ok;unfold vO at eo;split at eo
  ·cases eo;exact lh pins s c.σ c.H vx vy v u Q I rx ry ⟨_,_,ex,ey,by assumption,q.flat hσ ok n rfl⟩
  ·cases eo
theorem vV{op:Bop}{a b:Expr}{ma mb:M (Kd×U)}{pos:Pos}(hK:C.K=X.K)(ha:PE X a (tEv C ma))(hb:PE X b (tEv C mb)):PE X (.BinOp a op.op b pos) (tEv C (ma >>= fun x=>mb >>= fun y=>au [x,y] >>= fun _=>M.ofO (opU op x y))):=by
 rintro pins s σ H Q I ⟨c0,rfl,rfl,ok,h⟩;refine wpAny_BinOp (two ha hb I ok h fun x y c vx vy v u s2 t I2 rx ry w=>?_);obtain⟨r,e,q⟩:=bT.mp w;exact thn (yH hK t I2 rx ry e q) fun _ _ z=>by rw[t.hσ]at z;exact z
noncomputable def Cop.op:Cop->CmpOp
 |.eq=>.Eq|.ne=>.NotEq|.lt=>.Lt|.le=>.LtE|.gt=>.Gt|.ge=>.GtE|.isin=>.In|.notin=>.NotIn|.is=>.Is|.isnt=>.IsNot
theorem Ad{neg:Bool}(I:Inv X pins c.σ c.H s)(hK:C.K=X.K)(hu:X.A.units+60<cLine){x:U}{ys:List U}{vx:V}{v:Value}{a:Addr}{vs:List V}{S:Addr->Prop}(hx:Rep C S c.H x vx)(rx:RelV vx v)(hy:ai C S c.H ys vs)
  (ha:SqL C.K c.H a vs\/SqT C.K c.H a vs) (e1:eqD 50 x=true) (e2:bI 50 ys=true) {Q:Value->Shared->Prop} (q:Q (.bool (if neg then !(ys.any fun y=>aW y x) else ys.any fun y=>aW y x)) s) :
  wpAny (model X.prog X.w) X.A (compareOp (if neg then .NotIn else .In) v (.ref a)) Q X.xe s:=by
 have hS:∀(j:Nat) (w:U) (vw:V),ys[j]?=some w->vs[j]?=some vw->Rep C S c.H w vw:=fun j w vw h1 h2=>by
  obtain⟨vw',e,r⟩:=hy.get h1;rw[h2]at e;cases e;exact r
 have eD:∀(j:Nat) (w:U),ys[j]?=some w->eqD 50 w=true:=by
  have:∀(l:List U),bI 50 l=true->∀w∈l,eqD 50 w=true:=by
   intro l;induction l with
   |nil=>intro _ w hw;cases hw
   |cons z l ih =>
    intro h w hw;simp only[bI,Bool.and_eq_true]at h;rcases List.mem_cons.mp hw with rfl|hw
    ·exact h.1
    ·exact ih h.2 w hw
  exact fun j w h=>this ys e2 w (List.mem_of_getElem? h)
 have go:∀its:List Value,Vals vs its->∃e:Value->Bool,(∀y,y∈its.toArray->SeqAt.EqAt X.A.in1 s y v (e y))/\its.toArray.any e=ys.any fun y=>aW y x:=by
  intro its rv;have l1:=hy.len;have l2:=rv.length
  classical
  have at':∀(j:Nat) (y:Value),its[j]?=some y->∃w vw,ys[j]?=some w/\vs[j]?=some vw/\RelV vw y/\Rep C S c.H w vw:=by
   intro j y h;have hj:j<its.length:=(List.getElem?_eq_some_iff.mp h).1;obtain⟨w,hw⟩:∃w,ys[j]?=some w:=⟨ys[j]'(by omega),by simp⟩
   obtain⟨vw,hvw,r⟩:=hy.get hw;obtain⟨y',hy',rr⟩:=rv.get hvw;rw[h]at hy';cases hy';exact⟨w,vw,hw,hvw,rr,r⟩
  refine⟨fun y=>decide (∃(j:Nat) (w:U),its[j]?=some y/\ys[j]?=some w/\aW w x=true),fun y hmem=>?_,?_⟩
  ·obtain⟨j,hj,e⟩:=List.getElem_of_mem (show y∈its by simpa using hmem);have hjy:its[j]?=some y:=by rw[List.getElem?_eq_getElem hj,e]
   obtain⟨w,vw,hw,hvw,rr,r⟩:=at' j y hjy;have eq:decide (∃(j:Nat) (w:U),its[j]?=some y/\ys[j]?=some w/\aW w x=true)=aW w x:=by
    rw[Bool.eq_iff_iff,decide_eq_true_iff];constructor
    ·rintro⟨j',w',h1,h2,h3⟩;obtain⟨w2,vw2,hw2,_,rr2,r2⟩:=at' j' y h1;rw[h2]at hw2;cases hw2;have:vw2=vw:=rr2.inj rr;subst this;rw[ql I hK w w' vw2 50 (eD j w hw) (eD j' w' h2) r r2];exact h3
    ·intro h;exact⟨j,w,hjy,hw,h⟩
   have z:=tQ I hK w x vw vx y v 50 X.A.in1 (eD j w hw) e1 r hx rr rx (by show X.A.units+1+50 < _;omega);rw[<-eq]at z;exact z
  ·rw[Bool.eq_iff_iff];simp only[List.any_toArray,List.any_eq_true,decide_eq_true_iff];constructor
   ·rintro⟨y,_,j,w,h1,h2,h3⟩;exact⟨w,List.mem_of_getElem? h2,h3⟩
   ·rintro⟨w,hw,h3⟩;obtain⟨j,hj,e⟩:=List.getElem_of_mem hw;have hjy:its[j]?=some (its[j]'(by omega)):=List.getElem?_eq_getElem _;exact⟨its[j]'(by omega),List.getElem_mem _,j,w,hjy,by rw[List.getElem?_eq_getElem hj,e],h3⟩
 rcases ha with ha|ha
 ·obtain⟨its,rv,p,_⟩:=qj I (hK▸ha);obtain⟨e,h1,h2⟩:=go its rv;cases neg with
  |false=>exact SeqAt.in_listAt e p h1 (by rw[h2];exact q)
  |true=>exact SeqAt.notIn_listAt e p h1 (by rw[h2];exact q)
 ·rw[hK]at ha;obtain⟨its,rv,p,_⟩:=I.tuple ha;obtain⟨e,h1,h2⟩:=go its rv;cases neg with
  |false=>exact SeqAt.in_tupleAt e p h1 (by rw[h2];exact q)
  |true=>exact SeqAt.notIn_tupleAt e p h1 (by rw[h2];exact q)
end
end TM
namespace TM
open PySem L2 PyProof.Rows
section
variable{X:Cx}{C:Ct}{pins:List (Addr×Obj)}{s:Shared}{c0 c:Cf}{Q:VK}
theorem bK:∀{us:List U}{ss:List Str},strsOf us=some ss->us=ss.map .str
 |[],ss,h=>by cases h;rfl
 |.str x::us,ss,h=>by
  simp only[strsOf,Option.map_eq_some_iff]at h;obtain⟨t,h1,rfl⟩:=h;rw[bK h1];rfl
 |.non::_,_,h=>by cases h
 |.bl _::_,_,h=>by cases h
 |.int _::_,_,h=>by cases h
 |.tup _::_,_,h=>by cases h
 |.lst _::_,_,h=>by cases h
 |.dic _ _::_,_,h=>by cases h
 |.rdc _::_,_,h=>by cases h
theorem eI:∀{us:List U}{ns:List Int},intsOf us=some ns->us=ns.map .int
 |[],ns,h=>by cases h;rfl
 |u::us,ns,h=>by
  cases u<;>first|(cases h;done)|skip
  rename_i x;have h':(intsOf us).map (x::·)=some ns:=h;rw[Option.map_eq_some_iff]at h';obtain⟨ms,e,rfl⟩:=h';rw[eI e];rfl
theorem ai.ints{S:Addr->Prop}{H:Hp}:∀{ns:List Int}{vs:List V},ai C S H (ns.map .int) vs->vs=ns.map V.int
 |[],vs,h=>h
 |n::ns,vs,h=>by
  obtain⟨v,r,rfl,h1,h2⟩:=h;rw[ai.ints h2];have:v=.int n:=h1;rw[this];rfl
theorem ai.xk{S:Addr->Prop}{H:Hp}:∀(ns:List Int),ai C S H (ns.map .int) (ns.map V.int)
 |[]=>rfl
 |n::ns=>⟨_,_,rfl,rfl,ai.xk ns⟩
theorem jA:∀{us:List U}{ss:List Bool},ju us=some ss->us=ss.map .bl
 |[],ss,h=>by cases h;rfl
 |.bl x::us,ss,h=>by
  simp only[ju,Option.map_eq_some_iff]at h;obtain⟨t,h1,rfl⟩:=h;rw[jA h1];rfl
 |.non::_,_,h=>by cases h
 |.str _::_,_,h=>by cases h
 |.int _::_,_,h=>by cases h
 |.tup _::_,_,h=>by cases h
 |.lst _::_,_,h=>by cases h
 |.dic _ _::_,_,h=>by cases h
 |.rdc _::_,_,h=>by cases h
theorem ai.bls{S:Addr->Prop}{H:Hp}:∀{xs:List Bool}{vs:List V},ai C S H (xs.map .bl) vs->vs=xs.map V.bl
 |[],vs,h=>h
 |x::xs,vs,h=>by
  obtain⟨v,r,rfl,h1,h2⟩:=h;rw[ai.bls h2];have:v=.bl x:=h1;rw[this];rfl
noncomputable def Ae(r:ei):U:=.tup [.str r.1,.tup (r.2.map .str)]
theorem jB{u:U}{r:ei}(h:rowOf u=some r):u=Ae r:=by
 unfold rowOf at h;split at h
 ·rw[Option.map_eq_some_iff]at h;obtain⟨ss,h1,rfl⟩:=h;rw[bK h1];rfl
 ·cases h
noncomputable def yI(X:Cx)(pins:List (Addr×Obj))(c:Cf)(b:Bool)(v:Value)(s':Shared):Prop:=v=.bool b/\Inv X pins c.σ c.H s'
theorem f_{f:Value->Value->Sem Value}{r:R2}{b:Bool}{vx vy:V}{v u:Value}(o:OpR X f r)(I:Inv X pins c.σ c.H s)(rx:RelV vx v)(ry:RelV vy u)(h:r vx vy c.H fun x H'=>x=.bl b/\H'=c.H):
  wpAny (model X.prog X.w) X.A (f v u) (yI X pins c b) X.xe s :=
 thn (o pins s c.σ c.H vx vy v u _ I rx ry h) fun w s' hIx=>by
  obtain⟨z,H',I',r,e1,e2⟩:=hIx;subst e1 e2;exact⟨r,I'⟩
theorem aA.dict{k:Kd}{ks:List Str}{us:List U}{v:V}(ok:Ok C c)(h:aA C c0 c k (.dic ks us) v):∃a kvs,v=.ref a/\c.H a=some (.dK kvs)/\kvs.map (·.1)=ks.map Sum.inr/\ai C (SK C c k) c.H us (kvs.map (·.2)):=by
 cases k with
 |own=>obtain⟨r,e,_,_,_,kvs,h1,h2,h3⟩:=h;exact⟨r,kvs,e,h1,h2,h3⟩
 |loc=>obtain⟨a,e,_,kvs,h1,h2,h3⟩:=h;exact⟨a,kvs,e,h1,h2,h3⟩
 |any=>obtain⟨a,e,_,kvs,h1,h2,h3⟩:=h;exact⟨a,kvs,e,h1,h2,h3⟩
 |bor j=>obtain⟨r,e,_,_,_,kvs,h1,h2,h3⟩:=ok.rootOf h.1 h.2;exact⟨r,kvs,e,h1,h2,h3⟩
 |io=>exact h.elim
 |ownD=>exact h.elim
theorem aA.qg{k:Kd}{ks:List ei}{v:V}(ok:Ok C c)(h:aA C c0 c k (.rdc ks) v):∃a,v=.ref a/\d0 C.P C.w C.K c.H a ks:=by
 cases k with
 |own=>obtain⟨r,e,_,_,_,h⟩:=h;exact⟨r,e,h⟩
 |loc=>obtain⟨a,e,_,h⟩:=h;exact⟨a,e,h⟩
 |any=>obtain⟨a,e,_,h⟩:=h;exact⟨a,e,h⟩
 |bor j=>obtain⟨r,e,_,_,_,h⟩:=ok.rootOf h.1 h.2;exact⟨r,e,h⟩
 |io=>exact h.elim
 |ownD=>exact h.elim
theorem cP{S:Addr->Prop}{H:Hp}{x:Str}:∀{ks:List Str}{us:List U}{kvs:List (Key×V)},kvs.map (·.1)=ks.map Sum.inr->ai C S H us (kvs.map (·.2)) ->
  (∀u,cU ks us x=some u->∃v,cF kvs (Sum.inr x)=some v/\Rep C S H u v)/\(cF kvs (Sum.inr x)).isSome=decide (x∈ks)
 |[],us,kvs,h1,h2=>by
  have:kvs=[]:=by simpa using h1
  subst this;exact⟨fun u h=>by cases us<;>simp[cU]at h,by simp[cF]⟩
 |k::ks,us,[],h1,h2=>by simp at h1
 |k::ks,[],p::kvs,h1,h2=>by simp[ai]at h2
 |k::ks,u0::us,p::kvs,h1,h2=>by
  obtain⟨v,r,e,h3,h4⟩:=h2;rw[List.map_cons]at e;cases e;rw[List.map_cons,List.map_cons,List.cons.injEq]at h1;obtain⟨i1,i2⟩:=cP (x:=x) h1.2 h4;by_cases hk:k=x
  ·subst hk;refine⟨fun u h=>?_,?_⟩
   ·simp[cU]at h;subst h;exact⟨p.2,dk h1.1,h3⟩
   ·rw[dk h1.1];simp
  ·have hp:¬p.1=Sum.inr x:=by rw[h1.1];intro z;exact hk (Sum.inr.inj z)
   refine⟨fun u h=>?_,?_⟩
   ·simp[cU,hk]at h;obtain⟨v,e,q⟩:=i1 u h;exact⟨v,by rw[dm hp];exact e,q⟩
   ·rw[dm hp,i2];simp[Ne.symm hk]
theorem yJ(hu:X.A.units+3<cLine):OpR X (compareOp .In) (fun x y H Q=>∃k d ks,eu X.K H x k/\y=.ref d/\d0 X.prog X.w X.K H d ks/\Q (.bl (decide (k∈ks))) H):=by
 intro pins s σ H x y v u Q I rx ry h;obtain⟨k,d,ks,⟨a,b,rfl,h1,h2⟩,rfl,⟨xs,h3,h4,h5⟩,q⟩:=h;cases rx;cases ry;obtain⟨hd,dd⟩:=jf I h3 h5;refine wpAny_in_heap hu (iE I ⟨a,b,rfl,h1,h2⟩) hd dd ?_;exact⟨.bl (decide (k∈ks)),H,I.tok _,by rw[fw,h4];rfl,q⟩
theorem Rep.row{S:Addr->Prop}{H:Hp}{r:ei}{v:V}(h:Rep C S H (Ae r) v):eu C.K H v r:=by
 obtain⟨a,vs,e,h1,v1,r1,e1,h2,v2,r2,e2,h3,h4⟩:=h;cases h4;have e3:v1=.str r.1:=h2;obtain⟨b,ws,e4,h5,h6⟩:=h3;rw[ai.strs]at h6;subst e1 e2 e3 e4 h6;exact⟨a,b,e,h1,h5⟩
theorem tS{op:Cop}{x y:Kd×U}{b:Bool}{vx vy:V}{v u:Value}(hP:C.P=X.prog)(hw:C.w=X.w)(hK:C.K=X.K)(hu:X.A.units+60<cLine)(t:At2 C c0 c x y vx vy)(I:Inv X pins c.σ c.H s)(rx:RelV vx v)(ry:RelV vy u)(h:bz op x.2 y.2=some b):
  wpAny (model X.prog X.w) X.A (compareOp op.op v u) (yI X pins c b) X.xe s:=by
 obtain⟨hσ,ok,n,tx,ty,_⟩:=t;obtain⟨kx,ux⟩:=x;obtain⟨ky,uy⟩:=y
 dsimp only at h tx ty
 have has:∀neg:Bool,∀b',vP ux uy=some b'->wpAny (model X.prog X.w) X.A (compareOp (if neg then .NotIn else .In) v u) (yI X pins c (if neg then !b' else b')) X.xe s:=by
  intro neg b' h;have mx:=tx.read ok;have my:=ty.read ok;unfold vP at h;split at h
  ·obtain⟨a,vs,rfl,h1,h2⟩:=my;cases ry;unfold inU at h;split at h
   ·rename_i hh;cases h;exact Ad I hK hu mx rx h2 (.inl h1.sq) hh.1 hh.2 ⟨by cases neg<;>rfl,I⟩
   ·cases h
  ·obtain⟨a,vs,rfl,h1,h2⟩:=my;cases ry;unfold inU at h;split at h
   ·rename_i hh;cases h;exact Ad I hK hu mx rx h2 (.inr h1) hh.1 hh.2 ⟨by cases neg<;>rfl,I⟩
   ·cases h
  ·cases h;have ex:vx=_:=mx;obtain⟨a,kvs,rfl,h1,h2,h3⟩:=ty.dict ok;cases ry;subst ex;have hs:=fun z:Str=>(cP (x:=z) h2 h3).2;cases neg with
   |false=>exact z9 (by omega) I (da.k (k:=Sum.inr _) h1) rx fun s' I'=>⟨by rw[hs];rfl,I'⟩
   |true=>exact pV (by omega) I (da.k (k:=Sum.inr _) h1) rx fun s' I'=>⟨by rw[hs];rfl,I'⟩
  ·rw[Option.map_eq_some_iff]at h;obtain⟨r,h1,h2⟩:=h;have e:=jB h1;subst e;have hr:=mx.row;obtain⟨a,ea,h3⟩:=ty.qg ok;rw[hK]at hr h3;rw[hP,hw]at h3;subst h2;cases neg with
   |false=>exact f_ (yJ (by omega)) I rx ry ⟨r,a,_,hr,ea,h3,rfl,rfl⟩
   |true=>exact f_ (rl (by omega)) I rx ry ⟨r,a,_,hr,ea,h3,rfl,rfl⟩
  ·cases h
 unfold bz at h;split at h
 ·split at h
  ·rename_i hh;cases h;exact Bx I hK _ _ vx vy v u 50 X.A hh.1 hh.2 (tx.read ok) (ty.read ok) rx ry (by omega) _ _ _ _ ⟨rfl,I⟩
  ·cases h
 ·split at h
  ·rename_i hh;cases h;exact yF I hK _ _ vx vy v u 50 X.A hh.1 hh.2 (tx.read ok) (ty.read ok) rx ry (by omega) _ _ _ _ ⟨rfl,I⟩
  ·cases h
 ·cases h;exact f_ zN I rx ry ⟨_,_,tx.int ok,ty.int ok,rfl,rfl⟩
 ·cases h;exact f_ zO I rx ry ⟨_,_,tx.int ok,ty.int ok,rfl,rfl⟩
 ·cases h;exact f_ zP I rx ry ⟨_,_,tx.int ok,ty.int ok,rfl,rfl⟩
 ·exact has false b h
 ·rw[Option.map_eq_some_iff]at h;obtain⟨b',h1,rfl⟩:=h;exact has true b' h1
 ·cases h
variable{a b d:Expr}{ma mb md:M (Kd×U)}{pos:Pos}
theorem vW{op:Cop}(hP:C.P=X.prog)(hw:C.w=X.w)(hK:C.K=X.K)(hu:X.A.units+60<cLine)(ha:PE X a (tEv C ma))(hb:PE X b (tEv C mb))(hm:behindInMarks op.op b=false):
  PE X (.Compare a [op.op] [b] pos) (tEv C (ma >>= fun x=>mb >>= fun y=>au [x,y] >>= fun _=>M.ofO (bz op x.2 y.2) >>= fun c=>pure (.loc,.bl c))):=by
 rintro pins s σ H Q I ⟨c0,rfl,rfl,ok,h⟩;refine wpAny_Compare1 (two ha hb I ok h fun x y c vx vy v u s2 t I2 rx ry w=>?_) hm;rw[ab]at w;obtain⟨r,e,q⟩:=bT.mp w;rw[ah]at q;refine thn (tS hP hw hK hu t I2 rx ry e) fun z s' ⟨e,I'⟩=>?_;subst e;exact⟨.bl r,c.H,by rw[<-t.hσ];exact I',rfl,q c (.bl r) t.hσ rfl t.ok t.nx rfl⟩
theorem vX{op:Cop}(hP:C.P=X.prog)(hw:C.w=X.w)(hK:C.K=X.K)(hu:X.A.units+60<cLine)(ha:PE X a (tEv C ma))(hb:PE X b (tEv C mb))(hm:behindInMarks op.op b=false):
  PT X (.Compare a [op.op] [b] pos) (tTs C (ma >>= fun x=>mb >>= fun y=>au [x,y] >>= fun _=>M.ofO (bz op x.2 y.2))):=by
 rintro pins s σ H Q I ⟨c0,rfl,rfl,ok,h⟩;refine wpAny_isTrue_Compare1 (two (f:=fun v u=>compareOp op.op v u) (Q':=fun _ _ c s=>wpAny (model X.prog X.w) X.A (truthy c) (TP X pins c0.σ Q) X.xe s) ha hb I ok h fun x y c vx vy v u s2 t I2 rx ry w=>?_) hm;obtain⟨r,e,q⟩:=bT.mp w;refine thn (tS hP hw hK hu t I2 rx ry e) fun z s' ⟨e,I'⟩=>?_;subst e;exact wpAny_truthy_bool ⟨c.H,by rw[<-t.hσ];exact I',q c t.hσ rfl t.ok t.nx⟩
end
end TM
namespace TM
open PySem L2 PyProof.Rows
section
variable{X:Cx}{C:Ct}{pins:List (Addr×Obj)}{s:Shared}{c0 c c1:Cf}
variable{a b d:Expr}{ma mb md:M (Kd×U)}{ta tb:M Bool}{pos:Pos}{rest:List Expr}
noncomputable def Af(C:Ct)(c0:Cf)(Q:Bool->Hp->Prop)(b:Bool)(st':ag):Prop:=∀c,c.σ=c0.σ->c.st=st'->Ok C c->Nx c0 c->Q b c.H
theorem tT{m:M (Kd×U)}{Q:VK}(hσ:c1.σ=c0.σ)(ok:Ok C c1)(n:Nx c0 c1)(h:W m c1.st (bX C c0 Q)):tEv C m c0.σ c1.H Q :=
 ⟨c1,hσ,rfl,ok,h.mono fun r st h2 c2 v e3 e4 ok2 n2 r2=>h2 c2 v e3 e4 ok2 (n.trans n2) (r2.from n)⟩
theorem tU{m:M Bool}{Q:Bool->Hp->Prop}(hσ:c1.σ=c0.σ)(ok:Ok C c1)(n:Nx c0 c1)(h:W m c1.st (Af C c0 Q)):tTs C m c0.σ c1.H Q :=
 ⟨c1,hσ,rfl,ok,h.mono fun r st h2 c2 e3 e4 ok2 n2=>h2 c2 e3 e4 ok2 (n.trans n2)⟩
theorem aB{β:Type}{k:Kd×U->M β}{Post:β->ag->Prop}{Z:V->Hp->Prop}(ok:Ok C c0)(h:W (ma >>= k) c0.st Post)
  (hz:∀x c v,At1 C c0 c x v->W (k x) c.st Post->Z v c.H):tEv C ma c0.σ c0.H Z:=by
 rw[ab]at h;exact⟨c0,rfl,rfl,ok,h.mono fun x st1 h1 c1 vx e1 e2 ok1 n1 r1=>hz x c1 vx ⟨e1,ok1,n1,r1⟩ (by rw[e2];exact h1)⟩
theorem eJ{β:Type}{k:Bool->M β}{Post:β->ag->Prop}{Z:Bool->Hp->Prop}(ok:Ok C c0)(h:W (ta >>= k) c0.st Post)
  (hz:∀b c,c.σ=c0.σ->Ok C c->Nx c0 c->W (k b) c.st Post->Z b c.H):tTs C ta c0.σ c0.H Z:=by
 rw[ab]at h;exact⟨c0,rfl,rfl,ok,h.mono fun x st1 h1 c1 e1 e2 ok1 n1=>hz x c1 e1 ok1 n1 (by rw[e2];exact h1)⟩
noncomputable def Ag(m:M (Kd×U))(x:Kd×U):M (Kd×U):=match x.2 with
 |.bl true=>m
 |.bl false=>pure (.loc,.bl false)
 |_=>M.fail
noncomputable def orK(m:M (Kd×U))(x:Kd×U):M (Kd×U):=match x.2 with
 |.bl true=>pure (.loc,.bl true)
 |.bl false=>m
 |_=>M.fail
noncomputable def Ah(x:Kd×U):M (Kd×U):=match x.2 with
 |.bl c=>pure (.loc,.bl !c)
 |_=>M.fail
theorem snd_and(ha:PE X a (tEv C ma))(hb:PE X (.BoolOp .And (b::rest) pos) (tEv C mb)):PE X (.BoolOp .And (a::b::rest) pos) (tEv C (ma >>= Ag mb)):=by
 refine PE.weak (xM ha hb) ?_;rintro σ H Q ⟨c0,rfl,rfl,ok,h⟩;refine aB ok h fun x c v t w=>?_;obtain⟨k,u⟩:=x;obtain⟨hσ,ok1,n,r⟩:=t;unfold Ag at w;split at w
 ·rename_i e
  dsimp only at e r
  subst e;exact⟨true,r.bl ok1,by rw[if_pos rfl];exact tT hσ ok1 n w⟩
 ·rename_i e
  dsimp only at e r
  subst e;rw[ah]at w;exact⟨false,r.bl ok1,by rw[if_neg Bool.false_ne_true];exact w c (.bl false) hσ rfl ok1 n rfl⟩
 ·exact(av.mp w).elim
theorem yK(ha:PE X a (tEv C ma))(hb:PE X (.BoolOp .Or (b::rest) pos) (tEv C mb)):PE X (.BoolOp .Or (a::b::rest) pos) (tEv C (ma >>= orK mb)):=by
 refine PE.weak (zC ha hb) ?_;rintro σ H Q ⟨c0,rfl,rfl,ok,h⟩;refine aB ok h fun x c v t w=>?_;obtain⟨k,u⟩:=x;obtain⟨hσ,ok1,n,r⟩:=t;unfold orK at w;split at w
 ·rename_i e
  dsimp only at e r
  subst e;rw[ah]at w;exact⟨true,r.bl ok1,by rw[if_pos rfl];exact w c (.bl true) hσ rfl ok1 n rfl⟩
 ·rename_i e
  dsimp only at e r
  subst e;exact⟨false,r.bl ok1,by rw[if_neg Bool.false_ne_true];exact tT hσ ok1 n w⟩
 ·exact(av.mp w).elim
theorem vY(ha:PE X a (tEv C ma)):PE X (.UnaryOp .Not a pos) (tEv C (ma >>= Ah)):=by
 refine PE.weak (xN ha) ?_;rintro σ H Q ⟨c0,rfl,rfl,ok,h⟩;refine aB ok h fun x c v t w=>?_;obtain⟨k,u⟩:=x;obtain⟨hσ,ok1,n,r⟩:=t;unfold Ah at w;split at w
 ·rename_i e
  dsimp only at e r
  subst e;rw[ah]at w;exact⟨_,r.bl ok1,w c (.bl _) hσ rfl ok1 n rfl⟩
 ·exact(av.mp w).elim
theorem vZ(ha:PT X a (tTs C ta)):PT X (.UnaryOp .Not a pos) (tTs C (ta >>= fun b=>pure !b)):=by
 refine PT.weak (xK ha) ?_;rintro σ H Q ⟨c0,rfl,rfl,ok,h⟩;refine eJ ok h fun p c hσ ok1 n w=>?_;rw[ah]at w;exact w c hσ rfl ok1 n
theorem v3(ha:PT X a (tTs C ta))(hb:PW X (.BoolOp .And (b::rest) pos) (tTs C tb)):PW X (.BoolOp .And (a::b::rest) pos) (tTs C (ta >>= fun p=>if p=true then tb else pure false)):=by
 have h0:=xJ ha hb;rintro wh pins s σ H Q I ⟨c0,rfl,rfl,ok,h⟩;refine h0 wh pins s c0.σ c0.H Q I (eJ ok h fun p c hσ ok1 n w=>?_);cases p with
 |true=>rw[if_pos rfl]at w ⊢;exact tU hσ ok1 n w
 |false=>rw[if_neg Bool.false_ne_true]at w ⊢;rw[ah]at w;exact w c hσ rfl ok1 n
theorem yL(ha:PT X a (tTs C ta))(hb:PW X (.BoolOp .Or (b::rest) pos) (tTs C tb)):PW X (.BoolOp .Or (a::b::rest) pos) (tTs C (ta >>= fun p=>if p=true then pure true else tb)):=by
 have h0:=zy ha hb;rintro wh pins s σ H Q I ⟨c0,rfl,rfl,ok,h⟩;refine h0 wh pins s c0.σ c0.H Q I (eJ ok h fun p c hσ ok1 n w=>?_);cases p with
 |true=>rw[if_pos rfl]at w ⊢;rw[ah]at w;exact w c hσ rfl ok1 n
 |false=>rw[if_neg Bool.false_ne_true]at w ⊢;exact tU hσ ok1 n w
theorem qm{α β:Type}{us:List α}{vs:List β}(h:us.length=vs.length):(!us.isEmpty)=!vs.isEmpty:=by
 cases us<;>cases vs<;>simp_all
theorem c7(ha:PE X a (tEv C ma))(hK:C.K=X.K)(he:∀whole,isTrue a X.env whole=(do let v <-whole;standAt a.pos;holding [v] (truthy v))):PT X a (tTs C (ma >>= fun x=>M.ofO (ka x.2))):=by
 refine PT.weak (sH ha he) ?_;rintro σ H Q ⟨c0,rfl,rfl,ok,h⟩;refine aB ok h fun x c v t w=>?_;obtain⟨k,u⟩:=x;obtain⟨hσ,ok1,n,r⟩:=t;obtain⟨p,e,q⟩:=bT.mp w
 dsimp only at e r
 refine⟨p,?_,q c hσ rfl ok1 n⟩;unfold ka at e;split at e
 ·cases e;rw[r.bl ok1];rfl
 ·cases e;obtain⟨a,vs,rfl,h1,h2⟩:=r.list ok1;exact .inl ⟨vs,hK▸h1,qm h2.len⟩
 ·cases e;obtain⟨a,vs,rfl,h1,h2⟩:=r.tuple ok1;rw[hK]at h1;exact .inr (.inl ⟨vs,h1,qm h2.len⟩)
 ·split at e
  ·cases e;rw[r.str ok1];exact⟨by assumption,rfl⟩
  ·cases e
 ·cases e
end
end TM
namespace TM
open PySem L2 PyProof.Rows
section
variable{X:Cx}{C:Ct}{pins:List (Addr×Obj)}{s:Shared}{c0 c c1:Cf}
variable{a b d e:Expr}{es:List Expr}{m ma mb md:M (Kd×U)}{ms:M (List (Kd×U))}{ta tb:M Bool}{pos p:Pos}
theorem cV.from{rs:List (Kd×U)}{vs:List V}(n:Nx c0 c1):cV C c1 c rs vs->cV C c0 c rs vs:=by
 intro h;induction rs generalizing vs with
 |nil=>exact h
 |cons r rs ih=>obtain⟨v,t,e,h1,h2,h3⟩:=h;exact⟨v,t,e,h1.from n,ih h2,h3⟩
theorem cV.get{rs:List (Kd×U)}{vs:List V}{i:Nat}{r:Kd×U}{v:V}(h:cV C c0 c rs vs)(e:rs[i]?=some r)(e':vs[i]?=some v):eF C c0 c r.1 r.2 v:=by
 induction rs generalizing vs i with
 |nil=>simp at e
 |cons r' rs ih =>
  obtain⟨v',t,rfl,h1,h2,h3⟩:=h;cases i with
  |zero=>simp at e e';subst e e';exact h1
  |succ i=>exact ih h2 (by simpa using e) (by simpa using e')
theorem v5:PA X [] (tEs C (pure [])):=by
 rintro pos pins s σ H Q I ⟨c0,rfl,rfl,ok,h⟩;rw[ah]at h;exact iX pos pins s c0.σ c0.H Q I (h c0 [] rfl rfl ok (Nx.refl c0) rfl)
theorem tV(ha:PE X e (tEv C m))(hr:PA X es (tEs C ms))(hs:starEach (e::es) X.env=(false,eval e X.env)::starEach es X.env):PA X (e::es) (tEs C (m >>= fun r=>ms >>= fun rs=>pure (r::rs))):=by
 rintro pos pins s σ H Q I ⟨c0,rfl,rfl,ok,h⟩;refine eT ha hr hs pos pins s c0.σ c0.H Q I (aB ok h fun r c1 v t w=>?_);rw[ab]at w;refine⟨c1,t.hσ,rfl,t.ok,w.mono fun rs st2 h2 c2 vs e3 e4 ok2 n2 r2=>?_⟩;rw[ah]at h2;refine h2 c2 (v::vs) e3 e4 ok2 (t.nx.trans n2) ⟨v,vs,rfl,t.rx.w.on t.ok n2 (e3.trans t.hσ.symm),r2.from t.nx,fun hk i r' v' e5 e6 hk'=>?_⟩;exact lP t.rx.w (r2.get e5 e6) hk hk'
structure Ats(C:Ct)(c0 c:Cf)(rs:List (Kd×U))(vs:List V):Prop where
 hσ:c.σ=c0.σ
 ok:Ok C c
 nx:Nx c0 c
 rep:cV C c0 c rs vs
 stb:ba rs c.st
theorem args{β:Type}{k:List (Kd×U)->M β}{Post:β->ag->Prop}(ha:PA X es (tEs C ms))(I:Inv X pins c0.σ c0.H s)(ok:Ok C c0)(h:W (ms >>= fun rs=>au rs >>= fun _=>k rs) c0.st Post)(pos:Pos):
  wpAny (model X.prog X.w) X.A (spliced (backTo pos (starEach es X.env))) (fun us s1=>∃rs c vs,Ats C c0 c rs vs/\Inv X pins c.σ c.H s1/\Vals vs us/\W (k rs) c.st Post) X.xe s:=by
 rw[ab]at h;refine thn (ha pos pins s c0.σ c0.H (fun vs H1=>∃rs c,c.H=H1/\Ats C c0 c rs vs/\W (k rs) c.st Post) I ⟨c0,rfl,rfl,ok,h.mono fun rs st1 h1 c1 vs e1 e2 ok1 n1 r1=>?_⟩) ?_
 ·rw[ab,bU]at h1;subst e2;exact⟨rs,c1,rfl,⟨e1,ok1,n1,r1,h1.1⟩,h1.2⟩
 ·rintro us s1 ⟨vs,H1,I1,rv,rs,c1,rfl,t,w⟩;exact⟨rs,c1,vs,t,by rw[t.hσ];exact I1,rv,w⟩
theorem Ats.one{r:Kd×U}{vs:List V}(t:Ats C c0 c [r] vs):∃v,vs=[v]/\aA C c0 c r.1 r.2 v:=by
 obtain⟨v,t',rfl,h1,h2,_⟩:=t.rep;cases h2;exact⟨v,rfl,h1.t t.stb⟩
theorem Ok.share(ok:Ok C c){r:Addr}{st':ag}(h0:C.H₀ r=none)(hH:∃o,c.H r=some o)(hl:st'.length=c.st.length)
  (hst:∀(i:Nat) k u,st'[i]?=some (some (k,u))->(∃v,c.σ[i]?=some (some v)/\eE C (fun a=>c.S a\/a=r) c.H k u v)/\(k.root=true->c.st[i]?=some (some (k,u)))) (hdd:DOk C {c with S:=fun a=>c.S a\/a=r,st:=st' }) :
  Ok C {c with S:=fun a=>c.S a\/a=r,st:=st' }:=by
 refine⟨ok.same,fun a z=>?_,ok.par,ok.io,by rw[show({c with S:=fun a=>c.S a\/a=r,st:=st' }:Cf).st.length=st'.length from rfl,hl];exact ok.len,fun i k u e=>(hst i k u e).1,fun i j k k' u u' r' hk hk' e1 e2 e3 e4=>?_,hdd⟩
 ·rcases z with z|rfl
  ·exact ok.sfr a z
  ·exact⟨h0,hH⟩
 ·exact ok.inj i j k k' u u' r' hk hk' ((hst i k u e1).2 hk) ((hst j k' u' e2).2 hk') e3 e4
theorem Ok.yM(ok0:Ok C c0)(ok:Ok C c)(n:Nx c0 c){r:Addr}(h0:c0.H r=none)(hR:¬c.R r){u:U}(hr:cT C c.S c.H r u):
  Ok C {c with S:=fun a=>c.S a\/a=r}/\Nx c0 {c with S:=fun a=>c.S a\/a=r}:=by
 obtain⟨o,ho,_⟩:=hr.some;refine⟨ok.share (st':=c.st) (ok0.j_ h0).1 ⟨o,ho⟩ rfl (fun i k u e=>⟨?_,fun _=>e⟩) (ok.dd.hs (.up fun a=>.inl) fun j a z=>⟨fun q=>q.elim (ok.root (.inr ⟨j,z⟩)).1 fun e=>hR (.inr ⟨j,e▸z⟩),fun o q=>q⟩),⟨⟨n.keep,n.there,n.roots,fun a z=>.inl (n.sub a z),fun a z=>?_⟩,n.all⟩⟩
 ·obtain⟨v,e1,e2⟩:=ok.sl i k u e;have mup:Mv c.S c.H (fun a=>c.S a\/a=r) c.H:=.up fun a=>.inl;refine⟨v,e1,e2.mv mup (.up fun a z=>z.imp id .inl) fun hk r' er=>⟨?_,fun o q=>q⟩⟩;obtain⟨r'',er',q1,_⟩:=e2.rt hk;rw[er]at er';cases er';rintro(z|rfl)
  ·exact q1 z
  ·exact hR (.inl ⟨i,k,u,hk,e,by rw[e1,er]⟩)
 ·rcases z with z|rfl
  ·exact n.new a z
  ·exact .inr (.inr h0)
theorem Ok.tW(ok:Ok C c)(n:Nx c0 c){j:Nat}{u:U}{r:Addr}(hj:c.st[j]?=some (some (.own,u)))(hv:c.σ[j]?=some (some (.ref r))):
  Ok C {c with S:=fun a=>c.S a\/a=r,st:=c.st.set j (some (.loc,u))}/\Nx c0 {c with S:=fun a=>c.S a\/a=r,st:=c.st.set j (some (.loc,u))}/\Rep C (fun a=>c.S a\/a=r) c.H u (.ref r):=by
 obtain⟨v',e1,r',er,q1,q2,q3,q4⟩:=ok.sl j _ _ hj;rw[hv]at e1;cases e1;cases er;have hrep:Rep C (fun a=>c.S a\/a=r) c.H u (.ref r):=q4.rep (fun a=>.inl) (.inr rfl);obtain⟨o,ho,_⟩:=q4.some;have hjl:j<c.st.length:=(List.getElem?_eq_some_iff.mp hj).1;have oth:∀(i:Nat) k u',(c.st.set j (some (.loc,u)))[i]?=some (some (k,u'))->i≠j->c.st[i]?=some (some (k,u')):=fun i k u' e ne=>by rw[List.getElem?_set_ne (Ne.symm ne)]at e;exact e
 have hR1:c.R1 r:=⟨j,.own,u,rfl,hj,hv⟩
 have dD:∀(i:Nat) (u':U),(c.st.set j (some (.loc,u)))[i]?=some (some (.ownD,u'))->c.st[i]?=some (some (.ownD,u')):=fun i u' e=>by
  by_cases hij:i=j
  ·subst hij;rw[List.getElem?_set_self hjl]at e;cases e
  ·exact oth i .ownD u' e hij
 have b1:∀a,({c with S:=fun a=>c.S a\/a=r,st:=c.st.set j (some (.loc,u))}:Cf).R1 a->c.R1 a:=fun a hIx=>by
  obtain⟨i,k,u',hk,e,e'⟩:=hIx;by_cases hij:i=j
  ·subst hij;rw[List.getElem?_set_self hjl]at e;cases e;cases hk
  ·exact⟨i,k,u',hk,oth i k u' e hij,e'⟩
 have hdd:DOk C {c with S:=fun a=>c.S a\/a=r,st:=c.st.set j (some (.loc,u))}:=ok.dd.of rfl (fun i u' e=>⟨dD i u' e,rfl⟩) (fun a z=>.inl (b1 a z)) (.up fun a=>.inl) fun i a z=>⟨fun q=>q.elim (ok.root (.inr ⟨i,z⟩)).1 fun e=>ok.dd.d1 i a z (e▸hR1),fun o q=>q⟩
 refine⟨ok.share (st':=c.st.set j (some (.loc,u))) q3 ⟨o,ho⟩ (by simp) (fun i k u' e=>?_) hdd,⟨⟨n.keep,n.there,fun a z=>?_,fun a z=>.inl (n.sub a z),fun a z=>?_⟩,n.all⟩,hrep⟩
 ·by_cases hij:i=j
  ·subst hij;rw[List.getElem?_set_self hjl]at e;cases e;exact⟨⟨.ref r,hv,hrep⟩,fun z=>nomatch z⟩
  ·have e0:=oth i k u' e hij;obtain⟨v,e1,e2⟩:=ok.sl i k u' e0;refine⟨⟨v,e1,e2.mv (.up fun a=>.inl) (.up fun a z=>z.imp id .inl) fun hk r' er=>⟨?_,fun o q=>q⟩⟩,fun _=>e0⟩;obtain⟨r'',er',p1,_⟩:=e2.rt hk;rw[er]at er';cases er';rintro(z|rfl)
   ·exact p1 z
   ·exact hij (ok.inj i j k .own u' u r' hk rfl e0 hj (by rw[e1,er]) hv)
 ·rcases z with z|⟨i,u',r',e1,e2,e3⟩
  ·exact n.roots a (.inl (b1 a z))
  ·exact n.roots a (.inr ⟨i,u',r',dD i u' e1,e2,e3⟩)
 ·rcases z with z|rfl
  ·exact n.new a z
  ·rcases n.roots a (.inl ⟨j,.own,u,rfl,hj,hv⟩) with z|z
   ·exact .inr (.inl z)
   ·exact .inr (.inr z)
theorem gb{r:Kd×U}{v:V}{Post:U->ag->Prop}(ok0:Ok C c0)(ok:Ok C c)(n:Nx c0 c)(hr:eF C c0 c r.1 r.2 v)(h:W (lift r) c.st Post):
  ∃(S':Addr->Prop) (st':ag) (u:U),(∀a,c.S a->S' a)/\Ok C {c with S:=S',st:=st' }/\Nx c0 {c with S:=S',st:=st' }/\Rep C S' c.H u v/\Post u st' /\
   (∀a,S' a->c.S a\/v=.ref a/\(r.1=.own\/c.R a))/\∀a,({c with S:=S',st:=st' }:Cf).R a->c.R a:=by
 obtain⟨k,u⟩:=r;cases k with
 |own =>
  rw[show lift (.own,u)=pure u from rfl,ah]at h;obtain⟨r,e,h1,h2,h3,h4⟩:=hr;obtain⟨ok',n'⟩:=Ok.yM ok0 ok n h1 h3 h4;refine⟨_,c.st,u,fun a=>.inl,ok',n',by rw[e];exact h4.rep (fun a=>.inl) (.inr rfl),h,fun a z=>?_,fun a z=>z⟩;rcases z with z|rfl
  ·exact .inl z
  ·exact .inr ⟨e,.inl rfl⟩
 |loc =>
  rw[show lift (.loc,u)=pure u from rfl,ah]at h;exact⟨c.S,c.st,u,fun a=>id,ok,n,hr,h,fun a z=>.inl z,fun a z=>z⟩
 |any =>
  rw[show lift (.any,u)=if imm u=true then pure u else M.fail from rfl]at h;split at h
  ·rw[ah]at h;exact⟨c.S,c.st,u,fun a=>id,ok,n,Rep.imm (by assumption) hr,h,fun a z=>.inl z,fun a z=>z⟩
  ·exact(av.mp h).elim
 |io=>exact hr.elim
 |ownD=>exact hr.elim
 |bor j =>
  obtain⟨x,st',e,hp⟩:=h;rw[show lift (.bor j,u) c.st=match c.st[j]? with|some (some (.own,u))=>some (Ex.ok u,c.st.set j (some (.loc,u)))|_=>none from rfl]at e;split at e
  ·rename_i w hj;cases e;obtain⟨v',e1,r,er,_⟩:=ok.sl j _ _ hj;have hv:c.σ[j]?=some (some v):=hr;rw[hv]at e1;cases e1;subst er;obtain⟨ok',n',rep⟩:=ok.tW n hj hv;refine⟨_,_,_,fun a=>.inl,ok',n',rep,hp,fun a z=>?_,fun a z=>?_⟩
   ·rcases z with z|rfl
    ·exact .inl z
    ·exact .inr ⟨rfl,.inr (.inl ⟨j,.own,_,rfl,hj,hv⟩)⟩
   ·rcases z with⟨i,k,u',hk,e,e'⟩|⟨i,u',r',e,e',e''⟩
    rotate_left 1
    ·by_cases hij:i=j
     ·subst hij;have hjl:i<c.st.length:=(List.getElem?_eq_some_iff.mp hj).1;rw[List.getElem?_set_self hjl]at e;cases e
     ·rw[List.getElem?_set_ne (Ne.symm hij)]at e;exact .inr ⟨i,u',r',e,e',e''⟩
    by_cases hij:i=j
    ·subst hij;have hjl:i<c.st.length:=(List.getElem?_eq_some_iff.mp hj).1;rw[List.getElem?_set_self hjl]at e;cases e;cases hk
    ·rw[List.getElem?_set_ne (Ne.symm hij)]at e;exact .inl ⟨i,k,u',hk,e,e'⟩
  ·cases e
theorem gf:∀{rs:List (Kd×U)}{vs:List V}{c:Cf}{Post:List U->ag->Prop},Ok C c0->Ok C c->Nx c0 c->cV C c0 c rs vs->W (cw rs) c.st Post ->
  ∃(S':Addr->Prop) (st':ag) (us:List U),(∀a,c.S a->S' a)/\Ok C {c with S:=S',st:=st' }/\Nx c0 {c with S:=S',st:=st' }/\ai C S' c.H us vs/\Post us st'
 |[],vs,c,Post,ok0,ok,n,hr,h=>by
  rw[show cw []=pure [] from rfl,ah]at h;exact⟨c.S,c.st,[],fun a=>id,ok,n,hr,h⟩
 |r::rs,vs,c,Post,ok0,ok,n,hr,h=>by
  obtain⟨v,t,rfl,h1,h2,h3⟩:=hr;rw[show cw (r::rs)=lift r >>= fun u=>cw rs >>= fun us=>pure (u::us) from rfl,ab]at h;obtain⟨S1,st1,u,s1,ok1,n1,rep1,h4,hS1,hR1⟩:=gb ok0 ok n h1 h;rw[ab]at h4;have hr2:cV C c0 {c with S:=S1,st:=st1} rs t:=by
   clear h h4;have aux:∀(l:List (Kd×U)) (w:List V),cV C c0 c l w->(r.1=.own->∀(i:Nat) r' v',l[i]?=some r'->w[i]?=some v'->r'.1=.own->v'≠v)->cV C c0 {c with S:=S1,st:=st1} l w:=by
    intro l;induction l with
    |nil=>intro w q _;exact q
    |cons r2 l ih =>
     intro w q hne;obtain⟨v2,t2,rfl,q1,q2,q3⟩:=q;refine⟨v2,t2,rfl,?_,ih t2 q2 (fun hk i r' v' e1 e2 hk'=>hne hk (i+1) r' v' (by simpa using e1) (by simpa using e2) hk'),q3⟩;obtain⟨k2,u2⟩:=r2;cases k2 with
     |own =>
      obtain⟨a,e,p1,p2,p3,p4⟩:=q1;refine⟨a,e,p1,fun z=>?_,fun z=>p3 (hR1 a z),p4.mv (.up s1) fun o q=>q⟩;rcases hS1 a z with z|⟨z,z'|z'⟩
      ·exact p2 z
      ·exact hne z' 0 _ v2 rfl rfl rfl (e.trans z.symm)
      ·exact p3 z'
     |loc=>exact Rep.mv (.up s1) q1
     |any=>exact Rep.mv (.up fun a z=>z.imp id (s1 a)) q1
     |bor j=>exact q1
     |io=>exact q1
     |ownD=>exact q1
   exact aux rs t h2 h3
  obtain⟨S2,st2,us,s2,ok2,n2,rep2,h5⟩:=gf (c:={c with S:=S1,st:=st1}) ok0 ok1 n1 hr2 h4;rw[ah]at h5;exact⟨S2,st2,u::us,fun a z=>s2 a (s1 a z),ok2,n2,⟨v,t,rfl,rep1.mv (.up s2),rep2⟩,h5⟩
theorem v7{x1:Nat}(ha:PA X es (tEs C ms)):PE X (.Tuple es x1 pos) (tEv C (ms >>= fun rs=>au rs >>= fun _=>cw rs >>= fun us=>if us.length<=sizeLine then pure (.loc,.tup us) else M.fail)):=by
 rintro pins s σ H Q I ⟨c0,rfl,rfl,ok,h⟩;refine wpAny_Tuple_spliced (thn (args ha I ok h pos) fun us s1 ⟨rs,c,vs,t,I1,rv,w⟩=>?_);rw[ab]at w;obtain⟨S',st',ws,s1',ok1,n1,rep,w1⟩:=gf ok t.ok t.nx t.rep w;split at w1
 ·rename_i hz;rw[ah]at w1;have hl:vs.length<=sizeLine:=by rw[<-rep.len];exact hz
  refine⟨by rw[<-rv.length];exact hl,?_⟩;have hf:c.H s1.heap.objs.size=none:=I1.hok.fresh (Nat.le_refl _);have I2:Inv X pins c0.σ c.H s1:=by rw[<-t.hσ];exact I1
  refine⟨.ref s1.heap.objs.size,upd c.H s1.heap.objs.size (.tup vs),I2.laid (t':=s1.toks) (fun b u e=>Heap.get?_push_of_some _ e) (Nat.le_refl _) ⟨hl,us,rv,IsTup.new _ _⟩,rfl,?_⟩;exact bX.tup (c:={c with S:=S',st:=st' }) w1 t.hσ ok1 n1 rep _ hf
 ·exact(av.mp w1).elim
theorem v8(ha:PA X es (tEs C ms)):PE X (.List es pos) (tEv C (ms >>= fun rs=>au rs >>= fun _=>cw rs >>= fun us=>if us.length<=sizeLine then pure (.own,.lst us) else M.fail)):=by
 rintro pins s σ H Q I ⟨c0,rfl,rfl,ok,h⟩;refine wpAny_List_spliced (thn (args ha I ok h pos) fun us s1 ⟨rs,c,vs,t,I1,rv,w⟩=>?_);rw[ab]at w;obtain⟨S',st',ws,s1',ok1,n1,rep,w1⟩:=gf ok t.ok t.nx t.rep w;split at w1
 ·rename_i hz;rw[ah]at w1;have hl:vs.length<=sizeLine:=by rw[<-rep.len];exact hz
  refine⟨by rw[<-rv.length];exact hl,?_⟩;have hf:c.H s1.heap.objs.size=none:=I1.hok.fresh (Nat.le_refl _);have I2:Inv X pins c0.σ c.H s1:=by rw[<-t.hσ];exact I1
  refine⟨.ref s1.heap.objs.size,upd c.H s1.heap.objs.size (.lst vs),I2.laid (t':=s1.toks) (fun b u e=>Heap.get?_push_of_some _ e) (Nat.le_refl _) ⟨hl,us,0,rv,Heap.get?_push_size _ rfl⟩,rfl,?_⟩;exact bX.list (c:={c with S:=S',st:=st' }) w1 t.hσ ok1 n1 rep _ hf
 ·exact(av.mp w1).elim
end
end TM
namespace TM
open PySem L2 PyProof.Rows
section
variable{X:Cx}{C:Ct}{pins:List (Addr×Obj)}{s:Shared}{c0 c c1:Cf}
variable{a b d e:Expr}{es:List Expr}{m ma mb md:M (Kd×U)}{ms:M (List (Kd×U))}{ta tb:M Bool}{pos p:Pos}
theorem lQ{i:Nat}{x:Str}(hN:X.N[i]?=some x)(hv:Vis X.env.scope x)(hd:(x==("__debug__":Str))=false)(hcd:(x==("__classdict__":Str))=false):PE X (.Name x pos) (tEv C (cZ i)):=by
 refine PE.weak (bV hN hv hd hcd) ?_;rintro σ H Q ⟨c0,rfl,rfl,ok,r,st',e,h⟩;unfold cZ at e;split at e
 ·cases e
 ·rename_i k u hnD hs;cases e;obtain⟨v,e1,e2⟩:=ok.sl i k u hs;refine⟨v,e1,h c0 v rfl rfl ok (Nx.refl c0) ?_⟩;by_cases hk:k.root=true
  ·rw[if_pos hk];exact⟨⟨k,hk,hs⟩,e1⟩
  ·rw[if_neg hk];cases k with
   |own=>exact absurd rfl hk
   |io=>exact absurd rfl hk
   |loc=>exact e2
   |any=>exact e2
   |bor j=>exact e2.elim
   |ownD=>exact(hnD rfl).elim
 ·cases e
theorem gh{u:U}{v:V}(h:PE X e (tC v))(r:∀S H,Rep C S H u v):PE X e (tEv C (pure (.loc,u))):=by
 refine PE.weak h ?_;rintro σ H Q ⟨c0,rfl,rfl,ok,h⟩;rw[ah]at h;exact h c0 v rfl rfl ok (Nx.refl c0) (r _ _)
theorem bX.root{u:U}{o:HO}{Q:VK}(h:bX C c0 Q (.own,u) c.st)(hσ:c.σ=c0.σ)(ok:Ok C c)(n:Nx c0 c)(p:Addr)(hp:c.H p=none)(r:cT C c.S (upd c.H p o) p u):Q (.ref p) (upd c.H p o):=by
 obtain⟨ok',n'⟩:=ok.lay (o:=o) hp;obtain⟨h0,h1,h2,h3,h4⟩:=ok.j_ hp;exact h {c with H:=upd c.H p o} _ hσ rfl ok' (n.trans n') ⟨p,rfl,n.none hp,h1,h4,r⟩
theorem tX(hP:C.P=X.prog)(hw:C.w=X.w)(r:Bool):PE X (.Dict [] [] pos) (tEv C (pure (.own,if r=true then .rdc [] else .dic [] []))):=by
 cases r with
 |false =>
  refine PE.weak mR ?_;rintro σ H Q ⟨c0,rfl,rfl,ok,h⟩ p hp;rw[ah,if_neg Bool.false_ne_true]at h;exact bX.root h rfl ok (Nx.refl c0) p hp ⟨[],ar,rfl,rfl⟩
 |true =>
  refine PE.weak vG ?_;rintro σ H Q ⟨c0,rfl,rfl,ok,h⟩ p hp;rw[ah,if_pos rfl]at h;refine bX.root h rfl ok (Nx.refl c0) p hp ⟨[],?_,rfl,fun x hx=>by cases hx⟩;rw[hP,hw];exact ar
theorem ai.atI{S:Addr->Prop}{H:Hp}{us:List U}{vs:List V}{i:Int}{u:U}(h:ai C S H us vs)(e:atI us i=some u):∃v,L2.atI vs i=some v/\Rep C S H u v:=by
 unfold L2.atI at e ⊢;rw[h.len]at e;cases q:ixN vs.length i with
 |none=>rw[q]at e;cases e
 |some j =>
  rw[q]at e;exact h.get e
theorem yN{x y r:Kd×U}{vx vy:V}{v u:Value}{Q:VK}(hK:C.K=X.K)(hu:X.A.units+60<cLine)(hs:lr b)(t:At2 C c0 c x y vx vy)(I:Inv X pins c.σ c.H s)(rx:RelV vx v)(ry:RelV vy u)(h:iA x y.2=some r)(q:bX C c0 Q r c.st):
  wpAny (model X.prog X.w) X.A (subscriptTail a b v u) (EP X pins c.σ Q) X.xe s:=by
 obtain⟨hσ,ok,n,tx,ty,-⟩:=t;obtain⟨ky,uy⟩:=y
 dsimp only at h ty
 unfold iA at h;split at h
 ·rename_i k xs i;rw[Option.map_eq_some_iff]at h;obtain⟨w,e,rfl⟩:=h;obtain⟨a',vs,ex,h1,h2⟩:=tx.list ok;obtain⟨vw,e1,e2⟩:=h2.atI e;exact vm a b pins s c.σ c.H vx vy v u Q I rx ry ⟨a',vs,i,vw,ex,ty.int ok,hK▸h1,e1,q c vw hσ rfl ok n (aA.item e2)⟩ (hs _ _)
 ·rename_i k xs i;rw[Option.map_eq_some_iff]at h;obtain⟨w,e,rfl⟩:=h;obtain⟨a',vs,ex,h1,h2⟩:=tx.tuple ok;obtain⟨vw,e1,e2⟩:=h2.atI e;rw[hK]at h1;exact i_ a b pins s c.σ c.H vx vy v u Q I rx ry ⟨a',vs,i,vw,ex,ty.int ok,h1,e1,q c vw hσ rfl ok n (aA.item e2)⟩ (hs _ _)
 ·split at h
  ·rw[Option.map_eq_some_iff]at h;obtain⟨w,e,rfl⟩:=h;exact ja a b pins s c.σ c.H vx vy v u Q I rx ry ⟨_,_,w,tx.str ok,ty.int ok,by assumption,e,q c _ hσ rfl ok n rfl⟩ (hs _ _)
  ·cases h
 ·cases h
theorem qo(hK:C.K=X.K)(hu:X.A.units+60<cLine)(hs:lr b)(ha:PE X a (tEv C ma))(hb:PE X b (tEv C mb)):PE X (.Subscript a b pos) (tEv C (ma >>= fun x=>mb >>= fun y=>au [x,y] >>= fun _=>M.ofO (iA x y.2))):=by
 rintro pins s σ H Q I ⟨c0,rfl,rfl,ok,h⟩;refine Subscript_ (two ha hb I ok h fun x y c vx vy v u s2 t I2 rx ry w=>?_);obtain⟨r,e,q⟩:=bT.mp w;exact thn (yN hK hu hs t I2 rx ry e q) fun _ _ z=>by rw[t.hσ]at z;exact z
theorem ai.cut{S:Addr->Prop}{H:Hp}{us:List U}{vs:List V}(h:ai C S H us vs)(lo hi:Option Int):ai C S H (TM.cut us lo hi) (mO vs lo hi):=by
 unfold TM.cut mO;rw[h.len];exact(h.drop _).take _
theorem rL{α:Type}{xs:List α}{lo hi:Option Int}(h:HT.sIx xs.length 0 lo=0/\HT.sIx xs.length xs.length hi=xs.length):cut xs lo hi=xs:=by
 unfold cut;rw[h.1,h.2];simp
end
end TM
namespace TM
open PySem L2 PyProof.Rows
section
variable{prog:Program}{w:World}{A:Around}{E:Value->Shared->Prop}{s:Shared}
theorem fc{t sl:Addr}{items:Array Value}{vl vu:Value}{lo hi:Option Int}{Q:Value->Shared->Prop}(ht:IsTup s.heap t items)(hs:s.heap.IsSliceOf sl vl vu .none)(pl:IsPart vl lo)(pu:IsPart vu hi)
  (hw:HT.sIx items.size 0 lo=0/\HT.sIx items.size items.size hi=items.size) (h:Q (.ref t) s):wpAny (model prog w) A (getItem (.ref t) (.ref sl)) Q E s:=by
 obtain⟨os,hos,hcs,hds⟩:=id hs;have hTs:s.TypeIs (.ref sl) "slice":=⟨os,hos,hcs⟩
 unfold getItem
 try with_reducible refine wpAny_holding ?_
 first|refine wpAny_bind (wpAny_pure ?_)|skip
 refine wpAny_bind (wpAny_sequenceKey ht.typeIs (by decide) ?_);refine wpAny_bind (wpAny_callSpecial?_slot (name:=Str.ofString "__getitem__") ht.typeIs PyProof.Rows.slot_tuple_getitem
  (wpAny_call_entry PyProof.Rows.slot_tuple_getitem ht.typeIs entry_tuple_getitem ?_ (args_tuple_getitem _ _)))
 show wpAny _ _ (Builtin.Tuple.tupleItemsOf (.ref t) >>= _) _ _ s;refine wpAny_bind (tupleItemsOf_ ht ?_);refine wpAny_bind (wpAny_typeOf hTs ?_);rw[if_pos (by decide)];refine wpAny_bind (HT.di hs pl pu ?_);have hyes:(((HT.sIx items.size 0 lo:Nat):Int)==0&&(1:Int)==1&&(HT.sIx items.size items.size hi - HT.sIx items.size 0 lo)==items.size)=true:=by
  rw[hw.1,hw.2];simp
 show wpAny _ _ (if (((HT.sIx items.size 0 lo:Nat):Int)==0&&(1:Int)==1&&(HT.sIx items.size items.size hi - HT.sIx items.size 0 lo)==items.size)=true then _ else _) _ _ s;rw[if_pos hyes];show wpAny (model prog w) A.in1 ((typeOf (Value.ref t) >>= fun x=>pure (x==.type "tuple")) >>= _) _ _ s;refine wpAny_bind (wpAny_bind (wpAny_typeOf ht.typeIs (wpAny_pure ?_)));rw[if_pos (by decide)];exact wpAny_bind (wpAny_rule (wpAny_pure ⟨_,rfl,wpAny_pure h⟩))
end
section
variable{X:Cx}{C:Ct}{pins:List (Addr×Obj)}{s:Shared}{c0 c c1:Cf}
variable{a b d e:Expr}{es:List Expr}{m ma mb md:M (Kd×U)}{ms:M (List (Kd×U))}{ta tb:M Bool}{pos p p2:Pos}
theorem v9:SlR X (fun x lo hi H Q=>∃a xs,x=.ref a/\SqT X.K H a xs/\(HT.sIx xs.length 0 lo=0/\HT.sIx xs.length xs.length hi=xs.length)/\Q (.ref a) H):=by
 intro pins s σ H x v vl vu lo hi sl Q I rx hs pl pu h;obtain⟨a,xs,rfl,hx,hw,q⟩:=h;cases rx;obtain⟨its,r,ht,hz⟩:=I.tuple hx;have hlen:its.toArray.size=xs.length:=by rw[List.size_toArray];exact r.length.symm
 exact⟨"tuple",_,PyProof.Rows.slot_tuple_getitem.lookup,ht.typeIs,fc ht hs pl pu (by rw[hlen];exact hw) ⟨.ref a,H,I,rfl,q⟩⟩
noncomputable def tO(C:Ct)(m:M (Option Int)):TO:=fun σ H Q=>∃c0:Cf,c0.σ=σ/\c0.H=H/\Ok C c0/\W m c0.st fun i st'=>∀c,c.σ=σ->c.st=st'->Ok C c->Nx c0 c->Q i c.H
theorem rM:PO X none (tO C (pure none)):=by
 rintro pins s σ H Q I ⟨c0,rfl,rfl,ok,h⟩;rw[ah]at h;exact vi pins s c0.σ c0.H Q I (h c0 rfl rfl ok (Nx.refl c0))
theorem rN(ha:PE X a (tEv C ma)):PO X (some a) (tO C (ma >>= yD)):=by
 rintro pins s σ H Q I ⟨c0,rfl,rfl,ok,h⟩;refine vj ha pins s c0.σ c0.H Q I (aB ok h fun x c v t w=>?_);obtain⟨k,u⟩:=x;unfold yD at w;split at w
 ·rename_i i e
  dsimp only at e
  subst e;rw[ah]at w;exact⟨i,t.rx.int t.ok,w c t.hσ rfl t.ok t.nx⟩
 ·exact(av.mp w).elim
theorem yO{x r:Kd×U}{vx:V}{lo hi:Option Int}{Q:VK}(hK:C.K=X.K)(hσ:c.σ=c0.σ)(ok:Ok C c)(n:Nx c0 c)(tx:aA C c0 c x.1 x.2 vx)(h:iB x lo hi=some r)(q:bX C c0 Q r c.st):
  ((zX X.K vx lo hi c.H Q\/zU X.K vx lo hi c.H Q)\/(∃a xs,vx=.ref a/\SqT X.K c.H a xs/\(HT.sIx xs.length 0 lo=0/\HT.sIx xs.length xs.length hi=xs.length)/\Q (.ref a) c.H))\/Aa vx lo hi c.H Q:=by
 unfold iB at h;split at h
 ·split at h
  ·rename_i hh;cases h;obtain⟨a',vs,ex,h1,h2⟩:=tx.list ok;exact .inl (.inl (.inl ⟨a',vs,ex,hK▸h1,fun p hp=>q.list hσ ok n ((eG hh h2).cut lo hi) p hp⟩))
  ·cases h
 ·cases h;obtain⟨a',vs,ex,h1,h2⟩:=tx.tuple ok;have h1':=h1;rw[hK]at h1';by_cases hw:HT.sIx vs.length 0 lo=0/\HT.sIx vs.length vs.length hi=vs.length
  ·refine .inl (.inr ⟨a',vs,ex,h1',hw,?_⟩);refine q c (.ref a') hσ rfl ok n (aA.item ⟨a',vs,rfl,h1,?_⟩);rw[rL (by rw[h2.len];exact hw)];exact h2
  ·exact .inl (.inl (.inr ⟨a',vs,ex,h1',hw,fun p hp=>q.tupK hσ ok n (h2.cut lo hi) p hp⟩))
 ·split at h
  ·cases h;exact .inr ⟨_,tx.str ok,by assumption,q.flat hσ ok n rfl⟩
  ·cases h
 ·cases h
theorem v_{lo hi:Option Expr}{ml mh:M (Option Int)}(hK:C.K=X.K)(ha:PE X a (tEv C ma))(hl:PO X lo (tO C ml))(hh:PO X hi (tO C mh)):
  PE X (.Subscript a (.Slice lo hi none p2) pos) (tEv C (ma >>= fun x=>ml >>= fun l=>mh >>= fun h=>au [x] >>= fun _=>M.ofO (iB x l h))):=by
 refine PE.weak (sJ (((SlR.or vn x9).or v9).or yn) ha hl hh) ?_;rintro σ H Q ⟨c0,rfl,rfl,ok,h⟩;refine aB ok h fun x c v t w=>?_;rw[ab]at w;refine⟨c,t.hσ,rfl,t.ok,w.mono fun l st2 h2 c2 e1 e2 ok2 n2=>?_⟩;subst e2;rw[ab]at h2;refine⟨c2,e1,rfl,ok2,h2.mono fun l' st3 h3 c3 e3 e4 ok3 n3=>?_⟩;subst e4;rw[ab,bU]at h3;obtain⟨r,e,q⟩:=bT.mp h3.2;have n13:Nx c c3:=n2.trans n3;exact yO hK e3 ok3 (t.nx.trans n13) ((t.rx.w.on t.ok n13 (e3.trans t.hσ.symm)).t h3.1) e q
end
end TM
namespace TM
open PySem L2 PyProof.Rows
section
variable{X:Cx}{C:Ct}{pins:List (Addr×Obj)}{s:Shared}{c0 c c1:Cf}
variable{a b d e:Expr}{es:List Expr}{m ma mb md:M (Kd×U)}{ms:M (List (Kd×U))}{ta tb:M Bool}{pos p p2:Pos}
noncomputable def Bf.val:Bf->Value
 |.len=>.builtin "len"|.sorted=>.builtin "sorted"|.repr=>.builtin "repr"|.max=>.builtin "max"|.min=>.builtin "min"|.all=>.builtin "all"|.any=>.builtin "any"
 |.list=>.type "list"|.tuple=>.type "tuple"|.str=>.type "str"|.int=>.type "int"
noncomputable def Bf.name:Bf->Str
 |.len=>"len"|.sorted=>"sorted"|.repr=>"repr"|.max=>"max"|.min=>"min"|.all=>"all"|.any=>"any"
 |.list=>"list"|.tuple=>"tuple"|.str=>"str"|.int=>"int"
theorem call_of{f:Value}{r:List V->Hp->VK->Prop}(hc:fL X f r){vs:List V}{us:List Value}{Q:VK}(I:Inv X pins c.σ c.H s)(rv:Vals vs us)(h:r vs c.H Q):wpAny (model X.prog X.w) X.A (call f us) (EP X pins c.σ Q) X.xe s:=hc pins s c.σ c.H vs us Q I rv h
theorem bN{β:Type}{f:Kd×U->Option β}{rs:List (Kd×U)}{r:β}(h:fZ f rs=some r):∃x,rs=[x]/\f x=some r:=by
 unfold fZ at h;split at h
 ·exact⟨_,rfl,h⟩
 ·cases h
theorem xl{f:Bf}{rs:List (Kd×U)}{r:Kd×U}{vs:List V}{us:List Value}{Q:VK}(hc:X.calm=true)(hK:C.K=X.K)(hgd:X.A.guards=some [])(hun:X.A.units+60<cLine)(t:Ats C c0 c rs vs)(I:Inv X pins c.σ c.H s)(rv:Vals vs us)(h:biU f rs=some r)(q:bX C c0 Q r c.st):
  wpAny (model X.prog X.w) X.A (call f.val us) (EP X pins c.σ Q) X.xe s:=by
 have hσ:=t.hσ;have ok:=t.ok;have n:=t.nx;cases f with
 |len =>
  obtain⟨x,rfl,hz⟩:=bN (f:=fun x=>(yx x.2).map fun(n:Nat)=>(Kd.loc,U.int (n:Int))) h;clear h;have h:=hz;clear hz;rw[Option.map_eq_some_iff]at h;obtain⟨k,e,rfl⟩:=h;obtain⟨v,rfl,tx⟩:=t.one;obtain⟨kx,ux⟩:=x;unfold yx at e;split at e
  ·rename_i xs hx;have hx:ux=.lst xs:=hx;subst hx;cases e;obtain⟨a',ws,ex,h1,h2⟩:=tx.list ok;rw[h2.len]at q;exact call_of fN I rv ⟨a',ws,by rw[ex],.inl (hK▸h1),q.flat hσ ok n rfl⟩
  ·rename_i xs hx;have hx:ux=.tup xs:=hx;subst hx;cases e;obtain⟨a',ws,ex,h1,h2⟩:=tx.tuple ok;rw[hK]at h1;rw[h2.len]at q;exact call_of fN I rv ⟨a',ws,by rw[ex],.inr h1,q.flat hσ ok n rfl⟩
  ·rename_i xs hx;have hx:ux=.str xs:=hx;subst hx;split at e
   ·cases e;exact call_of ly I rv ⟨_,by rw[tx.str ok],by assumption,q.flat hσ ok n rfl⟩
   ·cases e
  ·cases e
 |sorted =>
  obtain⟨x,rfl,hz⟩:=bN (f:=yy) h;clear h;have h:=hz;clear hz;obtain⟨v,rfl,tx⟩:=t.one;unfold yy at h;split at h
  ·obtain⟨a',ws,ex,h1,h2⟩:=tx.list ok;unfold tI at h;split at h
   ·rename_i ss e;have e':=bK e;subst e';rw[ai.strs]at h2;subst h2;split at h
    ·cases h;exact call_of gZ I rv ⟨a',ss,by rw[ex],.inl (hK▸h1),by assumption,fun p hp=>q.list hσ ok n (ai.strs.mpr rfl) p hp⟩
    ·cases h
   ·obtain⟨ns,e,hb⟩:=Option.bind_eq_some_iff.mp h;have e':=eI e;subst e';have h2':=ai.ints h2;subst h2';split at hb
    ·cases hb;exact call_of gG I rv ⟨a',ns,by rw[ex],hK▸h1,by assumption,fun p hp=>q.list hσ ok n (ai.xk _) p hp⟩
    ·cases hb
  ·obtain⟨a',kvs,ex,h1,h2,_⟩:=tx.dict ok;split at h
   ·cases h;exact call_of (gH hc) I rv ⟨a',kvs,_,by rw[ex],h1,h2,by assumption,fun p hp=>q.list hσ ok n (ai.strs.mpr rfl) p hp⟩
   ·cases h
  ·rw[Option.bind_eq_some_iff]at h;obtain⟨ss,e,h⟩:=h;have e':=bK e;subst e';obtain⟨a',ws,ex,h1,h2⟩:=tx.tuple ok;rw[hK]at h1;rw[ai.strs]at h2;subst h2;split at h
   ·cases h;exact call_of gZ I rv ⟨a',ss,by rw[ex],.inr h1,by assumption,fun p hp=>q.list hσ ok n (ai.strs.mpr rfl) p hp⟩
   ·cases h
  ·cases h
 |tuple =>
  obtain⟨x,rfl,hz⟩:=bN (f:=yz) h;clear h;have h:=hz;clear hz;obtain⟨v,rfl,tx⟩:=t.one;unfold yz at h;split at h
  ·obtain⟨a',ws,ex,h1,h2⟩:=tx.list ok;cases h;exact call_of fh I rv ⟨a',ws,by rw[ex],.inl ⟨hK▸h1,fun p hp=>q.tupK hσ ok n h2 p hp⟩⟩
  ·obtain⟨a',ws,ex,h1,h2⟩:=tx.tuple ok;have h1':=h1;rw[hK]at h1';cases h;exact call_of fh I rv ⟨a',ws,by rw[ex],.inr ⟨h1',q c (.ref a') hσ rfl ok n (aA.item ⟨a',ws,rfl,h1,h2⟩)⟩⟩
  ·cases h
 |str =>
  obtain⟨x,rfl,hz⟩:=bN (f:=tJ) h;clear h;have h:=hz;clear hz;obtain⟨v,rfl,tx⟩:=t.one;unfold tJ at h;split at h
  ·split at h
   ·cases h;exact call_of lj I rv ⟨_,by rw[tx.int ok],by assumption,q.flat hσ ok n rfl⟩
   ·cases h
  ·cases h
 |all =>
  obtain⟨x,rfl,hz⟩:=bN (f:=yA) h;clear h;have h:=hz;clear hz;obtain⟨v,rfl,tx⟩:=t.one;unfold yA at h;split at h
  ·rw[Option.map_eq_some_iff]at h;obtain⟨bs,e,rfl⟩:=h;have e':=jA e;subst e';obtain⟨a',ws,ex,h1,h2⟩:=tx.list ok;have:=h2.bls;subst this;exact call_of (tf hc) I rv ⟨a',bs,by rw[ex],hK▸h1,q.flat hσ ok n rfl⟩
  ·cases h
 |_=>cases h
theorem wa{f:Bf}{x:Str}{id:String}(hc:X.calm=true)(hK:C.K=X.K)(hgd:X.A.guards=some [])(hun:X.A.units+60<cLine)(hf:f.val=.builtin id)(hg:Gl X x)(hm:X.mg x=none)(hv:bootBuiltins x=some (.builtin id))(hn:x≠"__name__")(hdb:(x==("__debug__":Str))=false)
  (ha:PA X (e::es) (tEs C ms)) (he:starEach (e::es) X.env=(false,eval e X.env)::starEach es X.env) (hpl:(backTo pos (starEach es X.env)).any (·.1)=false) :
  PE X (.Call (.Name x p) (e::es) [] pos) (tEv C (ms >>= fun rs=>au rs >>= fun _=>M.ofO (biU f rs))):=by
 rintro pins s σ H Q I ⟨c0,rfl,rfl,ok,h⟩;refine wpAny_Call_Name_kw (dz I hg hm hv ?_ hn hdb);refine PyProof.Rows.callWith_builtin1 (thn (args ha I ok h pos) fun us s1 ⟨rs,c,vs,t,I1,rv,w⟩=>?_) he hpl;obtain⟨r,e,q⟩:=bT.mp w;have z:=xl hc hK hgd hun t I1 rv e q;rw[hf,t.hσ]at z;exact z
theorem wb{f:Bf}{x:Str}{T:String}(hc:X.calm=true)(hK:C.K=X.K)(hgd:X.A.guards=some [])(hun:X.A.units+60<cLine)(hf:f.val=.type T)(hg:Gl X x)(hm:X.mg x=none)(hv:bootBuiltins x=some (.type T))(hn:x≠"__name__")(hdb:(x==("__debug__":Str))=false)
  (ha:PA X (e::es) (tEs C ms)) (he:starEach (e::es) X.env=(false,eval e X.env)::starEach es X.env) (hpl:(backTo pos (starEach es X.env)).any (·.1)=false) :
  PE X (.Call (.Name x p) (e::es) [] pos) (tEv C (ms >>= fun rs=>au rs >>= fun _=>M.ofO (biU f rs))):=by
 rintro pins s σ H Q I ⟨c0,rfl,rfl,ok,h⟩;refine wpAny_Call_Name_kw (dz I hg hm hv ?_ hn hdb);refine PyProof.Rows.callWith_type1 (thn (args ha I ok h pos) fun us s1 ⟨rs,c,vs,t,I1,rv,w⟩=>?_) he hpl;obtain⟨r,e,q⟩:=bT.mp w;have z:=xl hc hK hgd hun t I1 rv e q;rw[hf,t.hσ]at z;exact z
noncomputable def Ty5.name:Ty5->Str
 |.str=>"str"|.list=>"list"|.tuple=>"tuple"|.int=>"int"|.bool=>"bool"
noncomputable def Ty5.nm:Ty5->String
 |.str=>"str"|.list=>"list"|.tuple=>"tuple"|.int=>"int"|.bool=>"bool"
theorem wc(T:Ty5):bootBuiltins T.name=some (.type T.nm)/\T.name≠"__name__"/\(T.name==("__debug__":Str))=false:=by
 cases T<;>exact⟨by decide +kernel,by decide +kernel,by decide +kernel⟩
theorem lR(T:Ty5):typeOf (.type T.nm)=pure (.type "type"):=by cases T<;>kernel_rfl
theorem qp(T:Ty5):isSubtype (.type "str") (.type T.nm)=pure (decide (T=.str)):=by cases T<;>(rw[isSubtype_type];kernel_rfl)
theorem sub_int(T:Ty5):isSubtype (.type "int") (.type T.nm)=pure (decide (T=.int)):=by cases T<;>(rw[isSubtype_type];kernel_rfl)
theorem ne_str{T:Ty5}(h:¬T=.str):(Value.type "str"==Value.type T.nm)=false:=by cases T<;>first|exact absurd rfl h|decide
theorem ne_int{T:Ty5}(h:¬T=.int):(Value.type "int"==Value.type T.nm)=false:=by cases T<;>first|exact absurd rfl h|decide
theorem yP{x:Kd×U}{v:V}{val:Value}{T:Ty5}{b:Bool}{Q:Value->Shared->Prop}(hK:C.K=X.K)(t:At1 C c0 c x v)(I:Inv X pins c.σ c.H s)(rv:RelV v val)(h:oN x.2 T=some b)(q:∀tk,Q (.bool b) {s with toks:=tk}):
  wpAny (model X.prog X.w) X.A (call (.builtin "isinstance") [val,.type T.nm]) Q X.xe s:=by
 obtain⟨k,u⟩:=x;obtain⟨hσ,ok,n,r⟩:=t;have q0:Q (.bool b) s:=q s.toks
 dsimp only at h r
 have yes:∀{Tx:String},b=true->s.TypeIs val Tx->isSubtype (.type Tx) (.type T.nm)=pure true->wpAny (model X.prog X.w) X.A (call (.builtin "isinstance") [val,.type T.nm]) Q X.xe s:=fun e hx hs=>by
  subst e;exact PyProof.Rows.call_isinstance_yes hx (lR T) hs q0
 unfold oN at h;split at h
 ·cases h;have e:v=_:=r.str ok;subst e;obtain⟨tk,rfl⟩:=rv;by_cases hT:T=.str
  ·subst hT;exact yes (by simp) (typeIs_str s _ tk) (qp .str)
  ·rw[decide_eq_false hT]at q;exact call_isinstance (isinstance_false_str (ne_str hT) (lR T) (by rw[qp,decide_eq_false hT])) (q _)
 ·cases h;have e:v=_:=r.int ok;subst e;obtain⟨tk,rfl⟩:=rv;by_cases hT:T=.int
  ·subst hT;exact yes (by simp) (typeIs_int s _ tk) (sub_int .int)
  ·rw[decide_eq_false hT]at q;exact call_isinstance (isinstance_false_int (ne_int hT) (lR T) (by rw[sub_int,decide_eq_false hT])) (q _)
 ·cases h;have e:v=_:=r.bl ok;subst e;cases rv;exact yes rfl (PySem.typeIs_bool s _) (by rw[isSubtype_type];kernel_rfl)
 ·cases h;have e:v=_:=r.bl ok;subst e;cases rv;exact yes rfl (PySem.typeIs_bool s _) (by rw[isSubtype_type];kernel_rfl)
 ·cases h;obtain⟨a',ws,rfl,h1,h2⟩:=r.list ok;cases rv;rw[hK]at h1;obtain⟨its,_,pl,_⟩:=I.list h1;obtain⟨o,ho,hc,_⟩:=pl.isList;exact yes rfl ⟨o,ho,hc⟩ (by rw[isSubtype_type];kernel_rfl)
 ·cases h;obtain⟨a',ws,rfl,h1,h2⟩:=r.tuple ok;cases rv;rw[hK]at h1;obtain⟨its,_,⟨o,ho,hc,_⟩,_⟩:=I.tuple h1;exact yes rfl ⟨o,ho,hc⟩ (by rw[isSubtype_type];kernel_rfl)
 ·cases h
theorem qq{T:Ty5}(hK:C.K=X.K)(hg:Gl X "isinstance")(hm:X.mg "isinstance"=none)(hg2:Gl X T.name)(hm2:X.mg T.name=none)(ha:PE X a (tEv C ma))(hs:starEach [a,.Name T.name p2] X.env=(false,eval a X.env)::starEach [.Name T.name p2] X.env):
  PE X (.Call (.Name "isinstance" p) [a,.Name T.name p2] [] pos) (tEv C (ma >>= fun x=>M.ofO (oN x.2 T) >>= fun b=>pure (.loc,.bl b))):=by
 rintro pins s σ H Q I ⟨c0,rfl,rfl,ok,h⟩;obtain⟨t1,t2,t3⟩:=wc T;refine wpAny_Call_Name_kw (dz I hg hm (show bootBuiltins "isinstance"=some (.builtin "isinstance") by decide +kernel) ?_ (by decide +kernel) (by decide +kernel));refine PyProof.Rows.callWith_builtin1 (thn (eT ha (eT (u3 (v:=.ty T.nm) hg2 hm2 t1 rfl t2 t3) iX) hs pos pins s c0.σ c0.H (fun vs H'=>∃x c v b,At1 C c0 c x v/\c.H=H'/\vs=[v,.ty T.nm]/\oN x.2 T=some b/\bX C c0 Q (.loc,.bl b) c.st) I ?_) fun us s1 ⟨vs,H1,I1,r1,x,c,v,b,t,e,e2,hb,w⟩=>?_) hs (by rfl)
 ·refine aB ok h fun x c v t w=>?_;rw[ab]at w;obtain⟨b,e,w⟩:=bT.mp w;rw[ah]at w;exact⟨x,c,v,b,t,rfl,rfl,e,w⟩
 ·subst e e2;obtain⟨u1,u2,rfl,rr1,rr2⟩:=vals2 r1;cases rr2;have I2:Inv X pins c.σ c.H s1:=by rw[t.hσ];exact I1
  have z:=yP (Q:=EP X pins c0.σ Q) hK t I2 rr1 hb fun tk=>⟨.bl b,c.H,I1.tok tk,rfl,w c (.bl b) t.hσ rfl t.ok t.nx rfl⟩
  exact z
noncomputable abbrev ct0(P:Program)(w:World)(K:PySem.W.Frag)(H:Hp)(Pr:Addr->Prop):Ct:=⟨P,w,K,H,Pr,fun _=>False⟩
structure Back(C:Ct)(H H':Hp)(S':Addr->Prop)(k:Kd)(u:U)(v:V):Prop where
 same:ye H H'
 new:∀a,S' a->H a=none/\∃o,H' a=some o
 own:k=.own->∃r,v=.ref r/\H r=none/\¬S' r/\cT C S' H' r u
 loc:k=.loc->Rep C S' H' u v
 any:k=.any->Rep C (PS C S') H' u v
noncomputable def spT(P:Program)(w:World)(K:PySem.W.Frag)(F:List U->Option (Ex (Kd×U)))(np:Nat):Sp:=fun vs H Q _=>vs.length=np/\∃us k u Pr,F us=some (.ok (k,u))/\(k=.own\/k=.loc\/k=.any)/\(∀a,Pr a->Dom H a) /\
 ai (ct0 P w K H Pr) Pr H us vs/\∀v H' S',Back (ct0 P w K H Pr) H H' S' k u v->Q v H'
theorem Ats.read{rs:List (Kd×U)}{vs:List V}(t:Ats C c0 c rs vs):ai C (Dom c.H) c.H (rs.map (·.2)) vs:=by
 have aux:∀(l:List (Kd×U)) (w:List V),cV C c0 c l w->ba l c.st->ai C (Dom c.H) c.H (l.map (·.2)) w:=by
  intro l;induction l with
  |nil=>intro w h _;exact h
  |cons r l ih =>
   intro w h hs;obtain⟨v,t',rfl,h1,h2,_⟩:=h;rw[gI]at hs;exact⟨v,t',rfl,(h1.t hs.1).read t.ok,ih t' h2 hs.2⟩
 exact aux rs vs t.rep t.stb
theorem Back.here{k:Kd}{u:U}{v:V}{H':Hp}{S':Addr->Prop}{Q:VK}(hk:k=.own\/k=.loc)(hσ:c.σ=c0.σ)(ok:Ok C c)(n:Nx c0 c){C':Ct}(q:C'.Eqv C)(h:Back C' c.H H' S' k u v)(w:bX C c0 Q (k,u) c.st):Q v H':=by
 obtain⟨ok',n'⟩:=ok.grow (S':=fun a=>c.S a\/S' a) h.same (fun a z=>z.imp id fun z=>h.new a z) fun a=>.inl;have hn:=n.trans n';refine w {c with H:=H',S:=fun a=>c.S a\/S' a} v hσ rfl ok' hn ?_;rcases hk with rfl|rfl
 ·obtain⟨r,e,h1,h2,h3⟩:=h.own rfl;obtain⟨z0,z1,z2,z3,z4⟩:=ok.j_ h1;refine⟨r,e,n.none h1,fun z=>z.elim z1 h2,z4,(h3.cg q).mv (.up fun a=>.inr) fun o q=>q⟩
 ·exact((h.loc rfl).cg q).mv (.up fun a=>.inr)
theorem tY{f:Str}{fa:Addr}{fd:FuncData}{ps:List Str}{k np:Nat}{F:List U->Option (Ex (Kd×U))}{Γ:Tab}(hP:C.P=X.prog)(hw:C.w=X.w)(hK:C.K=X.K)(hF:Γ f=F)(hk:∀us k u,F us=some (.ok (k,u))->(k=.own\/k=.loc\/k=.any)/\us.length=np)
  (G:mM X.prog X.w X.K X.mg X.base CX0 k fa fd ps (spT X.prog X.w X.K F np)) (hr:ft k X.A) (hg:Gl X f) (hm:X.mg f=some (.ref fa)) (hkp:PySem.W.keepIn X.K (.ref fa)=true) (hb:Binds X.K fd ps [])
  (hdb:(f==("__debug__":Str))=false) (ha:PA X (e::es) (tEs C ms)) (he:starEach (e::es) X.env=(false,eval e X.env)::starEach es X.env) (hpl:(backTo pos (starEach es X.env)).any (·.1)=false) :
  PE X (.Call (.Name f p) (e::es) [] pos) (tEv C (ms >>= fun rs=>au rs >>= fun _=>jv Γ f (rs.map (·.2)))):=by
 rintro pins s σ H Q I ⟨c0,rfl,rfl,ok,h⟩;refine wpAny_Call_Name_kw (uZ I hg hm ?_ hdb);refine PySem.W.callWith_K (h₀:=X.base) I.ok.mod.kin hkp (thn (args ha I ok h pos) fun us s1 ⟨rs,c,vs,t,I1,rv,w⟩=>⟨I1.kIn,?_⟩) he hpl;obtain⟨r,st',e1,q⟩:=w;unfold jv at e1;rw[hF]at e1;cases e2:F (rs.map (·.2)) with
 |none=>rw[e2]at e1;cases e1
 |some r' =>
  rw[e2]at e1;split at e1
  ·cases e1
  ·rename_i z;cases z
  rename_i hna e3;cases e3;cases e1;obtain⟨kd,u⟩:=r;obtain⟨k0,k2⟩:=hk _ _ _ e2;have k1:kd=.own\/kd=.loc:=by
   rcases k0 with z|z|z
   ·exact .inl z
   ·exact .inr z
   ·subst z;exact(hna u rfl).elim
  have eqv:C.Eqv (ct0 X.prog X.w X.K c.H (Dom c.H)):=⟨hP,hw,hK⟩
  have eqv':(ct0 X.prog X.w X.K c.H (Dom c.H)).Eqv C:=⟨hP.symm,hw.symm,hK.symm⟩
  have rd:=t.read;have hsp:spT X.prog X.w X.K F np vs c.H (fun v H'=>Q v H') E0:=⟨by rw[<-rd.len];exact k2,rs.map (·.2),kd,u,Dom c.H,e2,k0,fun _ z=>z,rd.cg eqv,fun v H' S' hb=>hb.here k1 t.hσ t.ok t.nx eqv' q⟩
  have z:=x6 (Q:=Q) G hr hb .nil zY I1 rv (by rw[List.append_nil];exact hsp);rw[t.hσ]at z;exact z
end
end TM
namespace TM
open PySem L2 PyProof.Rows
section
variable{X:Cx}{C:Ct}{pins:List (Addr×Obj)}{s:Shared}{c0 c c1:Cf}
variable{a b d e o:Expr}{es:List Expr}{m ma mb md:M (Kd×U)}{ms:M (List (Kd×U))}{ta tb:M Bool}{pos p p2 apos cpos:Pos}
noncomputable def Mf.id:Mf->String
 |.split=>"str.split"|.join=>"str.join"|.partition=>"str.partition"|.endswith=>"str.endswith"
noncomputable def Mf.name:Mf->Str
 |.split=>"split"|.join=>"join"|.partition=>"partition"|.endswith=>"endswith"
theorem tZ{f:Mf}{u:U}{rs:List (Kd×U)}{r:Kd×U}(h:iC f u rs=some r):∃x,u=.str x:=by
 unfold iC at h;split at h
 ·exact⟨_,rfl⟩
 ·exact⟨_,rfl⟩
 ·cases h
theorem yQ(hK:C.K=X.K){f:Mf}{x:Kd×U}{rs:List (Kd×U)}{r:Kd×U}{vx:V}{v:Value}{vs:List V}{us:List Value}{Q:VK}(t:Ats C c0 c (x::rs) (vx::vs))(I:Inv X pins c.σ c.H s)(rx:RelV vx v)(rv:Vals vs us)(h:iC f x.2 rs=some r)(q:bX C c0 Q r c.st):
  wpAny (model X.prog X.w) X.A (call (.builtin f.id) (v::us)) (EP X pins c.σ Q) X.xe s:=by
 have hσ:=t.hσ;have ok:=t.ok;have n:=t.nx;obtain⟨kx,ux⟩:=x;have hs:=gI.mp t.stb;obtain⟨v0,vs0,e0,h1,h2,-⟩:=t.rep;cases e0;have tx:aA C c0 c kx ux vx:=h1.t hs.1;have one:∀{r:Kd×U},cV C c0 c [r] vs->ba [r] c.st->∃v,vs=[v]/\aA C c0 c r.1 r.2 v:=fun {r} h s=>by
  obtain⟨v,t',rfl,h1,h2,_⟩:=h;cases h2;exact⟨v,rfl,h1.t s⟩
 dsimp only at h
 unfold iC at h;split at h
 ·obtain⟨w,rfl,ty⟩:=one h2 hs.2;split at h
  ·rename_i hh;cases h;exact s_ pins s c.σ c.H vx [w] v us Q I rx rv ⟨_,_,tx.str ok,by rw[ty.str ok],hh.1,hh.2,fun p hp=>q.list hσ ok n (ai.strs.mpr rfl) p hp⟩
  ·cases h
 ·rw[Option.bind_eq_some_iff]at h;obtain⟨ss,e,h⟩:=h;have e':=bK e;subst e';obtain⟨w,rfl,ty⟩:=one h2 hs.2;obtain⟨a',ws,ex,h3,h4⟩:=ty.list ok;rw[ai.strs]at h4;subst h4;split at h
  ·cases h;exact vE pins s c.σ c.H vx [w] v us Q I rx rv ⟨_,a',ss,tx.str ok,by rw[ex],hK▸h3,by assumption,q.flat hσ ok n rfl⟩
  ·cases h
 ·cases h
theorem wd(hK:C.K=X.K){f:Mf}{name:Str}(slot:Slot "str" name f.id)(hty:typeOf (.builtin f.id)=pure (.type "method_descriptor"))(ho:PE X o (tEv C m))(ha:PA X (e::es) (tEs C ms))
  (hbase:attributeBase o name X.env (eval o X.env)=eval o X.env)
  (hfew:((backTo cpos (starEach (e::es) X.env)).all (fun x=>!x.1)&&(backToKw cpos (keywordEach [] X.env)).all (fun x=>x.1.isSome)
   && decide ((e::es).length+([]:List Keyword).length+(if ([]:List Keyword).isEmpty then 0 else 1)<30))=true)
  (hline:(apos.endLine==cpos.line)=true) (hs:starEach (e::es) X.env=(false,eval e X.env)::starEach es X.env) (hplain:(backTo cpos (starEach es X.env)).any (·.1)=false) :
  PE X (.Call (.Attribute o name apos) (e::es) [] cpos) (tEv C (m >>= fun x=>ms >>= fun rs=>au (x::rs) >>= fun _=>M.ofO (iC f x.2 rs))):=by
 rintro pins s σ H Q I ⟨c0,rfl,rfl,ok,h⟩;refine wpAny_Call_method_late hbase hfew hline rfl (thn (ho pins s c0.σ c0.H (fun vx H1=>∃x c1,c1.H=H1/\At1 C c0 c1 x vx/\W (ms >>= fun rs=>au (x::rs) >>= fun _=>M.ofO (iC f x.2 rs)) c1.st (bX C c0 Q)) I (aB ok h fun x c v t w=>⟨x,c,rfl,t,w⟩)) ?_);rintro v s1 ⟨vx,H1,I1,rx,x,c1,rfl,t,w⟩;have hstr:∃z,x.2=.str z:=by
  rw[ab]at w;obtain⟨rs,st2,_,w⟩:=w;rw[ab]at w;obtain⟨_,st3,_,w⟩:=w;obtain⟨r,e,_⟩:=bT.mp w;exact tZ e
 obtain⟨z,hz⟩:=hstr;have tx:=t.rx;rw[hz]at tx;have ev:=tx.str t.ok;have ty:tyV X.K "str" vx c1.H:=by rw[ev];rfl
 obtain⟨h1,h2⟩:=lz I1 rx ty;refine⟨"str",f.id,PySem.F.plainAttrs_str,slot,hty,h1,h2,?_⟩;rw[ab]at w;have hA:=ha cpos pins s1 c0.σ c1.H (fun vs H2=>∃rs c2,c2.H=H2/\Ats C c0 c2 (x::rs) (vx::vs)/\W (M.ofO (iC f x.2 rs)) c2.st (bX C c0 Q)) I1 ⟨c1,t.hσ,rfl,t.ok,w.mono fun rs st2 h3 c2 vs e3 e4 ok2 n2 r2=>by
  rw[ab,bU]at h3;subst e4;exact⟨rs,c2,rfl,⟨e3,ok2,t.nx.trans n2,⟨vx,vs,rfl,t.rx.w.on t.ok n2 (e3.trans t.hσ.symm),r2.from t.nx,fun hk i r' v' e5 e6 hk'=>lP t.rx.w (r2.get e5 e6) hk hk'⟩,h3.1⟩,h3.2⟩⟩
 rw[hs]at hA ⊢;refine Calls.callWith_builtin (by show(false||(backTo cpos (starEach es X.env)).any (·.1))=false;rw[hplain]<;>rfl) (Calls.evalArgs_plain ?_);refine thn hA ?_;rintro us s2 ⟨vs,H2,I2,r2,rs,c2,rfl,t2,w2⟩;obtain⟨r,e,q⟩:=bT.mp w2;have z:=yQ hK t2 (by rw[t2.hσ];exact I2) rx r2 e q;rw[t2.hσ]at z;exact z
end
end TM
namespace TM
open PySem L2 PyProof.Rows
section
variable{X:Cx}{C:Ct}{pins:List (Addr×Obj)}{s:Shared}{c0 c c1:Cf}
variable{e:Expr}{es:List Expr}{ms:M (List (Kd×U))}{pos p p2 pos2:Pos}
noncomputable def B2.out:B2->Value
 |.revT=>.type "tuple"|.revL=>.type "list"|.sset=>.builtin "sorted"|.j3=>.builtin "len"
noncomputable def B2.inn:B2->Value
 |.revT=>.type "reversed"|.revL=>.type "reversed"|.sset=>.type "set"|.j3=>.type "set"
noncomputable def B2.lT:B2->Str
 |.revT=>"tuple"|.revL=>"list"|.sset=>"sorted"|.j3=>"len"
noncomputable def B2.gk:B2->Str
 |.revT=>"reversed"|.revL=>"reversed"|.sset=>"set"|.j3=>"set"
theorem ai.rev{S:Addr->Prop}{H:Hp}:∀{us:List U}{vs:List V},ai C S H us vs->ai C S H us.reverse vs.reverse
 |[],vs,h=>by cases h;exact rfl
 |u::us,vs,h=>by
  obtain⟨v,r,rfl,h1,h2⟩:=h;rw[List.reverse_cons,List.reverse_cons];exact(ai.rev h2).append ⟨v,[],rfl,h1,rfl⟩
theorem kJ{u:U}{ss:List Str}{k:Kd}{v:V}(hK:C.K=X.K)(ok:Ok C c)(tx:aA C c0 c k u v)(h:rF u=some ss):∃a ys,v=.ref a/\(SqL X.K c.H a (ys.map V.str)\/SqT X.K c.H a (ys.map V.str))/\ys.length+1<scanBound/\ss=bp ys:=by
 unfold rF at h;split at h
 ·rw[Option.bind_eq_some_iff]at h;obtain⟨ys,e,h⟩:=h;have e':=bK e;subst e';obtain⟨a',ws,ex,h1,h2⟩:=tx.list ok;rw[ai.strs]at h2;subst h2;split at h
  ·cases h;exact⟨a',ys,ex,.inl (hK▸h1),by assumption,rfl⟩
  ·cases h
 ·rw[Option.bind_eq_some_iff]at h;obtain⟨ys,e,h⟩:=h;have e':=bK e;subst e';obtain⟨a',ws,ex,h1,h2⟩:=tx.tuple ok;rw[ai.strs]at h2;subst h2;rw[hK]at h1;split at h
  ·cases h;exact⟨a',ys,ex,.inr h1,by assumption,rfl⟩
  ·cases h
 ·cases h
theorem yR{f:B2}{rs:List (Kd×U)}{r:Kd×U}{vs:List V}{us:List Value}{Q:VK}(hc:X.calm=true)(hK:C.K=X.K)(t:Ats C c0 c rs vs)(I:Inv X pins c.σ c.H s)(rv:Vals vs us)(h:tK f rs=some r)(q:bX C c0 Q r c.st):
  wpAny (model X.prog X.w) X.A (call f.inn us) (fun v s1=>wpAny (model X.prog X.w) X.A (call f.out [v]) (EP X pins c.σ Q) X.xe s1) X.xe s:=by
 have hσ:=t.hσ;have ok:=t.ok;have n:=t.nx;cases f with
 |sset =>
  obtain⟨x,rfl,hz⟩:=bN (f:=fun x=>(rF x.2).bind fun ss=>if ss.length<64 then some (Kd.own,U.lst ((aH ss).map .str)) else none) h;clear h;have h:=hz;clear hz;obtain⟨ss,e,h⟩:=Option.bind_eq_some_iff.mp h;obtain⟨v,rfl,tx⟩:=t.one;obtain⟨a',ys,rfl,h1,h2,rfl⟩:=kJ hK ok tx e;obtain⟨u,rfl,rr⟩:=vals1 rv;cases rr;split at h
  ·cases h;exact fV hc I h1 h2 fun S h' tk hS I1=>j9 hc I1 hS (by assumption) fun l hl=>q.list hσ ok n (ai.strs.mpr rfl) l hl
  ·cases h
 |j3 =>
  obtain⟨x,rfl,hz⟩:=bN (f:=fun x:Kd×U=>(rF x.2).map fun ss:List Str=>(Kd.loc,U.int (ss.length:Int))) h;clear h;have h:=hz;clear hz;obtain⟨ss,e,rfl⟩:=Option.map_eq_some_iff.mp h;obtain⟨v,rfl,tx⟩:=t.one;obtain⟨a',ys,rfl,h1,h2,rfl⟩:=kJ hK ok tx e;obtain⟨u,rfl,rr⟩:=vals1 rv;cases rr;exact fV hc I h1 h2 fun S h' tk hS I1=>oG I1 hS (q.flat hσ ok n rfl)
 |_=>cases h
theorem qr:∀f:B2,bootBuiltins f.lT=some f.out/\bootBuiltins f.gk=some f.inn/\f.lT≠"__name__"/\f.gk≠"__name__"/\(f.lT==("__debug__":Str))=false/\(f.gk==("__debug__":Str))=false:=by
 intro f;cases f<;>exact⟨by decide +kernel,by decide +kernel,by decide +kernel,by decide +kernel,by decide +kernel,by decide +kernel⟩
theorem yS(f:B2):∃T,f.inn=.type T:=by cases f<;>exact⟨_,rfl⟩
theorem yT(f:B2):(∃T,f.out=.type T)\/∃T,f.out=.builtin T:=by cases f<;>first|exact .inl ⟨_,rfl⟩|exact .inr ⟨_,rfl⟩
theorem we{M:Model}{A:Around}{E:Value->Shared->Prop}{s:Shared}{T:String}{t:Sem Value}{Q:Value->Shared->Prop}(h:wpAny M A t (fun v s₁=>wpAny M A (call (.type T) [v]) Q E s₁) E s):wpAny M A (callWith pos (.type T) [] [(false,t)] []) Q E s :=
 PySem.callWith_type rfl (Calls.evalArgs_plain (Calls.spliced_cons (wpAny_mono h (fun _ _ h₁=>Calls.spliced_nil h₁) fun _ _ e=>e)))
theorem t5{M:Model}{A:Around}{E:Value->Shared->Prop}{s:Shared}{T:String}{t:Sem Value}{Q:Value->Shared->Prop}(h:wpAny M A t (fun v s₁=>wpAny M A (call (.builtin T) [v]) Q E s₁) E s):wpAny M A (callWith pos (.builtin T) [] [(false,t)] []) Q E s :=
 Calls.callWith_builtin rfl (Calls.evalArgs_plain (Calls.spliced_cons (wpAny_mono h (fun _ _ h₁=>Calls.spliced_nil h₁) fun _ _ e=>e)))
theorem t6{f:B2}{Q:VK}(hc:X.calm=true)(hK:C.K=X.K)(hg2:Gl X f.gk)(hm2:X.mg f.gk=none)
  (ha:PA X (e::es) (tEs C ms)) (he:starEach (e::es) X.env=(false,eval e X.env)::starEach es X.env) (hpl:(backTo pos2 (starEach es X.env)).any (·.1)=false)
  (I:Inv X pins c0.σ c0.H s) (ok:Ok C c0) (h:W (ms >>= fun rs=>au rs >>= fun _=>M.ofO (tK f rs)) c0.st (bX C c0 Q)) :
  wpAny (model X.prog X.w) X.A (eval (.Call (.Name f.gk p2) (e::es) [] pos2) X.env) (fun v s1=>wpAny (model X.prog X.w) X.A (call f.out [v]) (EP X pins c0.σ Q) X.xe s1) X.xe s:=by
 obtain⟨b1,b2,b3,b4,b5,b6⟩:=qr f;refine wpAny_Call_Name_kw (dz I hg2 hm2 b2 ?_ b4 b6);have fin:wpAny (model X.prog X.w) X.A (spliced (backTo pos2 (starEach (e::es) X.env))) (fun us s1=>wpAny (model X.prog X.w) X.A (call f.inn us) (fun v s1=>wpAny (model X.prog X.w) X.A (call f.out [v]) (EP X pins c0.σ Q) X.xe s1) X.xe s1) X.xe s :=
  thn (args ha I ok h pos2) fun us s1 hIx=>by
   obtain⟨rs,c,vs,t,I1,rv,w⟩:=hIx;obtain⟨r,e,q⟩:=bT.mp w;have z:=yR hc hK t I1 rv e q;rw[t.hσ]at z;exact z
 obtain⟨T,hT⟩:=yS f;rw[hT]at fin ⊢;exact PyProof.Rows.callWith_type1 fin he hpl
theorem wg{f:B2}(hc:X.calm=true)(hK:C.K=X.K)(hg1:Gl X f.lT)(hm1:X.mg f.lT=none)(hg2:Gl X f.gk)(hm2:X.mg f.gk=none)
  (ha:PA X (e::es) (tEs C ms)) (he:starEach (e::es) X.env=(false,eval e X.env)::starEach es X.env) (hpl:(backTo pos2 (starEach es X.env)).any (·.1)=false) :
  PE X (.Call (.Name f.lT p) [.Call (.Name f.gk p2) (e::es) [] pos2] [] pos) (tEv C (ms >>= fun rs=>au rs >>= fun _=>M.ofO (tK f rs))):=by
 rintro pins s σ H Q I ⟨c0,rfl,rfl,ok,h⟩;obtain⟨b1,b2,b3,b4,b5,b6⟩:=qr f;refine wpAny_Call_Name_kw (dz I hg1 hm1 b1 ?_ b3 b5);have inner:=t6 (p2:=p2) (pos2:=pos2) hc hK hg2 hm2 ha he hpl I ok h;have eb:backTo pos (starEach [.Call (.Name f.gk p2) (e::es) [] pos2] X.env)=[(false,eval (.Call (.Name f.gk p2) (e::es) [] pos2) X.env)]:=rfl;have ek:backToKw pos (keywordEach [] X.env)=[]:=rfl;rw[eb,ek];rcases yT f with⟨T,hT⟩|⟨T,hT⟩
 ·rw[hT]at inner ⊢;exact we inner
 ·rw[hT]at inner ⊢;exact t5 inner
end
end TM
namespace TM
open PySem L2 PyProof.Rows
section
variable{X:Cx}{C:Ct}{pins:List (Addr×Obj)}{s:Shared}{c0 c c1:Cf}
variable{a b d e o tg:Expr}{es:List Expr}{m ma mb md:M (Kd×U)}{ms:M (List (Kd×U))}{ta tb:M Bool}{pos p p2 apos cpos:Pos}
noncomputable def jC(rs:List (Kd×U))(c c':Cf):Prop:=∀j u,(Kd.bor j,u)∈rs->c'.σ[j]?=c.σ[j]?
noncomputable def Walk(C:Ct)(c:Cf)(rs:List (Kd×U))(xs:List (Kd×U))(J:It):Prop:=∀c',Ok C c'->Ns c c'->jC rs c c'->ba rs c'.st ->
 (∀(i:Nat) r,xs[i]?=some r->(r.1=.loc\/r.1=.any)/\J.go i c'.H/\∀x H',J.yld i c'.H x H'->∃c'':Cf,c''.H=H'/\c''.σ=c'.σ/\c''.st=c'.st/\Ok C c''/\Nx c' c''/\aA C c' c'' r.1 r.2 x) /\
 ∀i:Nat,xs.length<=i->J.stop i c'.H
noncomputable def tIt(C:Ct)(ik:Ik)(ms:M (List (Kd×U))):TI:=fun σ H R=>∃c0:Cf,c0.σ=σ/\c0.H=H/\Ok C c0/\W (ms >>= fun rs=>au rs >>= fun _=>M.ofO (itU ik rs) >>= fun xs=>pure (rs,xs)) c0.st fun q st' =>
 ∀c J,c.σ=σ->c.st=st'->Ok C c->Nx c0 c->ba q.1 c.st->Walk C c q.1 q.2 J->R J c.H
theorem aA.walk{r:Kd×U}{v:V}{c':Cf}(ok:Ok C c)(n:Ns c c')(hf:jC [r] c c')(hs:ba [r] c'.st)(h:aA C c0 c r.1 r.2 v):aA C c0 c' r.1 r.2 v :=
 (h.w.on' ok n fun j e=>hf j r.2 (by rw[<-e];simp)).t hs
theorem t7(k:Kd):kE k=.loc\/kE k=.any:=by cases k<;>simp[kE]
theorem rO{k:Kd}{us:List U}{a':Addr}(hK:C.K=X.K)(ok:Ok C c)(h:aA C c0 c k (.lst us) (.ref a')):Walk C c [(k,.lst us)] (us.map fun u=>(kE k,u)) (Itl X.K a'):=by
 intro c' ok' n hf hs;have h':=aA.walk (r:=(k,.lst us)) ok n hf hs h;obtain⟨a2,vs,e,h1,h2⟩:=h'.list ok';cases e;rw[hK]at h1;refine⟨fun i r hr=>?_,fun i hi=>⟨vs,h1,by rw[<-h2.len];simpa using hi⟩⟩;rw[List.getElem?_map,Option.map_eq_some_iff]at hr;obtain⟨u,hu,rfl⟩:=hr;obtain⟨v,hv,rep⟩:=h2.get hu;refine⟨t7 k,⟨vs,v,h1,hv⟩,fun x H' hy=>?_⟩;obtain⟨e,hy⟩:=hy;subst e;have:=hy vs h1;rw[hv]at this;cases this;exact⟨c',rfl,rfl,rfl,ok',Nx.refl c',aA.item rep⟩
theorem oP{k:Kd}{us:List U}{a':Addr}(hK:C.K=X.K)(ok:Ok C c)(h:aA C c0 c k (.tup us) (.ref a')):Walk C c [(k,.tup us)] (us.map fun u=>(kE k,u)) (Itt X.K a'):=by
 intro c' ok' n hf hs;have h':=aA.walk (r:=(k,.tup us)) ok n hf hs h;obtain⟨a2,vs,e,h1,h2⟩:=h'.tuple ok';cases e;rw[hK]at h1;refine⟨fun i r hr=>?_,fun i hi=>⟨vs,h1,by rw[<-h2.len];simpa using hi⟩⟩;rw[List.getElem?_map,Option.map_eq_some_iff]at hr;obtain⟨u,hu,rfl⟩:=hr;obtain⟨v,hv,rep⟩:=h2.get hu;refine⟨t7 k,⟨vs,v,h1,hv⟩,fun x H' hy=>?_⟩;obtain⟨e,hy⟩:=hy;subst e;have:=hy vs h1;rw[hv]at this;cases this;exact⟨c',rfl,rfl,rfl,ok',Nx.refl c',aA.item rep⟩
theorem oQ{rs:List (Kd×U)}{lo:Int}{n:Nat}:Walk C c rs ((List.range n).map fun i:Nat=>(Kd.loc,U.int (lo+(i:Int)))) (Itr lo n):=by
 intro c' ok' nx hf hs;refine⟨fun i r hr=>?_,fun i hi=>by show n<=i;simpa using hi⟩;rw[List.getElem?_map,Option.map_eq_some_iff]at hr;obtain⟨j,hu,rfl⟩:=hr;have hi:i<n:=by simpa using(List.getElem?_eq_some_iff.mp hu).1
 rw[List.getElem?_range hi]at hu;cases hu;refine⟨.inl rfl,hi,fun y H' hy=>?_⟩;obtain⟨e,rfl⟩:=hy;subst e;exact⟨c',rfl,rfl,rfl,ok',Nx.refl c',rfl⟩
theorem yU(hK:C.K=X.K)(ha:PE X a (tEv C ma)):PI X tg a (tIt C .seq (ma >>= fun r=>pure [] >>= fun rs=>pure (r::rs))):=by
 rintro pins s σ H R I ⟨c0,rfl,rfl,ok,h⟩;rw[ab,ab]at h;obtain⟨r,st1,e1,h⟩:=h;rw[ab,ah,ah,ab,bU,ab]at h;obtain⟨hst,h⟩:=h;obtain⟨xs,e2,h⟩:=bT.mp h;rw[ah]at h;obtain⟨k,u⟩:=r;cases u with
 |lst us =>
  cases e2;refine vc ha pins s c0.σ c0.H R I ⟨c0,rfl,rfl,ok,_,st1,e1,fun c v hσ hs okc n rep=>?_⟩;obtain⟨a',vs,rfl,h1,h2⟩:=rep.list okc;subst hs;exact⟨a',rfl,⟨vs,hK▸h1⟩,h c _ hσ rfl okc n hst (rO hK okc rep)⟩
 |tup us =>
  cases e2;refine xV ha pins s c0.σ c0.H R I ⟨c0,rfl,rfl,ok,_,st1,e1,fun c v hσ hs okc n rep=>?_⟩;obtain⟨a',vs,rfl,h1,h2⟩:=rep.tuple okc;subst hs;have h1':=h1;rw[hK]at h1';exact⟨a',rfl,⟨vs,h1'⟩,h c _ hσ rfl okc n hst (oP hK okc rep)⟩
 |_=>cases e2
theorem t8{ms:M (List (Kd×U))}{β:Type}{k:List (Kd×U)->M β}{Post:β->ag->Prop}{Z:List V->Hp->Prop}(ok:Ok C c0)(h:W (ms >>= fun rs=>au rs >>= fun _=>k rs) c0.st Post)
  (hz:∀rs c vs,Ats C c0 c rs vs->W (k rs) c.st Post->Z vs c.H):tEs C ms c0.σ c0.H Z:=by
 rw[ab]at h;refine⟨c0,rfl,rfl,ok,h.mono fun rs st1 h1 c1 vs e1 e2 ok1 n1 r1=>?_⟩;rw[ab,bU]at h1;subst e2;exact hz rs c1 vs ⟨e1,ok1,n1,r1,h1.1⟩ h1.2
theorem wj(hg:Gl X "range")(hm:X.mg "range"=none)(hs:starEach [a] X.env=[(false,eval a X.env)])(ha:PA X [a] (tEs C ms)):PI X tg (.Call (.Name "range" p) [a] [] pos) (tIt C .rng1 ms):=by
 rintro pins s σ H R I ⟨c0,rfl,rfl,ok,h⟩;refine qW hg hm ha hs pins s c0.σ c0.H R I (t8 ok h fun rs c vs t w=>?_);rw[ab]at w;obtain⟨xs,e2,w⟩:=bT.mp w;rw[ah]at w;obtain⟨x,rfl,hz⟩:=bN (f:=rG) e2;clear e2;have e2:=hz;clear hz;obtain⟨v,rfl,tx⟩:=t.one;unfold rG at e2;split at e2
 ·split at e2
  ·rename_i hh;cases e2;exact⟨_,by rw[tx.int t.ok],by omega,by omega,w c _ t.hσ rfl t.ok t.nx t.stb oQ⟩
  ·cases e2
 ·cases e2
theorem nu{k:Kd}{us:List U}{u0:U}{a':Addr}{Sq:Hp->List V->Prop}(hsq:∀c',Ok C c'->Ns c c'->jC [(k,u0)] c c'->ba [(k,u0)] c'.st->∃vs,Sq c'.H vs/\ai C (SK C c' k) c'.H us vs):Walk C c [(k,u0)] (us.zipIdx.map fun p=>(kE k,.tup [.int p.2,p.1])) (Ite Sq):=by
 intro c' ok' n hf hs;obtain⟨vs,h1,h2⟩:=hsq c' ok' n hf hs;refine⟨fun i r hr=>?_,fun i hi=>⟨vs,h1,by rw[<-h2.len];simpa using hi⟩⟩;rw[List.getElem?_map,Option.map_eq_some_iff]at hr;obtain⟨p,hp,rfl⟩:=hr;rw[List.getElem?_zipIdx,Option.map_eq_some_iff]at hp;obtain⟨u,hu,rfl⟩:=hp;obtain⟨v,hv,rep⟩:=h2.get hu;refine⟨t7 k,⟨vs,v,h1,hv⟩,fun x H' hy=>?_⟩;obtain⟨p,hpn,rfl,hy⟩:=hy;have hy':=hy vs v h1 hv;subst hy';obtain⟨ok2,n2⟩:=ok'.lay (o:=.tup [.int i,v]) hpn;refine⟨{c' with H:=upd c'.H p (.tup [.int i,v])},rfl,rfl,rfl,ok2,n2,aA.item ?_⟩;have r2:ai C (SK C c' k) c'.H [.int ((0+i:Nat):Int),u] [.int (i:Int),v]:=by
  rw[Nat.zero_add];exact⟨_,_,rfl,rfl,_,_,rfl,rep,rfl⟩
 cases k<;>exact⟨p,_,rfl,SqT.of ar,by first|exact r2.mv (ok'.mvP n2)|exact r2.mv (ok'.mv n2)⟩
theorem yV{es:List Expr}{kx:Nat}{ps:Pos}(hK:C.K=X.K)(hg:Gl X "enumerate")(hm:X.mg "enumerate"=none)(hs:starEach [a] X.env=[(false,eval a X.env)])(ha:PA X [a] (tEs C ms)):PI X (.Tuple es kx ps) (.Call (.Name "enumerate" p) [a] [] pos) (tIt C .enm ms):=by
 rintro pins s σ H R I ⟨c0,rfl,rfl,ok,h⟩;refine vJ hg hm ha hs pins s c0.σ c0.H R I (t8 ok h fun rs c vs t w=>?_);rw[ab]at w;obtain⟨xs,e2,w⟩:=bT.mp w;rw[ah]at w;obtain⟨x,rfl,hz⟩:=bN (f:=yB) e2;clear e2;have e2:=hz;clear hz;obtain⟨v,rfl,tx⟩:=t.one;unfold yB at e2;split at e2
 ·cases e2;obtain⟨a',ws,e1,h1,h2⟩:=tx.list t.ok;subst e1;refine⟨a',rfl,.inl ⟨⟨ws,hK▸h1⟩,w c _ t.hσ rfl t.ok t.nx t.stb ?_⟩⟩;refine nu (a':=a') fun c' ok' n hf hs'=>?_;obtain⟨a2,vs,e,h1,h2⟩:=(aA.walk t.ok n hf hs' tx).list ok';cases e;exact⟨vs,hK▸h1,h2⟩
 ·cases e2;obtain⟨a',ws,e1,h1,h2⟩:=tx.tuple t.ok;subst e1;rw[hK]at h1;refine⟨a',rfl,.inr ⟨⟨ws,h1⟩,w c _ t.hσ rfl t.ok t.nx t.stb ?_⟩⟩;refine nu (a':=a') fun c' ok' n hf hs'=>?_;obtain⟨a2,vs,e,h1,h2⟩:=(aA.walk t.ok n hf hs' tx).tuple ok';cases e;rw[hK]at h1;exact⟨vs,h1,h2⟩
 ·cases e2
theorem Ok.put(ok:Ok C c)(n:Nx c0 c){k:Kd}{u:U}{v:V}{i:Nat}(hi:i<c.σ.length)(hk:k=.own\/k=.loc\/k=.any)(ok0:Ok C c0)(h:aA C c0 c k u v):
  Ok C {c with σ:=c.σ.set i (some v),st:=c.st.set i (some (k,u))}/\Nx c0 {c with σ:=c.σ.set i (some v),st:=c.st.set i (some (k,u))}:=by
 have hi':i<c.st.length:=by rw[ok.len];exact hi
 have oth:∀(j:Nat) k' u',(c.st.set i (some (k,u)))[j]?=some (some (k',u'))->j≠i->c.st[j]?=some (some (k',u')):=fun j k' u' e ne=>by rw[List.getElem?_set_ne (Ne.symm ne)]at e;exact e
 have othσ:∀(j:Nat) v',(c.σ.set i (some v))[j]?=some (some v')->j≠i->c.σ[j]?=some (some v'):=fun j v' e ne=>by rw[List.getElem?_set_ne (Ne.symm ne)]at e;exact e
 have sl:eE C c.S c.H k u v:=by
  rcases hk with rfl|rfl|rfl
  ·obtain⟨r,e,h1,h2,h3,h4⟩:=h;obtain⟨z0,z1,z2,z3,z4⟩:=ok0.j_ h1;exact⟨r,e,h2,z2,z0,h4⟩
  ·exact h
  ·exact h
 have newR:∀(j:Nat) k' u' r,k'.root=true->(c.st.set i (some (k,u)))[j]?=some (some (k',u'))->(c.σ.set i (some v))[j]?=some (some (.ref r))->j=i/\k=.own/\v=.ref r\/j≠i/\c.st[j]?=some (some (k',u'))/\c.σ[j]?=some (some (.ref r)):=fun j k' u' r hr e1 e2=>by
  by_cases hj:j=i
  ·subst hj;rw[List.getElem?_set_self hi']at e1;rw[List.getElem?_set_self hi]at e2;cases e1;cases e2;rcases hk with rfl|rfl|rfl
   ·exact .inl ⟨rfl,rfl,rfl⟩
   ·cases hr
   ·cases hr
  ·exact .inr ⟨hj,oth j k' u' e1 hj,othσ j _ e2 hj⟩
 have dD:∀(j:Nat) (u':U),(c.st.set i (some (k,u)))[j]?=some (some (.ownD,u'))->c.st[j]?=some (some (.ownD,u'))/\(c.σ.set i (some v))[j]?=c.σ[j]?:=fun j u' e=>by
  by_cases hj:j=i
  ·subst hj;rw[List.getElem?_set_self hi']at e;cases e;rcases hk with hk|hk|hk<;>cases hk
  ·exact⟨oth j .ownD u' e hj,List.getElem?_set_ne (Ne.symm hj)⟩
 have b1:∀a,({c with σ:=c.σ.set i (some v),st:=c.st.set i (some (k,u))}:Cf).R1 a->c.R1 a\/k=.own/\v=.ref a:=fun a hIx=>by
  obtain⟨j,k',u',hr,e1,e2⟩:=hIx;rcases newR j k' u' a hr e1 e2 with⟨a1,a2,a3⟩|⟨a1,a2,a3⟩
  ·exact .inr ⟨a2,a3⟩
  ·exact .inl ⟨j,k',u',hr,a2,a3⟩
 have hdd:DOk C {c with σ:=c.σ.set i (some v),st:=c.st.set i (some (k,u))}:=ok.dd.of rfl dD (fun a z=>(b1 a z).imp id fun⟨q1,q2⟩ j z'=>by
  subst q1;obtain⟨r',e,_,_,h3,_⟩:=h;rw[q2]at e;cases e;exact h3 (.inr ⟨j,z'⟩)) (.up fun _ z=>z) fun j a z=>⟨(ok.root (.inr ⟨j,z⟩)).1,fun o q=>q⟩
 refine⟨⟨ok.same,ok.sfr,ok.par,ok.io,by simp[ok.len],fun j k' u' e=>?_,fun j1 j2 k1 k2 u1 u2 r hr1 hr2 e1 e2 e3 e4=>?_,hdd⟩,⟨⟨n.keep,n.there,fun a z=>?_,n.sub,n.new⟩,n.all⟩⟩
 ·by_cases hj:j=i
  ·subst hj;rw[List.getElem?_set_self hi']at e;cases e;exact⟨v,by rw[List.getElem?_set_self hi],sl⟩
  ·obtain⟨v',e1,e2⟩:=ok.sl j k' u' (oth j k' u' e hj);exact⟨v',by rw[List.getElem?_set_ne (Ne.symm hj)];exact e1,e2⟩
 ·have z1:=newR j1 k1 u1 r hr1 e1 e3;have z2:=newR j2 k2 u2 r hr2 e2 e4;rcases z1 with⟨a1,a2,a3⟩|⟨a1,a2,a3⟩
  ·rcases z2 with⟨b1,b2,b3⟩|⟨b1,b2,b3⟩
   ·exact a1.trans b1.symm
   ·subst a2;obtain⟨r',e,h1,h2,h3,h4⟩:=h;rw[a3]at e;cases e;exact(h3 (.inl ⟨j2,k2,u2,hr2,b2,b3⟩)).elim
  ·rcases z2 with⟨b1,b2,b3⟩|⟨b1,b2,b3⟩
   ·subst b2;obtain⟨r',e,h1,h2,h3,h4⟩:=h;rw[b3]at e;cases e;exact(h3 (.inl ⟨j1,k1,u1,hr1,a2,a3⟩)).elim
   ·exact ok.inj j1 j2 k1 k2 u1 u2 r hr1 hr2 a2 b2 a3 b3
 ·rcases z with z|⟨j,u',r',e1,e2,e3⟩
  ·rcases b1 a z with z|⟨a2,a3⟩
   ·exact n.roots a (.inl z)
   ·subst a2;obtain⟨r',e,h1,h2,h3,h4⟩:=h;rw[a3]at e;cases e;exact .inr h1
  ·obtain⟨q1,q2⟩:=dD j u' e1;exact n.roots a (.inr ⟨j,u',r',q1,q2▸e2,e3⟩)
theorem qt{r:Kd×U}{v:V}{i:Nat}{Post:Unit->ag->Prop}(ok0:Ok C c0)(ok:Ok C c)(n:Nx c0 c)(hi:i<c.σ.length)(hr:aA C c0 c r.1 r.2 v)(h:W (d9 i r) c.st Post):
  ∃c',c'.σ=c.σ.set i (some v)/\c'.H=c.H/\Ok C c'/\Nx c0 c'/\Post () c'.st:=by
 obtain⟨k,u⟩:=r;cases k with
 |own =>
  obtain⟨x,st',e,hp⟩:=h;cases e;obtain⟨a1,a2⟩:=ok.put n hi (.inl rfl) ok0 hr;exact⟨{c with σ:=c.σ.set i (some v),st:=c.st.set i (some (.own,u))},rfl,rfl,a1,a2,hp⟩
 |loc =>
  obtain⟨x,st',e,hp⟩:=h;cases e;obtain⟨a1,a2⟩:=ok.put n hi (.inr (.inl rfl)) ok0 hr;exact⟨{c with σ:=c.σ.set i (some v),st:=c.st.set i (some (.loc,u))},rfl,rfl,a1,a2,hp⟩
 |any =>
  obtain⟨x,st',e,hp⟩:=h;cases e;obtain⟨a1,a2⟩:=ok.put n hi (.inr (.inr rfl)) ok0 hr;exact⟨{c with σ:=c.σ.set i (some v),st:=c.st.set i (some (.any,u))},rfl,rfl,a1,a2,hp⟩
 |io=>exact hr.elim
 |ownD=>exact hr.elim
 |bor j =>
  obtain⟨x,st',e,hp⟩:=h;rw[show d9 i (.bor j,u) c.st=match c.st[j]? with|some (some (.own,u))=>some (Ex.ok (),(c.st.set j (some (.loc,u))).set i (some (.loc,u)))|_=>none from rfl]at e;split at e
  ·rename_i w hj;cases e;obtain⟨v',e1,r,er,_⟩:=ok.sl j _ _ hj;have hv:c.σ[j]?=some (some v):=hr.2;rw[hv]at e1;cases e1;subst er;obtain⟨ok',n',rep⟩:=ok.tW n hj hv;obtain⟨a1,a2⟩:=Ok.put (c:={c with S:=fun a=>c.S a\/a=r,st:=c.st.set j (some (.loc,w))}) ok' n' (k:=.loc) (u:=w) (v:=.ref r) hi (.inr (.inl rfl)) ok0 rep;exact⟨{S:=fun a=>c.S a\/a=r,H:=c.H,σ:=c.σ.set i (some (.ref r)),st:=(c.st.set j (some (.loc,w))).set i (some (.loc,w)),kid:=c.kid},rfl,rfl,a1,a2,hp⟩
  ·cases e
end
end TM
namespace TM
open PySem L2 PyProof.Rows
section
variable{X:Cx}{C:Ct}{pins:List (Addr×Obj)}{s:Shared}{c0 c c1:Cf}
variable{a b d e o tg:Expr}{es:List Expr}{m ma mb md:M (Kd×U)}{ms:M (List (Kd×U))}{ta tb:M Bool}{pos p p2 apos cpos:Pos}
noncomputable def tG(C:Ct)(t:Bool)(is:List Nat):TG:=fun v σ H Q=>∃c0 c r,c.σ=σ/\c.H=H/\Ok C c0/\Ok C c/\Nx c0 c/\aA C c0 c r.1 r.2 v/\W (cC t is r) c.st fun _ st' =>
 ∀c',c'.st=st'->Ok C c'->Nx c0 c'->(∀j,j∉is->c'.σ[j]?=c.σ[j]?)->c'.σ.length=c.σ.length->Q c'.σ c'.H
structure oR(X:Cx)(e:Expr)(i:Nat):Prop where
 is:∃x pos,e=.Name x pos/\X.N[i]?=some x/\Loc X.env.scope x/\(X.fn x=true\/X.env.scope.names.lookup x=some .local)
theorem yW{i:Nat}(hN:X.N.Nodup)(h:oR X e i):PG X e (tG C false [i]):=by
 obtain⟨x,pos,rfl,h1,h2,h3⟩:=h.is;rintro pins s σ H v u Q I rv ⟨c0,c,r,rfl,rfl,ok0,ok,n,rep,w⟩;have hi:i<c.σ.length:=by rw[I.len];exact(List.getElem?_eq_some_iff.mp h1).1
 obtain⟨c',e1,e2,ok',n',q⟩:=qt (r:=r) ok0 ok n hi rep w;refine pS hN h1 h2 h3 pins s c.σ c.H v u Q I rv ?_;have z:=q c' rfl ok' n' (fun j hj=>by rw[e1,List.getElem?_set_ne (by intro z;exact hj (by simp[z]))]) (by rw[e1];simp);rw[e1,e2]at z;exact z
noncomputable def gNs:List Nat->TGs
 |[]=>zH
 |i::is=>xf (pR i) (gNs is)
inductive dI(X:Cx):List Expr->List Nat->Prop where
 |nil:dI X [] []
 |cons {e:Expr} {es:List Expr} {i:Nat} {is:List Nat} (h:oR X e i) (t:dI X es is):dI X (e::es) (i::is)
theorem rP(hN:X.N.Nodup){is:List Nat}(h:dI X es is):PGs X es (gNs is):=by
 induction h with
 |nil=>exact u9
 |cons h t ih =>
  obtain⟨x,pos,rfl,h1,h2,h3⟩:=h.is;exact sA (pS hN h1 h2 h3) ih rfl
theorem oS{is:List Nat}(h:dI X es is):(assignEach es X.env).length=is.length/\(assignEach es X.env).findIdx? (·.1)=none:=by
 induction h with
 |nil=>exact⟨rfl,rfl⟩
 |cons h t ih =>
  obtain⟨x,pos,rfl,h1,h2,h3⟩:=h.is;refine⟨?_,?_⟩
  ·show(_::_).length=_;simp[ih.1]
  ·show List.findIdx? _ (_::_)=none;rw[List.findIdx?_cons,if_neg (by simp),ih.2];rfl
theorem qu{k:Kd}(hk:kE k=k)(ok0:Ok C c0):∀{is:List Nat}{us:List U}{vs:List V}{c:Cf}{Post:Unit->ag->Prop}{Q:L2.St->Hp->Prop},Ok C c->Nx c0 c->(∀i∈is,i<c.σ.length)->ai C (SK C c k) c.H us vs->W (sets is (us.map fun u=>(k,u))) c.st Post ->
  (∀c',Post () c'.st->Ok C c'->Nx c0 c'->(∀j,j∉is->c'.σ[j]?=c.σ[j]?)->c'.σ.length=c.σ.length->Q c'.σ c'.H)->gNs is vs c.σ c.H Q
 |[],[],vs,c,Post,Q,ok,n,hi,rep,w,q=>by
  rw[show sets [] (List.map (fun u=>(k,u)) [])=pure () from rfl,ah]at w;exact⟨rep,q c w ok n (fun _ _=>rfl) rfl⟩
 |[],u::us,vs,c,Post,Q,ok,n,hi,rep,w,q=>(av.mp w).elim
 |i::is,[],vs,c,Post,Q,ok,n,hi,rep,w,q=>(av.mp w).elim
 |i::is,u::us,vs,c,Post,Q,ok,n,hi,rep,w,q=>by
  rw[show sets (i::is) (List.map (fun u=>(k,u)) (u::us))=d9 i (k,u) >>= fun _=>sets is (us.map fun u=>(k,u)) from rfl,ab]at w;obtain⟨v,r,rfl,h1,h2⟩:=rep;have hk':k=.own\/k=.loc\/k=.any:=by cases k<;>simp[kE]at hk<;>simp
  have hni:k≠.own:=by cases k<;>simp[kE]at hk<;>simp
  have rt:aA C c0 c k u v:=by rw[<-hk];exact aA.item h1
  obtain⟨a1,a2⟩:=ok.put n (hi i (by simp)) hk' ok0 rt;have es:d9 i (k,u)=fun st=>some (.ok (),st.set i (some (k,u))):=by cases k<;>simp[kE]at hk<;>rfl
  obtain⟨_,st',e,w'⟩:=w;rw[es]at e;cases e;refine⟨v,r,rfl,qu (c:={c with σ:=c.σ.set i (some v),st:=c.st.set i (some (k,u))}) hk ok0 a1 a2 (fun j hj=>by simpa using hi j (by simp[hj])) (by cases k<;>exact h2) w' fun c' p ok' n' hf hl=>?_⟩;refine q c' p ok' n' (fun j hj=>?_) (by rw[hl];simp);rw[hf j (fun z=>hj (by simp[z])),List.getElem?_set_ne (fun z=>hj (by simp[z]))]
theorem Ai{is:List Nat}{kk:Nat}(hc:X.calm=true)(hK:C.K=X.K)(hN:X.N.Nodup)(h:dI X es is)(hl:∀i∈is,i<X.N.length):PG X (.Tuple es kk pos) (tG C true is):=by
 rintro pins s σ H v u Q I rv ⟨c0,c,r,rfl,rfl,ok0,ok,n,rep,w⟩;obtain⟨e1,e2⟩:=oS h;refine xQ hc (rP hN h) e1 e2 pins s c.σ c.H v u Q I rv ?_;obtain⟨k,ux⟩:=r;cases ux with
 |tup us =>
  rw[show cC true is (k,.tup us)=sets is (us.map fun u=>(kE k,u)) from by cases is<;>rfl]at w;obtain⟨a',vs,rfl,h1,h2⟩:=rep.tuple ok;rw[hK]at h1;have hlen:us.length=is.length:=by
   have aux:∀(is:List Nat) (l:List (Kd×U)) (st:ag) (P:Unit->ag->Prop),W (sets is l) st P->l.length=is.length:=by
    intro is;induction is with
    |nil=>intro l st P w;cases l with
     |nil=>rfl
     |cons _ _=>exact(av.mp w).elim
    |cons i is ih=>intro l st P w;cases l with
     |nil=>exact(av.mp w).elim
     |cons x l =>
      rw[show sets (i::is) (x::l)=d9 i x >>= fun _=>sets is l from rfl,ab]at w;obtain⟨_,_,_,w⟩:=w;rw[List.length_cons,List.length_cons,ih l _ _ w]
   simpa using aux _ _ _ _ w
  refine⟨a',vs,rfl,h1,by rw[<-h2.len,hlen],?_⟩;refine qu (k:=kE k) (by cases k<;>rfl) ok0 ok n (fun i hi=>by rw[I.len];exact hl i hi) (by cases k<;>exact h2) w fun c' p ok' n' hf hl'=>p c' rfl ok' n' hf hl'
 |_=>cases is<;>exact(av.mp w).elim
end
end TM
namespace TM
open PySem L2 PyProof.Rows
section
variable{X:Cx}{C:Ct}{pins:List (Addr×Obj)}{s:Shared}{c0 c c1:Cf}
variable{a b d e o tg iter elt:Expr}{es ifs:List Expr}{m ma mb md me:M (Kd×U)}{ms:M (List (Kd×U))}{ta tb tc:M Bool}{pos p p2 apos cpos:Pos}
theorem rQ{α:Type}{k:Nat}{m:M α}{st:ag}{Q:α->ag->Prop}:W (inScope k m) st Q↔W m (List.replicate k none++st) fun a st'=>Q a (st'.drop k):=by
 constructor
 ·rintro⟨a,st',e,h⟩;unfold inScope at e;cases q:m (List.replicate k none++st) with
  |none=>rw[q]at e;cases e
  |some r=>obtain⟨r1,r2⟩:=r;rw[q]at e;cases e;exact⟨a,r2,q,h⟩
 ·rintro⟨a,st',e,h⟩;exact⟨a,st'.drop k,by unfold inScope;rw[e],h⟩
noncomputable def Cf.ext(k:Nat)(c:Cf):Cf:={c with σ:=List.replicate k none++c.σ,st:=List.replicate k none++c.st,kid:=fun j=>c.kid (j - k)}
noncomputable def Cf.cut(k:Nat)(c:Cf):Cf:={c with σ:=c.σ.drop k,st:=c.st.drop k,kid:=fun j=>c.kid (k+j)}
theorem eW{α:Type}{k j:Nat}{l:List (Option α)}{x:α}(h:(List.replicate k none++l)[j]?=some (some x)):∃i,j=k+i/\l[i]?=some (some x):=by
 by_cases hj:j<k
 ·rw[List.getElem?_append_left (by simpa using hj)]at h;rw[List.getElem?_replicate]at h;rw[if_pos hj]at h;cases h
 ·refine⟨j - k,by omega,?_⟩;rw[List.getElem?_append_right (by simp;omega)]at h;simpa using h
theorem dJ{α:Type}{k i:Nat}{l:List (Option α)}:(List.replicate k none++l)[k+i]?=l[i]?:=by
 rw[List.getElem?_append_right (by simp)];simp
theorem t9{k:Nat}{r:Addr}:(c.ext k).R1 r↔c.R1 r:=by
 constructor
 ·rintro⟨j,kd,u,h1,h2,h3⟩;obtain⟨i,rfl,e⟩:=eW h2;rw[Cf.ext,dJ]at h3;exact⟨i,kd,u,h1,e,h3⟩
 ·rintro⟨i,kd,u,h1,h2,h3⟩;exact⟨k+i,kd,u,h1,by rw[Cf.ext,dJ];exact h2,by rw[Cf.ext,dJ];exact h3⟩
theorem lU{k j:Nat}{a:Addr}(h:(c.ext k).RD j a):∃i,j=k+i/\c.RD i a:=by
 obtain⟨u,r,e1,e2,e3⟩:=h;obtain⟨i,rfl,e⟩:=eW e1;rw[Cf.ext,dJ]at e2;refine⟨i,rfl,u,r,e,e2,?_⟩;have:(c.ext k).kid (k+i)=c.kid i:=by show c.kid (k+i - k)=_;rw[Nat.add_sub_cancel_left]
 rw[this]at e3;exact e3
theorem Aj{k:Nat}{r:Addr}(h:(c.ext k).R r):c.R r:=by
 rcases h with h|⟨j,h⟩
 ·exact .inl (t9.mp h)
 ·obtain⟨i,_,h⟩:=lU h;exact .inr ⟨i,h⟩
theorem Ok.ext(k:Nat)(ok:Ok C c):Ok C (c.ext k)/\Nx c (c.ext k):=by
 refine⟨⟨ok.same,ok.sfr,ok.par,ok.io,by simp[Cf.ext,ok.len],fun j kd u e=>?_,fun i j k1 k2 u u' r h1 h2 e1 e2 e3 e4=>?_,⟨fun j u r e1 e2=>?_,fun i j a z1 z2=>?_,fun j a z1 z2=>?_⟩⟩,⟨⟨fun _ _ h _=>h,fun _ o h=>⟨o,h⟩,fun a h=>.inl (Aj h),fun _ h=>h,fun _ h=>.inl h⟩,fun _ _ h=>h⟩⟩
 ·obtain⟨i,rfl,e'⟩:=eW e;obtain⟨v,e1,e2⟩:=ok.sl i kd u e';exact⟨v,by rw[Cf.ext,dJ];exact e1,e2⟩
 ·obtain⟨i',rfl,e1'⟩:=eW e1;obtain⟨j',rfl,e2'⟩:=eW e2;rw[Cf.ext,dJ]at e3 e4;rw[ok.inj i' j' k1 k2 u u' r h1 h2 e1' e2' e3 e4]
 ·obtain⟨i,rfl,e⟩:=eW e1;rw[Cf.ext,dJ]at e2;have:(c.ext k).kid (k+i)=c.kid i:=by show c.kid (k+i - k)=_;rw[Nat.add_sub_cancel_left]
  rw[this];exact ok.dd.kd i u r e e2
 ·obtain⟨i',rfl,y1⟩:=lU z1;obtain⟨j',rfl,y2⟩:=lU z2;rw[ok.dd.dj i' j' a y1 y2]
 ·obtain⟨i,rfl,y1⟩:=lU z1;exact ok.dd.d1 i a y1 (t9.mp z2)
theorem t_{k:Nat}{a:Addr}(h:(c.cut k).R1 a):c.R1 a:=by
 obtain⟨j,kd,u,h1,h2,h3⟩:=h;rw[Cf.cut,List.getElem?_drop]at h2 h3;exact⟨k+j,kd,u,h1,h2,h3⟩
theorem lV{k j:Nat}{a:Addr}(h:(c.cut k).RD j a):c.RD (k+j) a:=by
 obtain⟨u,r,h1,h2,h3⟩:=h;rw[Cf.cut,List.getElem?_drop]at h1 h2;exact⟨u,r,h1,h2,h3⟩
theorem Ok.cut(k:Nat)(ok:Ok C c):Ok C (c.cut k)/\Nx c (c.cut k):=by
 refine⟨⟨ok.same,ok.sfr,ok.par,ok.io,by simp[Cf.cut,ok.len],fun j kd u e=>?_,fun i j k1 k2 u u' r h1 h2 e1 e2 e3 e4=>?_,⟨fun j u r e1 e2=>?_,fun i j a z1 z2=>?_,fun j a z1 z2=>ok.dd.d1 _ a (lV z1) (t_ z2)⟩⟩,⟨⟨fun _ _ h _=>h,fun _ o h=>⟨o,h⟩,fun a h=>.inl (h.elim (fun z=>.inl (t_ z)) fun⟨j,z⟩=>.inr ⟨k+j,lV z⟩),fun _ h=>h,fun _ h=>.inl h⟩,fun _ _ h=>h⟩⟩
 ·rw[Cf.cut,List.getElem?_drop]at e;obtain⟨v,e1,e2⟩:=ok.sl _ kd u e;exact⟨v,by rw[Cf.cut,List.getElem?_drop];exact e1,e2⟩
 ·rw[Cf.cut,List.getElem?_drop]at e1 e2 e3 e4;have:=ok.inj _ _ k1 k2 u u' r h1 h2 e1 e2 e3 e4;omega
 ·rw[Cf.cut,List.getElem?_drop]at e1 e2;exact ok.dd.kd _ u r e1 e2
 ·have:=ok.dd.dj _ _ a (lV z1) (lV z2);omega
theorem wm{k:Nat}{σ σ':L2.St}(h:∀j,j∉List.range k->σ'[j]?=(List.replicate k none++σ)[j]?)(hl:σ'.length=(List.replicate k (none:Option V)++σ).length):∃own:L2.St,own.length=k/\σ'=own++σ:=by
 refine⟨σ'.take k,by rw[List.length_take,hl];simp,?_⟩;apply List.ext_getElem?;intro j;by_cases hj:j<k
 ·rw[List.getElem?_append_left (by rw[List.length_take,hl];simp;omega),List.getElem?_take,if_pos hj]
 ·rw[h j (by simpa using hj),List.getElem?_append_right (by simp;omega),List.getElem?_append_right (by rw[List.length_take,hl];simp;omega)];congr 1
  rw[List.length_take,hl];simp
theorem kK{k:Nat}{t:Bool}{ik:Ik}{Q:VK}(ok:Ok C c0)
  (h:W (ms >>= fun rs=>au rs >>= fun _=>M.ofO (itU ik rs) >>= fun xs=>bg k t tc me rs xs [] >>= fun us=>pure (Kd.own,U.lst us)) c0.st (bX C c0 Q)) :
  sZ k (tIt C ik ms) (tG C t (List.range k)) (tTs C tc) (tEv C me) c0.σ c0.H Q:=by
 rw[ab]at h;refine⟨c0,rfl,rfl,ok,?_⟩;rw[ab];refine h.mono fun rs st1 h1=>?_;rw[ab,bU]at h1 ⊢;refine⟨h1.1,?_⟩;have h2:=h1.2;rw[ab]at h2 ⊢;refine h2.mono fun xs st2 h3=>?_;rw[ah];intro c1 J e1 e2 ok1 n1 hst hw;rw[ab]at h3;subst e2
 dsimp only at hst hw
 refine⟨fun i m ys H=>∃c acc,c.H=H/\c.σ=c0.σ/\Ok C c/\Nx c1 c/\m=xs.length - i/\i<=xs.length/\ai C c.S c.H acc ys/\acc.length<=sizeLine/\W (bg k t tc me rs (xs.drop i) acc) c.st fun us st'=>W (pure (Kd.own,U.lst us)) st' (bX C c0 Q),⟨xs.length,c1,[],rfl,e1,ok1,Nx.refl c1,by simp,Nat.zero_le _,rfl,Nat.zero_le _,by simpa using h3⟩,?_⟩;rintro i m ys H ⟨c,acc,rfl,e3,okc,nc,rfl,hi,rep,hlen,w⟩;refine⟨by rw[<-rep.len];exact hlen,?_⟩;have fixed:jC rs c1 c:=fun j u _=>by rw[e3,e1]
 by_cases hlt:i<xs.length
 ·right
  rw[List.drop_eq_getElem_cons hlt]at w;rw[show bg k t tc me rs (xs[i]::xs.drop (i+1)) acc=au rs >>= fun _=>inScope k (cC t (List.range k) xs[i] >>= fun _=>tc >>= fun b=>if b=true then(me >>= fun r=>lift r >>= fun u=>pure (some u)) else pure none) >>= fun r=>match r with|some u=>if acc.length<sizeLine then bg k t tc me rs (xs.drop (i+1)) (acc++[u]) else M.fail|none=>bg k t tc me rs (xs.drop (i+1)) acc from rfl,ab,bU]at w;obtain⟨hstab,w⟩:=w;obtain⟨wk,_⟩:=hw c okc nc fixed hstab;obtain⟨hla,hgo,hyl⟩:=wk i xs[i] (by simp[hlt]);refine⟨hgo,fun ys' H'=>∃c acc,c.H=H'/\c.σ=c0.σ/\Ok C c/\Nx c1 c/\ai C c.S c.H acc ys'/\acc.length<=sizeLine/\W (bg k t tc me rs (xs.drop (i+1)) acc) c.st fun us st'=>W (pure (Kd.own,U.lst us)) st' (bX C c0 Q),fun ys' H' ⟨c',acc',z1,z2,z3,z4,z5,z6,z7⟩=>⟨xs.length - (i+1),by omega,c',acc',z1,z2,z3,z4,rfl,hlt,z5,z6,z7⟩,fun x H' hy=>?_⟩;obtain⟨c2,rfl,e4,e5,ok2,n2,rt⟩:=hyl x H' hy;rw[ab,rQ,ab]at w;obtain⟨okx,nx⟩:=ok2.ext k;have rtx:aA C (c2.ext k) (c2.ext k) xs[i].1 xs[i].2 x:=by
   rcases hla with z|z
   ·rw[z]at rt ⊢;exact rt
   ·rw[z]at rt ⊢;exact rt
  have eσ:(c2.ext k).σ=List.replicate k none++c0.σ:=by rw[Cf.ext];show List.replicate k none++c2.σ=_;rw[e4,e3]
  refine⟨c2.ext k,c2.ext k,xs[i],eσ,rfl,okx,okx,Nx.refl _,rtx,?_⟩;have est:(c2.ext k).st=List.replicate k none++c.st:=by rw[Cf.ext];show List.replicate k none++c2.st=_;rw[e5]
  rw[est];refine w.mono fun _ st3 w3 c3 e6 ok3 n3 hfix hl3=>?_;subst e6;rw[eσ]at hfix hl3;obtain⟨own,ho1,ho2⟩:=wm hfix hl3;refine⟨own,ho1,ho2,?_⟩;have nc3:Nx c c3:=(n2.trans nx).trans n3;rw[ab]at w3;refine⟨c3,rfl,rfl,ok3,w3.mono fun b st4 w4 c4 e7 e8 ok4 n4=>?_⟩;subst e8;cases b with
  |false =>
   rw[if_neg Bool.false_ne_true]at w4 ⊢;rw[ah]at w4;obtain⟨okk,nk⟩:=ok4.cut k;have nn:Nx c (c4.cut k):=(nc3.trans n4).trans nk;refine⟨c4.cut k,acc,rfl,?_,okk,nc.trans nn,rep.mv (okc.mv nn),hlen,w4⟩;show c4.σ.drop k=_;rw[e7,ho2,List.drop_left' ho1]
  |true =>
   rw[if_pos rfl]at w4 ⊢;rw[ab]at w4;refine⟨c4,e7,rfl,ok4,w4.mono fun r st5 w5 c5 v e9 e10 ok5 n5 rt5=>?_⟩;subst e10;rw[ab]at w5;obtain⟨S',st',u,sS,ok6,n6,rep6,w6,_,_⟩:=gb ok4 ok5 n5 rt5.w w5;rw[ah]at w6
   dsimp only at w6
   split at w6
   ·rename_i hz;obtain⟨okk,nk⟩:=ok6.cut k;have nn:Nx c (Cf.cut k {c5 with S:=S',st:=st' }):=((nc3.trans n4).trans n6).trans nk;refine⟨Cf.cut k {c5 with S:=S',st:=st' },acc++[u],rfl,?_,okk,nc.trans nn,(rep.mv (okc.mv nn)).snoc rep6,by rw[List.length_append];exact hz,w6⟩;show c5.σ.drop k=_;rw[e9,ho2,List.drop_left' ho1]
   ·exact(av.mp w6).elim
 ·left
  have hi':i=xs.length:=by omega
  subst hi';rw[List.drop_length,show bg k t tc me rs [] acc=au rs >>= fun _=>pure acc from rfl,ab,bU,ah,ah]at w;obtain⟨_,wk⟩:=hw c okc nc fixed w.1;exact⟨wk _ (Nat.le_refl _),fun p hp=>bX.list w.2 e3 okc (n1.trans nc) rep p hp⟩
theorem ua{N own:List Str}{scope:Scope}{t:Bool}{ik:Ik}(S:de X N own scope)(hc:X.calm=true)(hi:PI X tg iter (tIt C ik ms))
  (hg:∀D s H ex,PG (cxC X N scope D s H ex) tg (tG C t (List.range own.length))) (hf:∀D s H ex,PIf (cxC X N scope D s H ex) ifs (tTs C tc)) (he:∀D s H ex,PE (cxC X N scope D s H ex) elt (tEv C me))
  (hs:∀x,foldedSetIterable iter X.env x=pure x) :
  PE X (.ListComp elt [⟨tg,iter,ifs,0⟩] scope pos) (tEv C (ms >>= fun rs=>au rs >>= fun _=>M.ofO (itU ik rs) >>= fun xs=>bg own.length t tc me rs xs [] >>= fun us=>pure (.own,.lst us))):=by
 refine PE.weak (vC S hc hi hg hf he hs) ?_;rintro σ H Q ⟨c0,rfl,rfl,ok,h⟩;exact kK ok h
end
end TM
namespace TM
open PySem L2 PyProof.Rows
section
variable{X:Cx}{C:Ct}{pins:List (Addr×Obj)}{s:Shared}{c0 c c1:Cf}
variable{a b d e o tg iter elt:Expr}{es ifs:List Expr}{m ma mb md me:M (Kd×U)}{ms:M (List (Kd×U))}{ta tb tc:M Bool}{pos p p2 apos cpos:Pos}{st:Stmt}{rest body:List Stmt}{f g mm:M Fl}{ns ns':Nat->Bool}
noncomputable def Ak(C:Ct)(c:Cf):Kd->U->V->Prop
 |.own,u,v=>∃r,v=.ref r/\C.H₀ r=none/\¬c.S r/\¬c.R r/\cT C c.S c.H r u
 |.loc,u,v=>Rep C c.S c.H u v
 |.any,u,v=>Rep C (PS C c.S) c.H u v
 |_,_,_=>False
noncomputable def Fin(C:Ct)(D:Ends)(f:Fl)(c:Cf):Prop:=match f with
 |.nx=>D.nx c.σ c.H
 |.bk=>D.bk c.σ c.H
 |.ct=>D.ct c.σ c.H
 |.rt k u=>∀v,Ak C c k u v->D.rt v c.H
noncomputable def Kept(ns:Nat->Bool)(c c':Cf):Prop:=(∀j,ns j=true->c'.σ[j]?=c.σ[j]?)/\c'.σ.length=c.σ.length
theorem Kept.refl:Kept ns c c:=⟨fun _ _=>rfl,rfl⟩
theorem Kept.trans{c' c'':Cf}(h:Kept ns c c')(h':Kept ns c' c''):Kept ns c c'':=⟨fun j z=>(h'.1 j z).trans (h.1 j z),h'.2.trans h.2⟩
theorem Kept.le{c':Cf}(i:∀j,ns' j=true->ns j=true)(h:Kept ns c c'):Kept ns' c c':=⟨fun j z=>h.1 j (i j z),h.2⟩
theorem Kept.of{c':Cf}(h:c'.σ=c.σ):Kept ns c c':=⟨fun j z=>by rw[h],by rw[h]⟩
noncomputable def jD(C:Ct)(c0:Cf)(ns:Nat->Bool)(D:Ends)(f:Fl)(st':ag):Prop:=∀c,c.st=st'->Ok C c->Ns c0 c->Kept ns c0 c->Fin C D f c
noncomputable def tEx(C:Ct)(ns:Nat->Bool)(m:M Fl):TS:=fun D σ H=>∃c0:Cf,c0.σ=σ/\c0.H=H/\Ok C c0/\W m c0.st (jD C c0 ns D)
theorem oU{D:Ends}(ok:Ok C c1)(n:Ns c0 c1)(k:Kept ns c0 c1)(h:W mm c1.st (jD C c0 ns D)):tEx C ns mm D c1.σ c1.H :=
 ⟨c1,rfl,rfl,ok,h.mono fun f st h2 c2 e ok2 n2 k2=>h2 c2 e ok2 (n.trans n2) (k.trans k2)⟩
theorem PS.weak{t t':TS}(h:L2.PS X st t)(i:∀D σ H,t' D σ H->t D σ H):L2.PS X st t':=fun pins s σ H D I q=>h pins s σ H D I (i D σ H q)
theorem PSs.weak{t t':TS}(h:PSs X rest t)(i:∀D σ H,t' D σ H->t D σ H):PSs X rest t':=fun pins s σ H D I q=>h pins s σ H D I (i D σ H q)
theorem lW{D:Ends}{σ:L2.St}{H:Hp}(i:∀j,ns' j=true->ns j=true)(h:tEx C ns' mm D σ H):tEx C ns mm D σ H :=
 let ⟨c0,e1,e2,ok,w⟩:=h;⟨c0,e1,e2,ok,w.mono fun f st h2 c2 e ok2 n2 k2=>h2 c2 e ok2 n2 (k2.le i)⟩
theorem Al:PSs X [] (tEx C ns (pure .nx)):=by
 refine PSs.weak u5 ?_;rintro D σ H ⟨c0,rfl,rfl,ok,h⟩;rw[ah]at h;exact h c0 rfl ok (Ns.refl c0) Kept.refl
noncomputable def wo(m:M Fl)(f:Fl):M Fl:=match f with
 |.nx=>m
 |f=>pure f
theorem yX(h1:L2.PS X st (tEx C ns f))(h2:PSs X rest (tEx C ns g)):PSs X (st::rest) (tEx C ns (f >>= wo g)):=by
 refine PSs.weak (sx h1 h2) ?_;rintro D σ H ⟨c0,rfl,rfl,ok,h⟩;rw[ab]at h;refine⟨c0,rfl,rfl,ok,h.mono fun fl st1 w c1 e ok1 n1 k1=>?_⟩;subst e;cases fl with
 |nx=>exact oU ok1 n1 k1 w
 |bk=>rw[show wo g .bk=pure .bk from rfl,ah]at w;exact w c1 rfl ok1 n1 k1
 |ct=>rw[show wo g .ct=pure .ct from rfl,ah]at w;exact w c1 rfl ok1 n1 k1
 |rt k u=>rw[show wo g (.rt k u)=pure (.rt k u) from rfl,ah]at w;exact w c1 rfl ok1 n1 k1
theorem Am:L2.PS X (.Break pos) (tEx C ns (pure .bk)):=by
 refine PS.weak sy ?_;rintro D σ H ⟨c0,rfl,rfl,ok,h⟩;rw[ah]at h;exact h c0 rfl ok (Ns.refl c0) Kept.refl
theorem An:L2.PS X (.Continue pos) (tEx C ns (pure .ct)):=by
 refine PS.weak mL ?_;rintro D σ H ⟨c0,rfl,rfl,ok,h⟩;rw[ah]at h;exact h c0 rfl ok (Ns.refl c0) Kept.refl
theorem Ao:L2.PS X (.Pass pos) (tEx C ns (pure .nx)):=by
 refine PS.weak u6 ?_;rintro D σ H ⟨c0,rfl,rfl,ok,h⟩;rw[ah]at h;exact h c0 rfl ok (Ns.refl c0) Kept.refl
theorem Ap(ha:PE X a (tEv C ma))(hs:swapsWith a none pos.line X.env=pure false):L2.PS X (.Expr a pos) (tEx C ns (ma >>= fun _=>pure .nx)):=by
 refine PS.weak (fJ ha hs) ?_;rintro D σ H ⟨c0,rfl,rfl,ok,h⟩;refine aB ok h fun x c v t w=>?_;rw[ah]at w;have:=w c rfl t.ok t.nx (Kept.of t.hσ);rw[<-t.hσ];exact this
theorem yY:L2.PS X (.Return none pos) (tEx C ns (pure (.rt .loc .non))):=by
 refine PS.weak u7 ?_;rintro D σ H ⟨c0,rfl,rfl,ok,h⟩;rw[ah]at h;exact h c0 rfl ok (Ns.refl c0) Kept.refl .non rfl
theorem Aq(ha:PE X a (tEv C ma)):L2.PS X (.Return (some a) pos) (tEx C ns (ma >>= retS)):=by
 refine PS.weak (xP ha) ?_;rintro D σ H ⟨c0,rfl,rfl,ok,h⟩;refine aB ok h fun x c v t w=>?_;obtain⟨k,u⟩:=x;obtain⟨hσ,okc,n,r⟩:=t;cases k with
 |own =>
  rw[show retS (.own,u)=pure (.rt .own u) from rfl,ah]at w;obtain⟨r0,e,h1,h2,h3,h4⟩:=r;exact w c rfl okc n (Kept.of hσ) v ⟨r0,e,(ok.j_ h1).1,h2,h3,h4⟩
 |loc =>
  rw[show retS (.loc,u)=pure (.rt .loc u) from rfl,ah]at w;exact w c rfl okc n (Kept.of hσ) v r
 |any =>
  rw[show retS (.any,u)=if imm u=true then pure (.rt .loc u) else pure (.rt .any u) from rfl]at w;split at w
  ·rw[ah]at w;exact w c rfl okc n (Kept.of hσ) v (Rep.imm (by assumption) r)
  ·rw[ah]at w;exact w c rfl okc n (Kept.of hσ) v r
 |io=>exact r.elim
 |ownD=>exact r.elim
 |bor j =>
  obtain⟨fl,st',e,w⟩:=w;rw[show retS (.bor j,u) c.st=match c.st[j]? with|some (some (.own,u))=>some (Ex.ok (Fl.rt .own u),c.st.set j none)|_=>none from rfl]at e;split at e
  ·rename_i u' hj;cases e;have hjl:j<c.st.length:=(List.getElem?_eq_some_iff.mp hj).1;have oth:∀(i:Nat) k u',(c.st.set j none)[i]?=some (some (k,u'))->i≠j/\c.st[i]?=some (some (k,u')):=fun i k u' e=>by
    by_cases hij:i=j
    ·subst hij;rw[List.getElem?_set_self hjl]at e;cases e
    ·rw[List.getElem?_set_ne (Ne.symm hij)]at e;exact⟨hij,e⟩
   obtain⟨v',e1,r0,er,q1,q2,q3,q4⟩:=okc.sl j _ _ hj;have hv:c.σ[j]?=some (some v):=r.2;rw[hv]at e1;cases e1;subst er;have hR1:∀a,({c with st:=c.st.set j none}:Cf).R1 a->c.R1 a:=fun a ⟨i,k,u2,hk,e1,e2⟩=>⟨i,k,u2,hk,(oth i k u2 e1).2,e2⟩
   have hR:∀a,({c with st:=c.st.set j none}:Cf).R a->c.R a:=fun a z=>z.elim (fun z=>.inl (hR1 a z)) fun⟨i,u2,r2,e1,e2,e3⟩=>.inr ⟨i,u2,r2,(oth i .ownD u2 e1).2,e2,e3⟩;have hdd:DOk C {c with st:=c.st.set j none}:=okc.dd.of rfl (fun i u2 e=>⟨(oth i .ownD u2 e).2,rfl⟩) (fun a z=>.inl (hR1 a z)) (.up fun _ z=>z) fun i a z=>⟨(okc.root (.inr ⟨i,z⟩)).1,fun o q=>q⟩
   have okn:Ok C {c with st:=c.st.set j none}:=⟨okc.same,okc.sfr,okc.par,okc.io,by simp[okc.len],fun i k u2 e=>okc.sl i k u2 (oth i k u2 e).2,fun i i' k k' u1 u2 r hk hk' e1 e2 e3 e4=>okc.inj i i' k k' u1 u2 r hk hk' (oth i k u1 e1).2 (oth i' k' u2 e2).2 e3 e4,hdd⟩
   have nn:Ns c0 {c with st:=c.st.set j none}:=⟨n.keep,n.there,fun a z=>n.roots a (hR a z),n.sub,n.new⟩
   refine w {c with st:=c.st.set j none} rfl okn nn (Kept.of hσ) (.ref r0) ⟨r0,rfl,q3,q1,fun z=>?_,q4⟩
   ·rcases z with⟨i,k,u2,hk,e1,e2⟩|⟨i,u2,r2,e1,e2,e3⟩
    ·obtain⟨ne,e1'⟩:=oth i k u2 e1;exact ne (okc.inj i j k .own u2 _ r0 hk rfl e1' hj e2 hv)
    ·exact okc.dd.d1 i r0 ⟨u2,r2,(oth i .ownD u2 e1).2,e2,e3⟩ ⟨j,.own,_,rfl,hj,hv⟩
  ·cases e
end
end TM
namespace TM
open PySem L2 PyProof.Rows
section
variable{X:Cx}{C:Ct}{pins:List (Addr×Obj)}{s:Shared}{c0 c c1:Cf}
variable{a b d e o tg iter elt:Expr}{es ifs:List Expr}{m ma mb md me:M (Kd×U)}{ms:M (List (Kd×U))}{ta tb tc:M Bool}{pos p p2 apos cpos:Pos}{st:Stmt}{rest body:List Stmt}{f g mm:M Fl}{ns ns':Nat->Bool}
theorem nv{i:Nat}{D:Ends}{r:Kd×U}{v:V}(hns:∀j,ns j=true->j≠i)(ok0:Ok C c0)(t:At1 C c0 c r v)(hi:i<c.σ.length)(w:W (d9 i r >>= fun _=>(pure .nx:M Fl)) c.st (jD C c0 ns D)):D.nx (c0.σ.set i (some v)) c.H:=by
 rw[ab]at w;obtain⟨c',e1,e2,ok',n',q⟩:=qt (r:=r) ok0 t.ok t.nx hi t.rx w;rw[ah]at q;have z:=q c' rfl ok' n' ⟨fun j hj=>by rw[e1,t.hσ,List.getElem?_set_ne (Ne.symm (hns j hj))],by rw[e1,t.hσ];simp⟩;have z':D.nx c'.σ c'.H:=z;rw[e1,e2,t.hσ]at z';exact z'
theorem xm{i:Nat}{x:Str}{pos':Pos}(hns:∀j,ns j=true->j≠i)(hN:X.N.Nodup)(hi:X.N[i]?=some x)(hx:Loc X.env.scope x)(hf:X.fn x=true\/X.env.scope.names.lookup x=some .local)(ha:PE X a (tEv C ma))
  (hs:swapsWith a (some (.Name x pos')) pos.line X.env=pure false):L2.PS X (.Assign [.Name x pos'] a pos) (tEx C ns (ma >>= fun r=>d9 i r >>= fun _=>pure .nx)):=by
 rintro pins s σ H D I ⟨c0,rfl,rfl,ok,h⟩;have hil:i<c0.σ.length:=by rw[I.len];exact(List.getElem?_eq_some_iff.mp hi).1
 exact sD hN hi hx ha hs hf pins s c0.σ c0.H D I (aB ok h fun r c v t w=>nv hns ok t (by rw[t.hσ];exact hil) w)
theorem yZ{N own:List Str}{scope:Scope}{t:Bool}{ik:Ik}{i:Nat}{y:Str}{py spos:Pos}(hns:∀j,ns j=true->j≠i)(S:de X N own scope)(hc:X.calm=true)(hN:X.N.Nodup)(hiN:X.N[i]?=some y)(hy:X.env.scope.names.lookup y=some .local)
  (hi:PI X tg iter (tIt C ik ms)) (hg:∀D s H ex,PG (cxC X N scope D s H ex) tg (tG C t (List.range own.length))) (hf:∀D s H ex,PIf (cxC X N scope D s H ex) ifs (tTs C tc)) (he:∀D s H ex,PE (cxC X N scope D s H ex) elt (tEv C me))
  (hsw:swapsWith (.ListComp elt [⟨tg,iter,ifs,0⟩] scope pos) (some (.Name y py)) spos.line X.env=pure true) (hs:∀x,foldedSetIterable iter X.env x=pure x) :
  L2.PS X (.Assign [.Name y py] (.ListComp elt [⟨tg,iter,ifs,0⟩] scope pos) spos)
   (tEx C ns ((ms >>= fun rs=>au rs >>= fun _=>M.ofO (itU ik rs) >>= fun xs=>bg own.length t tc me rs xs [] >>= fun us=>pure (.own,.lst us)) >>= fun r=>d9 i r >>= fun _=>pure .nx)):=by
 rintro pins s σ H D I ⟨c0,rfl,rfl,ok,h⟩;have hil:i<c0.σ.length:=by rw[I.len];exact(List.getElem?_eq_some_iff.mp hiN).1
 refine vD S hc hN hiN hy hi hg hf he hsw hs pins s c0.σ c0.H D I ?_;rw[ab]at h;refine kK ok (h.mono fun r st1 w c v e1 e2 okc n rt=>?_);subst e2;exact nv hns ok ⟨e1,okc,n,rt⟩ (by rw[e1];exact hil) w
theorem y0{is:List Nat}(hns:∀j,ns j=true->j∉is)(ha:PE X a (tEv C ma))(hg:PG X tg (tG C true is))(hs:swapsWithSole [tg] a pos.line X.env=pure false)(hw:swappedStores [tg] a X.env=pure none)(h1:(assignEach [tg] X.env).map (·.2)=[assign tg X.env]):
  L2.PS X (.Assign [tg] a pos) (tEx C ns (ma >>= fun r=>cC true is r >>= fun _=>pure .nx)):=by
 refine PS.weak (oe ha hg hs hw h1) ?_;rintro D σ H ⟨c0,rfl,rfl,ok,h⟩;refine aB ok h fun r c v t w=>?_;rw[ab]at w;refine⟨c0,c,r,t.hσ,rfl,ok,t.ok,t.nx,t.rx,w.mono fun _ st1 w1 c' e ok' n' hf hl=>?_⟩;subst e;rw[ah]at w1;exact w1 c' rfl ok' n' ⟨fun j hj=>by rw[hf j (hns j hj),t.hσ],by rw[hl,t.hσ]⟩
theorem Ar{ca cb:List Stmt}(hc:PT X a (tTs C ta))(h1:PSs X ca (tEx C ns f))(h2:PSs X cb (tEx C ns g)):L2.PS X (.If a ca cb pos) (tEx C ns (ta >>= fun p=>if p=true then f else g)):=by
 refine PS.weak (zG hc h1 h2) ?_;rintro D σ H ⟨c0,rfl,rfl,ok,h⟩;refine eJ ok h fun p c hσ okc n w=>?_;have e:c0.σ=c.σ:=hσ.symm;rw[e];cases p with
 |true=>rw[if_pos rfl]at w ⊢;exact oU okc n (Kept.of hσ) w
 |false=>rw[if_neg Bool.false_ne_true]at w ⊢;exact oU okc n (Kept.of hσ) w
theorem As(hp:PassesOwn (model X.prog X.w) X.A X.env X.xe)(hc:PT X a (tTs C ta))(hb:PSs X body (tEx C ns f)){n:Nat}:L2.PS X (.While a body [] pos) (tEx C ns (fD ta f n)):=by
 refine PS.weak (sE hp hc hb) ?_;rintro D σ H ⟨c0,rfl,rfl,ok,h⟩;refine⟨fun m σ' H'=>∃c,c.H=H'/\c.σ=σ'/\Ok C c/\Ns c0 c/\Kept ns c0 c/\W (fD ta f m) c.st (jD C c0 ns D),⟨n,c0,rfl,rfl,ok,Ns.refl c0,Kept.refl,h⟩,?_⟩;rintro m σ' H' ⟨c,rfl,rfl,okc,nc,kc,w⟩;cases m with
 |zero=>exact(av.mp w).elim
 |succ m =>
  rw[show fD ta f (m+1)=ta >>= fun b=>if b=true then(f >>= fun f'=>match f' with|.nx=>fD ta f m|.ct=>fD ta f m|.bk=>pure .nx|.rt k u=>pure (.rt k u)) else pure .nx from rfl]at w;refine eJ okc w fun p c2 hσ ok2 n2 w2=>?_;have k2:Kept ns c c2:=Kept.of hσ;rw[<-hσ];cases p with
  |false =>
   rw[if_neg Bool.false_ne_true]at w2 ⊢;rw[ah]at w2;exact w2 c2 rfl ok2 (nc.trans n2) (kc.trans k2)
  |true =>
   rw[if_pos rfl]at w2 ⊢;refine⟨fun σ'' H''=>∃c,c.H=H''/\c.σ=σ''/\Ok C c/\Ns c0 c/\Kept ns c0 c/\W (fD ta f m) c.st (jD C c0 ns D),fun σ'' H'' z=>⟨m,Nat.lt_succ_self m,z⟩,?_⟩;rw[ab]at w2;refine⟨c2,rfl,rfl,ok2,w2.mono fun fl st3 w3 c3 e ok3 n3 k3=>?_⟩;subst e;have n03:=(nc.trans n2).trans n3;have k03:=(kc.trans k2).trans k3;cases fl with
   |nx=>exact⟨c3,rfl,rfl,ok3,n03,k03,w3⟩
   |ct=>exact⟨c3,rfl,rfl,ok3,n03,k03,w3⟩
   |bk=>rw[ah]at w3;exact w3 c3 rfl ok3 n03 k03
   |rt k u=>rw[ah]at w3;exact w3 c3 rfl ok3 n03 k03
theorem Au{t:Bool}{is:List Nat}{ik:Ik}{sb:List S}(hp:PassesOwn (model X.prog X.w) X.A X.env X.xe)(hc:X.calm=true)(hi:PI X tg iter (tIt C ik ms))(hg:PG X tg (tG C t is))(hb:PSs X body (tEx C (nsL sb) f))(hs:∀x,foldedSetIterable iter X.env x=pure x)
  (hns:∀j,ns j=true->j∉is/\nsL sb j=true) :
  L2.PS X (.For tg iter body [] pos) (tEx C ns (ms >>= fun rs=>au rs >>= fun _=>M.ofO (itU ik rs) >>= fun xs=>if qi rs is sb=true then forM t is f rs xs else M.fail)):=by
 refine PS.weak (xW hp hc hi hg hb hs) ?_;rintro D σ H ⟨c0,rfl,rfl,ok,h⟩;rw[ab]at h;refine⟨c0,rfl,rfl,ok,?_⟩;rw[ab];refine h.mono fun rs st1 h1=>?_;rw[ab,bU]at h1 ⊢;refine⟨h1.1,?_⟩;have h2:=h1.2;rw[ab]at h2 ⊢;refine h2.mono fun xs st2 h3=>?_;rw[ah];intro c1 J e1 e2 ok1 n1 hst hw;subst e2
 dsimp only at hst hw
 split at h3
 ·rename_i hsrc;have srcK:∀j u,(Kd.bor j,u)∈rs->j∉is/\nsL sb j=true:=fun j u hm=>by
   have:=List.all_eq_true.mp hsrc _ hm;simpa using this
  refine⟨fun i m σ' H'=>∃c,c.H=H'/\c.σ=σ'/\Ok C c/\Ns c1 c/\Kept ns c0 c/\jC rs c1 c/\m=xs.length - i/\i<=xs.length/\W (forM t is f rs (xs.drop i)) c.st (jD C c0 ns D),
   ⟨xs.length,c1,rfl,e1,ok1,Ns.refl c1,Kept.of e1,fun _ _ _=>rfl,by simp,Nat.zero_le _,by simpa using h3⟩,?_⟩
  rintro i m σ' H' ⟨c,rfl,rfl,okc,nc,kc,fx,rfl,hi',w⟩;by_cases hlt:i<xs.length
  ·right
   rw[List.drop_eq_getElem_cons hlt,show forM t is f rs (xs[i]::xs.drop (i+1))=au rs >>= fun _=>cC t is xs[i] >>= fun _=>f >>= fun f'=>match f' with|.nx=>forM t is f rs (xs.drop (i+1))|.ct=>forM t is f rs (xs.drop (i+1))|.bk=>pure .nx|.rt k u=>pure (.rt k u) from rfl,ab,bU]at w;obtain⟨hstab,w⟩:=w;obtain⟨wk,_⟩:=hw c okc nc fx hstab;obtain⟨hla,hgo,hyl⟩:=wk i xs[i] (by simp[hlt]);refine⟨hgo,fun σ' H'=>∃c,c.H=H'/\c.σ=σ'/\Ok C c/\Ns c1 c/\Kept ns c0 c/\jC rs c1 c/\W (forM t is f rs (xs.drop (i+1))) c.st (jD C c0 ns D),fun σ' H' ⟨c',z1,z2,z3,z4,z5,z6,z7⟩=>⟨xs.length - (i+1),by omega,c',z1,z2,z3,z4,z5,z6,rfl,hlt,z7⟩,fun x H' hy=>?_⟩;obtain⟨c2,rfl,e4,e5,ok2,n2,rt⟩:=hyl x H' hy;rw[ab]at w;have rt':aA C c2 c2 xs[i].1 xs[i].2 x:=by
    rcases hla with z|z
    ·rw[z]at rt ⊢;exact rt
    ·rw[z]at rt ⊢;exact rt
   refine⟨c2,c2,xs[i],e4,rfl,ok2,ok2,Nx.refl c2,rt',?_⟩;rw[e5];refine w.mono fun _ st3 w3 c3 e6 ok3 n3 hf3 hl3=>?_;subst e6;rw[ab]at w3;refine⟨c3,rfl,rfl,ok3,w3.mono fun fl st4 w4 c4 e ok4 n4 k4=>?_⟩;subst e;have n14:Ns c1 c4:=((nc.trans n2.toNs).trans n3.toNs).trans n4;have k04:Kept ns c0 c4:=by
    refine kc.trans ⟨fun j hj=>?_,by rw[k4.2,hl3,e4]⟩;obtain⟨j1,j2⟩:=hns j hj;rw[k4.1 j j2,hf3 j j1,e4]
   have f14:jC rs c1 c4:=fun j u hm=>by
    obtain⟨j1,j2⟩:=srcK j u hm;rw[k4.1 j j2,hf3 j j1,e4];exact fx j u hm
   cases fl with
   |nx=>exact⟨c4,rfl,rfl,ok4,n14,k04,f14,w4⟩
   |ct=>exact⟨c4,rfl,rfl,ok4,n14,k04,f14,w4⟩
   |bk=>rw[ah]at w4;exact w4 c4 rfl ok4 (n1.toNs.trans n14) k04
   |rt k u=>rw[ah]at w4;exact w4 c4 rfl ok4 (n1.toNs.trans n14) k04
  ·left
   have hi2:i=xs.length:=by omega
   subst hi2;rw[List.drop_length,show forM t is f rs []=au rs >>= fun _=>pure .nx from rfl,ab,bU,ah]at w;obtain⟨_,wk⟩:=hw c okc nc fx w.1;exact⟨wk _ (Nat.le_refl _),w.2 c rfl okc (n1.toNs.trans nc) kc⟩
 ·exact(av.mp h3).elim
end
end TM
namespace TM
open PySem L2 PyProof.Rows
section
variable{X:Cx}{C:Ct}{pins:List (Addr×Obj)}{s:Shared}{c0 c c1:Cf}
variable{a b d e o tg iter elt:Expr}{es ifs:List Expr}{m ma mb md me:M (Kd×U)}{ms:M (List (Kd×U))}{ta tb tc:M Bool}{pos p p2 apos cpos:Pos}{st:Stmt}{rest body:List Stmt}{f g mm:M Fl}{ns ns':Nat->Bool}
theorem Ok.mod(ok:Ok C c)(n:Ns c0 c){i:Nat}{k:Kd}{u u':U}{r:Addr}{H':Hp}(hk:k.root=true)(hi:c.st[i]?=some (some (k,u)))(hv:c.σ[i]?=some (some (.ref r)))(hne:∀a,a≠r->H' a=c.H a)(hr:∃o,H' r=some o)
  (new:Mv c.S c.H c.S H'->cT C c.S H' r u'):Ok C {c with H:=H',st:=c.st.set i (some (k,u'))}/\Ns c0 {c with H:=H',st:=c.st.set i (some (k,u'))}:=by
 have hR1:c.R1 r:=⟨i,k,u,hk,hi,hv⟩
 have hR:c.R r:=.inl hR1;obtain⟨q1,q2,q3,o,ho,hnt⟩:=ok.root hR;have hil:i<c.st.length:=(List.getElem?_eq_some_iff.mp hi).1;have kp:∀{a:Addr} {o':HO},a≠r->c.H a=some o'->H' a=some o':=fun ne e=>by rw[hne _ ne];exact e
 have mv:Mv c.S c.H c.S H':=⟨fun _ z=>z,fun a o' e t=>kp (fun z=>by subst z;rw[ho]at e;cases e;exact hnt t) e,fun a o' z e=>kp (fun z'=>q1 (z'▸z)) e⟩
 have mvP:Mv (PS C c.S) c.H (PS C c.S) H':=⟨fun _ z=>z,mv.tps,fun a o' z e=>kp (fun z'=>by subst z';exact z.elim q2 q1) e⟩
 have oth:∀(j:Nat) k' w,(c.st.set i (some (k,u')))[j]?=some (some (k',w))->j≠i->c.st[j]?=some (some (k',w)):=fun j k' w e ne=>by rw[List.getElem?_set_ne (Ne.symm ne)]at e;exact e
 have back:∀(j:Nat) k' w,k'.root=true->(c.st.set i (some (k,u')))[j]?=some (some (k',w))->∃w',c.st[j]?=some (some (k',w')):=fun j k' w _ e=>by
  by_cases hj:j=i
  ·subst hj;rw[List.getElem?_set_self hil]at e;cases e;exact⟨u,hi⟩
  ·exact⟨w,oth j k' w e hj⟩
 have b1:∀a,({c with H:=H',st:=c.st.set i (some (k,u'))}:Cf).R1 a->c.R1 a:=fun a hIx=>by
  obtain⟨j,k',w,h1,e1,e2⟩:=hIx;obtain⟨w',a1⟩:=back j k' w h1 e1;exact⟨j,k',w',h1,a1,e2⟩
 have dD:∀(j:Nat) (w:U),(c.st.set i (some (k,u')))[j]?=some (some (.ownD,w))->c.st[j]?=some (some (.ownD,w)):=fun j w e=>by
  by_cases hj:j=i
  ·subst hj;rw[List.getElem?_set_self hil]at e;cases e;cases hk
  ·exact oth j .ownD w e hj
 have hdd:DOk C {c with H:=H',st:=c.st.set i (some (k,u'))}:=ok.dd.of rfl (fun j w e=>⟨dD j w e,rfl⟩) (fun a z=>.inl (b1 a z)) mv fun j a z=>⟨(ok.root (.inr ⟨j,z⟩)).1,fun o' e=>kp (fun z'=>ok.dd.d1 j a z (z'▸hR1)) e⟩
 refine⟨⟨fun a o' e z=>?_,fun a z=>?_,ok.par,fun a z=>?_,by simp[ok.len],fun j k' w e=>?_,fun j1 j2 k1 k2 w1 w2 r' h1 h2 e1 e2 e3 e4=>?_,hdd⟩,n.trans ⟨fun a o' e z=>kp (fun z'=>z (z'▸hR)) e,fun a o' e=>?_,fun a z=>?_,fun _ z=>z,fun _ z=>.inl z⟩⟩
 ·have h1:=ok.same a o' e z;refine kp (fun z'=>?_) h1;subst z';rcases q3 with q3|q3
  ·rw[e]at q3;cases q3
  ·exact z q3
 ·obtain⟨h1,o',h2⟩:=ok.sfr a z;exact⟨h1,o',kp (fun z'=>q1 (z'▸z)) h2⟩
 ·obtain⟨h1,o',h2⟩:=ok.io a z;refine⟨h1,?_⟩;by_cases ha:a=r
  ·subst ha;exact hr
  ·exact⟨o',kp ha h2⟩
 ·by_cases hj:j=i
  ·subst hj;rw[List.getElem?_set_self hil]at e;cases e;obtain⟨v,e1,e2⟩:=ok.sl j _ _ hi;rw[hv]at e1;cases e1;refine⟨.ref r,hv,?_⟩;have nr:=new mv;cases k with
   |own=>obtain⟨r',er,z1,z2,z3,_⟩:=e2;cases er;exact⟨r,rfl,z1,z2,z3,nr⟩
   |io=>obtain⟨r',er,z1,z2,z3,_⟩:=e2;cases er;exact⟨r,rfl,z1,z2,z3,nr⟩
   |_=>cases hk
  ·have e0:=oth j k' w e hj;obtain⟨v,e1,e2⟩:=ok.sl j k' w e0;refine⟨v,e1,e2.mv mv mvP fun hk' r' er=>?_⟩;obtain⟨r'',er',z1,_⟩:=e2.rt hk';rw[er]at er';cases er';refine⟨z1,fun o' e=>kp (fun z=>?_) e⟩;subst z;exact hj (ok.inj j i k' k w u r' hk' hk e0 hi (by rw[e1,er]) hv)
 ·obtain⟨w1',a1⟩:=back j1 k1 w1 h1 e1;obtain⟨w2',a2⟩:=back j2 k2 w2 h2 e2;exact ok.inj j1 j2 k1 k2 w1' w2' r' h1 h2 a1 a2 e3 e4
 ·by_cases ha:a=r
  ·subst ha;exact hr
  ·exact⟨o',kp ha e⟩
 ·rcases z with z|⟨j,w,r',e1,e2,e3⟩
  ·exact .inl (.inl (b1 a z))
  ·exact .inl (.inr ⟨j,w,r',dD j w e1,e2,e3⟩)
theorem dw{i:Nat}{f:U->Option U}{st:ag}{Q:Unit->ag->Prop}(h:W (modS i f) st Q):∃k u u',k.root=true/\st[i]?=some (some (k,u))/\f u=some u'/\Q () (st.set i (some (k,u'))):=by
 obtain⟨_,st',e,q⟩:=h;unfold modS at e;split at e
 ·rename_i k u hs;split at e
  ·rename_i hk;cases e2:f u with
   |none=>rw[e2]at e;cases e
   |some u'=>rw[e2]at e;cases e;exact⟨k,u,u',hk,hs,e2,q⟩
  ·cases e
 ·cases e
theorem cQ{i:Nat}{st:ag}{Q:Kd×U->ag->Prop}(h:W (cZ i) st Q):∃k u,k≠.ownD/\st[i]?=some (some (k,u))/\Q (if k.root=true then .bor i else k,u) st:=by
 obtain⟨r,st',e,q⟩:=h;unfold cZ at e;split at e
 ·cases e
 ·rename_i k u hnD hs;cases e;exact⟨k,u,fun z=>hnD z,hs,q⟩
 ·cases e
theorem Av(hK:C.K=X.K){i:Nat}{x:Str}{px:Pos}(hN:X.N[i]?=some x)(hv:Vis X.env.scope x)(hd:(x==("__debug__":Str))=false)(hcd:(x==("__classdict__":Str))=false)(ha:PE X a (tEv C ma))
  (hfew:((backTo cpos (starEach [a] X.env)).all (fun x=>!x.1)&&(backToKw cpos (keywordEach [] X.env)).all (fun x=>x.1.isSome)
   && decide ([a].length+([]:List Keyword).length+(if ([]:List Keyword).isEmpty then 0 else 1)<30))=true)
  (hline:(apos.endLine==cpos.line)=true) (hst:starEach [a] X.env=[(false,eval a X.env)]) :
  L2.PS X (.Expr (.Call (.Attribute (.Name x px) "append" apos) [a] [] cpos) pos) (tEx C ns (cZ i >>= fun x=>isL x.2 >>= fun _=>ma >>= fun r=>lift r >>= fun u=>modS i (tP u) >>= fun _=>pure .nx)):=by
 refine PS.weak (fJ (sM PySem.F.plainAttrs_list PySem.F.slot_list_append PySem.F.type_list_append kr (bV hN hv hd hcd) (eT ha iX hst) rfl hfew hline hst rfl)) ?_;rintro D σ H ⟨c0,rfl,rfl,ok,h⟩;rw[ab]at h;obtain⟨k0,u0,hnD0,hs0,h⟩:=cQ h;obtain⟨v0,e0,sl0⟩:=ok.sl i k0 u0 hs0;refine⟨v0,e0,?_⟩;cases u0 with
 |lst xs0 =>
  rw[ab,show isL (U.lst xs0)=pure () from rfl,ah]at h;have rt0:aA C c0 c0 (if k0.root=true then .bor i else k0) (.lst xs0) v0:=by
   by_cases hk:k0.root=true
   ·rw[if_pos hk];exact⟨⟨k0,hk,hs0⟩,e0⟩
   ·rw[if_neg hk];cases k0 with
    |own=>exact absurd rfl hk
    |io=>exact absurd rfl hk
    |loc=>exact sl0
    |any=>exact sl0
    |bor j=>exact sl0.elim
    |ownD=>exact(hnD0 rfl).elim
  obtain⟨a0,vs0,ea,hrd,_⟩:=rt0.list ok;refine⟨by rw[ea];exact .inl ⟨rfl,vs0,hK▸hrd⟩,?_⟩;refine aB ok h fun r c v t w=>?_;rw[ab]at w;obtain⟨S',st',u,sS,ok1,n1,rep1,w1,_,_⟩:=gb ok t.ok t.nx t.rx.w w;rw[ab]at w1;obtain⟨k,u1,u2,hk,hs,hf,q⟩:=dw w1;have hσ:c.σ[i]?=some (some (.ref a0)):=by rw[t.hσ,e0,ea]
  cases u1 with
  |lst ys =>
   simp only[tP]at hf;split at hf
   ·rename_i hz;cases hf;obtain⟨v',e1,e2⟩:=ok1.sl i k (.lst ys) hs;have e1':c.σ[i]?=some (some v'):=e1;rw[hσ]at e1';cases e1';obtain⟨r',er,_,_,_,ws,hw,hrep⟩:=e2.rt hk;cases er;have hw':c.H a0=some (.lst ws):=hw;refine⟨a0,ws,v,ea,rfl,hw',by rw[<-hrep.len];exact hz,?_⟩;rw[ah]at q;obtain⟨ok2,n2⟩:=Ok.mod (c:={c with S:=S',st:=st' }) (H':=upd c.H a0 (.lst (ws++[v]))) (u':=.lst (ys++[u])) ok1 n1.toNs hk hs hσ (fun a ne=>ak ne) ⟨_,ar⟩ fun mv=>⟨ws++[v],ar,(hrep.mv mv).snoc (rep1.mv mv)⟩
    have z:=q _ rfl ok2 n2 (Kept.of t.hσ);rw[<-t.hσ];exact z
   ·cases hf
  |_=>cases hf
 |_=>rw[ab]at h;exact(av.mp h).elim
theorem Aw(hK:C.K=X.K){i:Nat}{x:Str}{px:Pos}(hN:X.N[i]?=some x)(hv:Vis X.env.scope x)(hd:(x==("__debug__":Str))=false)(hcd:(x==("__classdict__":Str))=false)(ha:PE X a (tEv C ma))
  (hfew:((backTo cpos (starEach [a] X.env)).all (fun x=>!x.1)&&(backToKw cpos (keywordEach [] X.env)).all (fun x=>x.1.isSome)
   && decide ([a].length+([]:List Keyword).length+(if ([]:List Keyword).isEmpty then 0 else 1)<30))=true)
  (hline:(apos.endLine==cpos.line)=true) (hst:starEach [a] X.env=[(false,eval a X.env)]) :
  L2.PS X (.Expr (.Call (.Attribute (.Name x px) "extend" apos) [a] [] cpos) pos) (tEx C ns (cZ i >>= fun x=>isL x.2 >>= fun _=>ma >>= fun r=>modS i (kb r) >>= fun _=>pure .nx)):=by
 refine PS.weak (fJ (sM PySem.F.plainAttrs_list PySem.F.slot_list_extend PySem.F.type_list_extend oI (bV hN hv hd hcd) (eT ha iX hst) rfl hfew hline hst rfl)) ?_;rintro D σ H ⟨c0,rfl,rfl,ok,h⟩;rw[ab]at h;obtain⟨k0,u0,hnD0,hs0,h⟩:=cQ h;obtain⟨v0,e0,sl0⟩:=ok.sl i k0 u0 hs0;refine⟨v0,e0,?_⟩;cases u0 with
 |lst xs0 =>
  rw[ab,show isL (U.lst xs0)=pure () from rfl,ah]at h;have rt0:aA C c0 c0 (if k0.root=true then .bor i else k0) (.lst xs0) v0:=by
   by_cases hk:k0.root=true
   ·rw[if_pos hk];exact⟨⟨k0,hk,hs0⟩,e0⟩
   ·rw[if_neg hk];cases k0 with
    |own=>exact absurd rfl hk
    |io=>exact absurd rfl hk
    |loc=>exact sl0
    |any=>exact sl0
    |bor j=>exact sl0.elim
    |ownD=>exact(hnD0 rfl).elim
  obtain⟨a0,vs0,ea,hrd,_⟩:=rt0.list ok;refine⟨by rw[ea];exact .inl ⟨rfl,vs0,hK▸hrd⟩,?_⟩;refine aB ok h fun r c v t w=>?_;rw[ab]at w;obtain⟨k,u1,u2,hk,hs,hf,q⟩:=dw w;have hσ:c.σ[i]?=some (some (.ref a0)):=by rw[t.hσ,e0,ea]
  obtain⟨rk,ru⟩:=r;have key:∃ys zs b vs,u1=.lst ys/\v=.ref b/\(SqL C.K c.H b vs\/SqT C.K c.H b vs)/\ai C c.S c.H zs vs/\ys.length+zs.length<=sizeLine/\u2=.lst (ys++zs):=by
   cases ru with
   |lst zs =>
    cases u1 with
    |lst ys =>
     simp only[kb]at hf;split at hf
     ·rename_i hz;cases hf;obtain⟨b,vs,ev,h1,h2⟩:=t.rx.list t.ok;exact⟨_,_,b,vs,rfl,ev,.inl h1,eG hz.2 h2,hz.1,rfl⟩
     ·cases hf
    |_=>simp[kb]at hf
   |tup zs =>
    cases u1 with
    |lst ys =>
     simp only[kb]at hf;split at hf
     ·rename_i hz;cases hf;obtain⟨b,vs,ev,h1,h2⟩:=t.rx.tuple t.ok;exact⟨_,_,b,vs,rfl,ev,.inr h1,eG hz.2 h2,hz.1,rfl⟩
     ·cases hf
    |_=>simp[kb]at hf
   |_=>simp[kb]at hf
  obtain⟨ys,zs,b,vs,rfl,rfl,hB,hz,hl,rfl⟩:=key;obtain⟨v',e1,e2⟩:=t.ok.sl i k (.lst ys) hs;rw[hσ]at e1;cases e1;obtain⟨r',er,_,_,_,ws,hw,hrep⟩:=e2.rt hk;cases er;refine⟨a0,b,ws,vs,ea,rfl,hw,hK▸hB,by rw[<-hrep.len,<-hz.len];exact hl,?_⟩;rw[ah]at q;obtain⟨ok2,n2⟩:=Ok.mod (c:=c) (H':=upd c.H a0 (.lst (ws++vs))) (u':=.lst (ys++zs)) t.ok t.nx.toNs hk hs hσ (fun a ne=>ak ne) ⟨_,ar⟩ fun mv=>⟨ws++vs,ar,(hrep.mv mv).append (hz.mv mv)⟩
  have z:=q _ rfl ok2 n2 (Kept.of t.hσ);rw[<-t.hσ];exact z
 |_=>rw[ab]at h;exact(av.mp h).elim
theorem iQ.or{t t':qU}(h:iQ X t)(h':iQ X t'):iQ X (fun o i v H Q=>t o i v H Q\/t' o i v H Q):=fun pins s σ H o i v ov iv u Q I r1 r2 r3 q =>
 q.elim (h pins s σ H o i v ov iv u Q I r1 r2 r3) (h' pins s σ H o i v ov iv u Q I r1 r2 r3)
theorem set_dict(hu:X.A.units+1<cLine):iQ X (fun o i v H Q=>∃a H',o=.ref a/\rg H a i v H'/\Q H'):=by
 rintro pins s σ H o i v ov iv u Q I ro ri rv ⟨a,H',rfl,g,q⟩;cases ro;exact rj hu I g ri rv fun s' I'=>⟨H',I',q⟩
theorem ub{S:Addr->Prop}{H:Hp}{y:Str}{u:U}{v:V}{ks:List Str}{us:List U}{kvs:List (Key×V)}(h1:kvs.map (·.1)=ks.map Sum.inr)(h2:ai C S H us (kvs.map (·.2)))(hv:Rep C S H u v):
  (putK kvs (Sum.inr y) v).map (·.1)=(dput ks us y u).1.map Sum.inr/\ai C S H (dput ks us y u).2 ((putK kvs (Sum.inr y) v).map (·.2)):=by
 have hany:(kvs.any fun kv=>decide (kv.1=(Sum.inr y:Key)))=decide (y∈ks):=by
  rw[fO];exact(cP (x:=y) h1 h2).2
 unfold putK dput;rw[hany];by_cases hm:y∈ks
 ·rw[if_pos (by simpa using hm),if_pos hm];constructor
  ·rw[List.map_map];rw[<-h1];apply List.map_congr_left;intro p _;show(if p.1=Sum.inr y then(p.1,v) else p).1=p.1;split<;>rfl
  ·clear hany hm;induction kvs generalizing ks us with
   |nil =>
    have:ks=[]:=by simpa using h1.symm
    subst this;simp[ai]
   |cons p kvs ih =>
    cases ks with
    |nil=>simp at h1
    |cons k ks =>
     cases us with
     |nil=>simp[ai]at h2
     |cons u0 us =>
      rw[List.map_cons,List.map_cons,List.cons.injEq]at h1;obtain⟨v0,r0,e0,q1,q2⟩:=h2;rw[List.map_cons]at e0;cases e0;rw[List.map_cons,List.zip_cons_cons,List.map_cons,List.map_cons];refine⟨_,_,rfl,?_,ih h1.2 q2⟩;by_cases hk:k=y
      ·rw[if_pos (by exact hk),if_pos (by rw[h1.1,hk])];exact hv
      ·rw[if_neg (by exact hk),if_neg (by rw[h1.1];intro z;exact hk (Sum.inr.inj z))];exact q1
 ·rw[if_neg (by simpa using hm),if_neg hm];exact⟨by rw[List.map_append,h1,List.map_append];rfl,by rw[List.map_append];exact h2.snoc hv⟩
theorem Ax{i:Nat}{x:Str}{px:Pos}(hP:C.P=X.prog)(hw:C.w=X.w)(hK:C.K=X.K)(hu:X.A.units+60<cLine)(hN:X.N[i]?=some x)(hv:Vis X.env.scope x)(hd:(x==("__debug__":Str))=false)(hcd:(x==("__classdict__":Str))=false)
  (ha:PE X a (tEv C ma)) (hb:PE X b (tEv C mb)) (hs:swapsWithSole [.Subscript (.Name x px) b p] a pos.line X.env=pure false) (hw2:swappedStores [.Subscript (.Name x px) b p] a X.env=pure none)
  (has:∀v,assign (.Subscript (.Name x px) b p) X.env v=(do
   let ov <-holding [v] (eval (.Name x px) X.env)
   let iv <-holding [v,ov] (eval b X.env)
   standAt p
   holding [v,ov,iv] (setItem ov iv v)
   release [v,ov,iv] [])) :
  L2.PS X (.Assign [.Subscript (.Name x px) b p] a pos) (tEx C ns (ma >>= fun r=>cZ i >>= fun _=>mb >>= fun x=>cw [r,x] >>= fun us=>modS i (qh us) >>= fun _=>pure .nx)):=by
 refine PS.weak (oe ha (sC (bV hN hv hd hcd) hb (iQ.or (iQ.or set_list (set_dict (X:=X) (by omega))) (vH (X:=X) (by omega))) has) hs hw2 rfl) ?_;rintro D σ H ⟨c0,rfl,rfl,ok,h⟩;refine aB ok h fun r c v t w=>?_;rw[ab]at w;obtain⟨k0,u0,hnD0,hs0,w⟩:=cQ w;obtain⟨v0,e0,sl0⟩:=t.ok.sl i k0 u0 hs0;refine⟨v0,by rw[<-t.hσ];exact e0,?_⟩;rw[ab]at w;refine⟨c,t.hσ,rfl,t.ok,w.mono fun y st2 w2 c2 vy e3 e4 ok2 n2 r2=>?_⟩;subst e4;rw[ab]at w2;have n02:=t.nx.trans n2;have rws:cV C c0 c2 [r,y] [v,vy]:=⟨v,[vy],rfl,t.rx.w.on t.ok n2 (e3.trans t.hσ.symm),⟨vy,[],rfl,(r2.w).from t.nx,rfl,fun _ i r' v' e _=>by simp at e⟩,fun hk i r' v' e5 e6 hk'=>by
  cases i with
  |zero=>simp at e5 e6;subst e5 e6;exact lP t.rx.w r2.w hk hk'
  |succ i=>simp at e5⟩
 obtain⟨S',st',us,sS,ok1,n1,rep1,w1⟩:=gf ok ok2 n02 rws w2;rw[ab]at w1;obtain⟨k,u1,u2,hk,hs1,hf,q⟩:=dw w1;rw[ah]at q;have hσ:c2.σ[i]?=some (some v0):=by rw[e3,<-t.hσ];exact e0
 obtain⟨v',e1,e2⟩:=ok1.sl i k u1 hs1;have e1':c2.σ[i]?=some (some v'):=e1;rw[hσ]at e1';cases e1';obtain⟨a0,er,z1,z2,z3,root⟩:=e2.rt hk;subst er;have hσ':({c2 with S:=S',st:=st' }:Cf).σ[i]?=some (some (.ref a0)):=hσ;obtain⟨w1',ws,ew,rp1,w2',ws2,ew2,rp2,hnil⟩:∃u ws,us=[u,ws]/\Rep C S' c2.H u v/\∃(_:Unit) (_:Unit),True/\Rep C S' c2.H ws vy/\True:=by
  cases us with
  |nil=>simp[ai]at rep1
  |cons u us =>
   obtain⟨_,_,e,q1,q2⟩:=rep1;cases e;cases us with
   |nil=>simp[ai]at q2
   |cons u' us =>
    obtain⟨_,_,e,q3,q4⟩:=q2;cases e;cases us with
    |nil=>exact⟨u,u',rfl,q1,(),(),trivial,q3,trivial⟩
    |cons _ _=>obtain⟨_,_,e,_⟩:=q4;cases e
 subst ew;rw[show qh [w1',ws] u1=du ws w1' u1 from rfl]at hf;have fin:∀{H':Hp} ,(∀a,a≠a0->H' a=c2.H a)->(∃o,H' a0=some o)->(Mv S' c2.H S' H'->cT C S' H' a0 u2)->D.nx c0.σ H':=fun {H'} hne hr new=>by
  obtain⟨ok3,n3⟩:=Ok.mod (c:={c2 with S:=S',st:=st' }) (H':=H') (u':=u2) ok1 n1.toNs hk hs1 hσ' hne hr new;have z:=q _ rfl ok3 n3 (Kept.of e3);rw[<-e3];exact z
 cases u1 with
 |lst xs =>
  cases ws with
  |int j =>
   simp only[du,Option.map_eq_some_iff]at hf;obtain⟨j',hj,rfl⟩:=hf;obtain⟨vs,h1,h2⟩:=root;have ey:vy=.int j:=rp2;refine .inl (.inl ⟨a0,vs,j,j',rfl,ey,h1,by rw[<-h2.len];exact hj,?_⟩);exact fin (fun a ne=>ak ne) ⟨_,ar⟩ fun mv=>⟨vs.set j' v,ar,(h2.mv mv).set j' (rp1.mv mv)⟩
  |_=>simp[du]at hf
 |dic ks vs =>
  cases ws with
  |str y' =>
   simp only[du]at hf;split at hf
   ·rename_i hz;cases hf;obtain⟨kvs,h1,h2,h3⟩:=root;have ey:vy=.str y':=rp2;subst ey;have hl:kvs.length=ks.length:=by have:=congrArg List.length h2;simpa using this
    refine .inl (.inr ⟨a0,_,rfl,rg.k (k:=Sum.inr y') h1 (by rw[hl];exact hz),?_⟩);refine fin (fun a ne=>ak ne) ⟨_,ar⟩ fun mv=>?_;obtain⟨g1,g2⟩:=ub (y:=y') h2 h3 rp1;exact⟨_,ar,g1,g2.mv mv⟩
   ·cases hf
  |_=>simp[du]at hf
 |rdc ks =>
  simp only[du]at hf;split at hf
  ·rename_i r0 hr0;split at hf
   ·rename_i hh;cases hf;have er:=jB hr0;subst er;have hrow:=rp2.row;have hroot:d0 C.P C.w C.K c2.H a0 ks:=root;rw[hK]at hrow;rw[hP,hw,hK]at hroot;refine .inr ⟨a0,r0,ks,rfl,hrow,hroot,hh.1,hh.2,fun H' hR hne=>?_⟩;obtain⟨xs,hx,_⟩:=id hR;refine fin hne ⟨_,hx⟩ fun mv=>?_;show d0 C.P C.w C.K H' a0 _;rw[hP,hw,hK];exact hR
   ·cases hf
  ·cases hf
 |_=>simp[du]at hf
theorem Ok.slot(ok:Ok C c){i:Nat}{k:Kd}{u:U}(hn:k≠.ownD)(hs:c.st[i]?=some (some (k,u))):∃v,c.σ[i]?=some (some v)/\aA C c c (if k.root=true then .bor i else k) u v:=by
 obtain⟨v0,e0,sl0⟩:=ok.sl i k u hs;refine⟨v0,e0,?_⟩;by_cases hk:k.root=true
 ·rw[if_pos hk];exact⟨⟨k,hk,hs⟩,e0⟩
 ·rw[if_neg hk];cases k with
  |own=>exact absurd rfl hk
  |io=>exact absurd rfl hk
  |loc=>exact sl0
  |any=>exact sl0
  |bor j=>exact sl0.elim
  |ownD=>exact(hn rfl).elim
end
end TM
namespace TM
open PySem L2 PyProof.Rows
section
variable{X:Cx}{C:Ct}{pins:List (Addr×Obj)}{s:Shared}{c0 c c1:Cf}
theorem Ok.Ay(ok:Ok C c)(n:Ns c0 c){i:Nat}{u u':U}{r:Addr}{H':Hp}{as':List Addr}(hi:c.st[i]?=some (some (.ownD,u)))(hv:c.σ[i]?=some (some (.ref r)))(hne:∀a,¬c.RD i a->H' a=c.H a)(hth:∀a o,c.H a=some o->∃o',H' a=some o')
  (new:Mv c.S c.H c.S H'->bP C c.S H' r as' u') (has:∀a∈as',a∈c.kid i\/(¬c.R a/\c0.H a=none)) :
  Ok C {c with H:=H',st:=c.st.set i (some (.ownD,u')),kid:=fun j=>if j=i then as' else c.kid j}/\Ns c0 {c with H:=H',st:=c.st.set i (some (.ownD,u')),kid:=fun j=>if j=i then as' else c.kid j}:=by
 have hil:i<c.st.length:=(List.getElem?_eq_some_iff.mp hi).1;have rt:∀{a},c.RD i a->¬c.S a/\¬C.Par a/\(C.H₀ a=none\/C.IO a)/\∃o,c.H a=some o/\¬Tp o:=fun z=>ok.root (.inr ⟨i,z⟩);have h0:∀{a},c.RD i a->C.H₀ a=none:=fun⟨u1,r1,e1,e2,e3⟩=>(bP.fr (ok.dd.kd i u1 r1 e1 e2) _ (List.mem_cons.mpr e3)).2.2;have kp:∀{a:Addr} {o:HO},¬c.RD i a->c.H a=some o->H' a=some o:=fun z e=>by rw[hne _ z];exact e
 have mv:Mv c.S c.H c.S H':=⟨fun _ z=>z,fun a o e t=>kp (fun z=>by
  obtain⟨_,_,_,o',e',nt⟩:=rt z;rw[e]at e';cases e';exact nt t) e,fun a o z e=>kp (fun z'=>(rt z').1 z) e⟩
 have mvP:Mv (PS C c.S) c.H (PS C c.S) H':=⟨fun _ z=>z,mv.tps,fun a o z e=>kp (fun z'=>z.elim (rt z').2.1 (rt z').1) e⟩
 have oth:∀(j:Nat) k w,(c.st.set i (some (.ownD,u')))[j]?=some (some (k,w))->j≠i->c.st[j]?=some (some (k,w)):=fun j k w e ne=>by rw[List.getElem?_set_ne (Ne.symm ne)]at e;exact e
 have rtj:∀(j:Nat) k w,k.root=true->(c.st.set i (some (.ownD,u')))[j]?=some (some (k,w))->c.st[j]?=some (some (k,w)):=fun j k w hk e=>by
  by_cases hj:j=i
  ·subst hj;rw[List.getElem?_set_self hil]at e;cases e;cases hk
  ·exact oth j k w e hj
 have b1:∀a,({c with H:=H',st:=c.st.set i (some (.ownD,u')),kid:=fun j=>if j=i then as' else c.kid j}:Cf).R1 a->c.R1 a:=fun a ⟨j,k,w,hk,e1,e2⟩=>⟨j,k,w,hk,rtj j k w hk e1,e2⟩
 have bD:∀j a,({c with H:=H',st:=c.st.set i (some (.ownD,u')),kid:=fun j=>if j=i then as' else c.kid j}:Cf).RD j a->c.RD j a\/(j=i/\¬c.R a/\c0.H a=none):=fun j a hIx=>by
  obtain⟨w,r',e1,e2,e3⟩:=hIx;by_cases hj:j=i
  ·subst hj;have e2':c.σ[j]?=some (some (.ref r')):=e2;rw[hv]at e2';cases e2';rcases e3 with rfl|e3
   ·exact .inl ⟨u,_,hi,hv,.inl rfl⟩
   ·have e3':a∈as':=by simpa using e3
    rcases has a e3' with z|z
    ·exact .inl ⟨u,_,hi,hv,.inr z⟩
    ·exact .inr ⟨rfl,z⟩
  ·have e3':a=r'\/a∈c.kid j:=by simpa[hj] using e3
   exact .inl ⟨w,r',oth j _ w e1 hj,e2,e3'⟩
 refine⟨⟨fun a o e z=>kp (fun z'=>by rw[h0 z']at e;cases e) (ok.same a o e z),fun a z=>?_,ok.par,fun a z=>?_,by simp[ok.len],fun j k w e=>?_,fun j1 j2 k1 k2 w1 w2 r' h1 h2 e1 e2 e3 e4=>ok.inj j1 j2 k1 k2 w1 w2 r' h1 h2 (rtj j1 k1 w1 h1 e1) (rtj j2 k2 w2 h2 e2) e3 e4,⟨fun j w r' e1 e2=>?_,fun j1 j2 a z1 z2=>?_,fun j a z1 z2=>?_⟩⟩,⟨fun a o e z=>?_,fun a o e=>?_,fun a z=>?_,n.sub,n.new⟩⟩
 ·obtain⟨q1,o,q2⟩:=ok.sfr a z;exact⟨q1,hth a o q2⟩
 ·obtain⟨q1,o,q2⟩:=ok.io a z;exact⟨q1,hth a o q2⟩
 ·by_cases hj:j=i
  ·subst hj;rw[List.getElem?_set_self hil]at e;cases e;exact⟨.ref r,hv,r,rfl⟩
  ·obtain⟨v,e1,e2⟩:=ok.sl j k w (oth j k w e hj);refine⟨v,e1,e2.mv mv mvP fun hk r' er=>?_⟩;obtain⟨r'',er',z1,_⟩:=e2.rt hk;rw[er]at er';cases er';exact⟨z1,fun o e'=>kp (fun z=>ok.dd.d1 i r' z ⟨j,k,w,hk,oth j k w e hj,by rw[e1,er]⟩) e'⟩
 ·by_cases hj:j=i
  ·subst hj;rw[List.getElem?_set_self hil]at e1;cases e1;have e2':c.σ[j]?=some (some (.ref r')):=e2;rw[hv]at e2';cases e2';have z:=new mv;simpa using z
  ·have e1':=oth j _ w e1 hj;have hk':(if j=i then as' else c.kid j)=c.kid j:=if_neg hj;show bP C c.S H' r' (if j=i then as' else c.kid j) w;rw[hk'];exact bP.mv mv (fun a ha=>⟨(ok.root (.inr ⟨j,w,r',e1',e2,List.mem_cons.mp ha⟩)).1,fun o e'=>kp (fun z=>hj (ok.dd.dj j i a ⟨w,r',e1',e2,List.mem_cons.mp ha⟩ z)) e'⟩) (ok.dd.kd j w r' e1' e2)
 ·rcases bD j1 a z1 with y1|⟨rfl,y1,_⟩
  ·rcases bD j2 a z2 with y2|⟨rfl,y2,_⟩
   ·exact ok.dd.dj j1 j2 a y1 y2
   ·exact(y2 (.inr ⟨j1,y1⟩)).elim
  ·rcases bD j2 a z2 with y2|⟨rfl,y2,_⟩
   ·exact(y1 (.inr ⟨j2,y2⟩)).elim
   ·rfl
 ·rcases bD j a z1 with y1|⟨rfl,y1,_⟩
  ·exact ok.dd.d1 j a y1 (b1 a z2)
  ·exact y1 (.inl (b1 a z2))
 ·exact kp (fun z'=>by
   rcases n.roots a (.inr ⟨i,z'⟩) with y|y
   ·exact z y
   ·rw[e]at y;cases y) (n.keep a o e z)
 ·obtain⟨o',e'⟩:=n.there a o e;exact hth a o' e'
 ·rcases z with z|⟨j,z⟩
  ·exact n.roots a (.inl (b1 a z))
  ·rcases bD j a z with y|⟨_,_,y⟩
   ·exact n.roots a (.inr ⟨j,y⟩)
   ·exact .inr y
theorem Ok.newD(ok:Ok C c){p:Addr}{i:Nat}(hp:c.H p=none)(hi:i<c.σ.length):
  Ok C {c with H:=upd c.H p (.dK []),σ:=c.σ.set i (some (.ref p)),st:=c.st.set i (some (.ownD,.dic [] [])),kid:=fun j=>if j=i then [] else c.kid j}/\Ns c {c with H:=upd c.H p (.dK []),σ:=c.σ.set i (some (.ref p)),st:=c.st.set i (some (.ownD,.dic [] [])),kid:=fun j=>if j=i then [] else c.kid j}:=by
 obtain⟨ok1,n1⟩:=ok.lay (o:=.dK []) hp;obtain⟨q1,q2,q3,q4,q5⟩:=ok.j_ hp;have hil:i<c.st.length:=by rw[ok.len];exact hi
 have oth:∀(j:Nat) k w,(c.st.set i (some (.ownD,.dic [] [])))[j]?=some (some (k,w))->j≠i->c.st[j]?=some (some (k,w)):=fun j k w e ne=>by rw[List.getElem?_set_ne (Ne.symm ne)]at e;exact e
 have othσ:∀(j:Nat),j≠i->(c.σ.set i (some (.ref p)))[j]?=c.σ[j]?:=fun j ne=>List.getElem?_set_ne (Ne.symm ne);have rtj:∀(j:Nat) k w,k.root=true->(c.st.set i (some (.ownD,.dic [] [])))[j]?=some (some (k,w))->j≠i/\c.st[j]?=some (some (k,w)):=fun j k w hk e=>by
  by_cases hj:j=i
  ·subst hj;rw[List.getElem?_set_self hil]at e;cases e;cases hk
  ·exact⟨hj,oth j k w e hj⟩
 have b1:∀a,({c with H:=upd c.H p (.dK []),σ:=c.σ.set i (some (.ref p)),st:=c.st.set i (some (.ownD,.dic [] [])),kid:=fun j=>if j=i then [] else c.kid j}:Cf).R1 a->c.R1 a:=fun a hIx=>by
  obtain⟨j,k,w,hk,e1,e2⟩:=hIx;obtain⟨hj,e1'⟩:=rtj j k w hk e1;exact⟨j,k,w,hk,e1',by rw[<-othσ j hj];exact e2⟩
 have bD:∀j a,({c with H:=upd c.H p (.dK []),σ:=c.σ.set i (some (.ref p)),st:=c.st.set i (some (.ownD,.dic [] [])),kid:=fun j=>if j=i then [] else c.kid j}:Cf).RD j a->(j≠i/\c.RD j a)\/(j=i/\a=p):=fun j a hIx=>by
  obtain⟨w,r',e1,e2,e3⟩:=hIx;by_cases hj:j=i
  ·subst hj;have e2':(c.σ.set j (some (.ref p)))[j]?=some (some (.ref r')):=e2;rw[List.getElem?_set_self hi]at e2';cases e2';rcases e3 with rfl|e3
   ·exact .inr ⟨rfl,rfl⟩
   ·simp at e3
  ·have e3':a=r'\/a∈c.kid j:=by simpa[hj] using e3
   exact .inl ⟨hj,w,r',oth j _ w e1 hj,by rw[<-othσ j hj];exact e2,e3'⟩
 refine⟨⟨ok1.same,ok1.sfr,ok1.par,ok1.io,by simp[ok.len],fun j k w e=>?_,fun j1 j2 k1 k2 w1 w2 r' h1 h2 e1 e2 e3 e4=>?_,⟨fun j w r' e1 e2=>?_,fun j1 j2 a z1 z2=>?_,fun j a z1 z2=>?_⟩⟩,⟨fun a o e z=>n1.all a o e,n1.there,fun a z=>?_,fun _ z=>z,fun _ z=>.inl z⟩⟩
 ·by_cases hj:j=i
  ·subst hj;rw[List.getElem?_set_self hil]at e;cases e;exact⟨.ref p,List.getElem?_set_self hi,p,rfl⟩
  ·obtain⟨v,e1,e2⟩:=ok1.sl j k w (oth j k w e hj);exact⟨v,(othσ j hj).trans e1,e2⟩
 ·obtain⟨hj1,a1⟩:=rtj j1 k1 w1 h1 e1;obtain⟨hj2,a2⟩:=rtj j2 k2 w2 h2 e2;exact ok.inj j1 j2 k1 k2 w1 w2 r' h1 h2 a1 a2 ((othσ j1 hj1).symm.trans e3) ((othσ j2 hj2).symm.trans e4)
 ·by_cases hj:j=i
  ·subst hj;rw[List.getElem?_set_self hil]at e1;cases e1;have e2':(c.σ.set j (some (.ref p)))[j]?=some (some (.ref r')):=e2;rw[List.getElem?_set_self hi]at e2';cases e2';show bP C c.S (upd c.H p (.dK [])) p (if j=j then [] else c.kid j) (.dic [] []);rw[if_pos rfl];exact⟨[],ar,rfl,rfl,by simp,fun a ha=>by rw[List.mem_singleton.mp ha];exact⟨q2,q3,q1⟩,rfl⟩
  ·have e1':=oth j _ w e1 hj;have z:=ok1.dd.kd j w r' e1' ((othσ j hj).symm.trans e2);show bP C c.S (upd c.H p (.dK [])) r' (if j=i then [] else c.kid j) w;rw[if_neg hj];exact z
 ·rcases bD j1 a z1 with⟨_,y1⟩|⟨rfl,rfl⟩
  ·rcases bD j2 a z2 with⟨_,y2⟩|⟨rfl,rfl⟩
   ·exact ok.dd.dj j1 j2 a y1 y2
   ·exact(q5 (.inr ⟨j1,y1⟩)).elim
  ·rcases bD j2 a z2 with⟨_,y2⟩|⟨rfl,_⟩
   ·exact(q5 (.inr ⟨j2,y2⟩)).elim
   ·rfl
 ·rcases bD j a z1 with⟨_,y1⟩|⟨rfl,rfl⟩
  ·exact ok.dd.d1 j a y1 (b1 a z2)
  ·exact q5 (.inl (b1 a z2))
 ·rcases z with z|⟨j,z⟩
  ·exact .inl (.inl (b1 a z))
  ·rcases bD j a z with⟨_,y⟩|⟨_,rfl⟩
   ·exact .inl (.inr ⟨j,y⟩)
   ·exact .inr hp
end
end TM
namespace TM
open PySem L2 PyProof.Rows
section
variable{X:Cx}{C:Ct}{pins:List (Addr×Obj)}{s:Shared}{c0 c c1:Cf}
variable{a b d e o:Expr}{es:List Expr}{m ma mb md me:M (Kd×U)}{pos p p2 apos cpos:Pos}{ns:Nat->Bool}
theorem cB.rep{S S':Addr->Prop}{H:Hp}(hs:∀a,S a->S' a):∀{us:List U}{as:List Addr},(∀a∈as,S' a)->cB C S H us as->ai C S' H us (as.map V.ref)
 |[],as,_,h=>by cases h;exact rfl
 |u::us,as,ha,h=>by
  obtain⟨a,as',ys,vs,rfl,rfl,h1,h2,h3⟩:=h;exact⟨.ref a,as'.map V.ref,rfl,⟨a,vs,rfl,.inl ⟨ha a (by simp),.inl h1⟩,h2.mv (.up hs)⟩,cB.rep hs (fun b hb=>ha b (by simp[hb])) h3⟩
theorem Ok.By(ok:Ok C c)(n:Nx c0 c){i:Nat}{u:U}{r:Addr}(hi:c.st[i]?=some (some (.ownD,u)))(hv:c.σ[i]?=some (some (.ref r))):
  Ok C {c with S:=fun a=>c.S a\/a∈c.kid i,st:=c.st.set i (some (.own,u))}/\Nx c0 {c with S:=fun a=>c.S a\/a∈c.kid i,st:=c.st.set i (some (.own,u))}:=by
 have hil:i<c.st.length:=(List.getElem?_eq_some_iff.mp hi).1;have rd:=ok.dd.kd i u r hi hv;have fr:=bP.fr rd;have mem:∀a,(a=r\/a∈c.kid i)->c.RD i a:=fun a z=>⟨u,r,hi,hv,z⟩
 have up:Mv c.S c.H (fun a=>c.S a\/a∈c.kid i) c.H:=.up fun a=>.inl;have upP:Mv (PS C c.S) c.H (PS C fun a=>c.S a\/a∈c.kid i) c.H:=.up fun a z=>z.imp id .inl;have hrk:r∉c.kid i/\cT C (fun a=>c.S a\/a∈c.kid i) c.H r u:=by
  cases u<;>first|exact rd.elim|skip
  obtain⟨kvs,h1,h2,h3,h4,h5,h6⟩:=rd;refine⟨(List.nodup_cons.mp h4).1,kvs,h1,h2,?_⟩;rw[h3];exact h6.rep (fun a=>.inl) fun a ha=>.inr ha
 have oth:∀(j:Nat) k w,(c.st.set i (some (.own,u)))[j]?=some (some (k,w))->j≠i->c.st[j]?=some (some (k,w)):=fun j k w e ne=>by rw[List.getElem?_set_ne (Ne.symm ne)]at e;exact e
 have b1:∀a,({c with S:=fun a=>c.S a\/a∈c.kid i,st:=c.st.set i (some (.own,u))}:Cf).R1 a->c.R1 a\/a=r:=fun a hIx=>by
  obtain⟨j,k,w,hk,e1,e2⟩:=hIx;by_cases hj:j=i
  ·subst hj;have e2':c.σ[j]?=some (some (.ref a)):=e2;rw[hv]at e2';cases e2';exact .inr rfl
  ·exact .inl ⟨j,k,w,hk,oth j k w e1 hj,e2⟩
 have bD:∀j a,({c with S:=fun a=>c.S a\/a∈c.kid i,st:=c.st.set i (some (.own,u))}:Cf).RD j a->j≠i/\c.RD j a:=fun j a hIx=>by
  obtain⟨w,r',e1,e2,e3⟩:=hIx;by_cases hj:j=i
  ·subst hj;rw[List.getElem?_set_self hil]at e1;cases e1
  ·exact⟨hj,w,r',oth j _ w e1 hj,e2,e3⟩
 refine⟨⟨ok.same,fun a z=>?_,ok.par,ok.io,by simp[ok.len],fun j k w e=>?_,fun j1 j2 k1 k2 w1 w2 r' h1 h2 e1 e2 e3 e4=>?_,⟨fun j w r' e1 e2=>?_,fun j1 j2 a z1 z2=>ok.dd.dj j1 j2 a (bD j1 a z1).2 (bD j2 a z2).2,fun j a z1 z2=>?_⟩⟩,⟨⟨n.keep,n.there,fun a z=>?_,fun a z=>.inl (n.sub a z),fun a z=>?_⟩,n.all⟩⟩
 ·rcases z with z|z
  ·exact ok.sfr a z
  ·obtain⟨o,ho,_⟩:=bP.there rd a (List.mem_cons_of_mem _ z);exact⟨(fr a (List.mem_cons_of_mem _ z)).2.2,o,ho⟩
 ·by_cases hj:j=i
  ·subst hj;rw[List.getElem?_set_self hil]at e;cases e;obtain⟨q1,q2,q3⟩:=fr r (List.mem_cons_self ..);exact⟨.ref r,hv,r,rfl,fun z=>z.elim q1 hrk.1,q2,q3,hrk.2⟩
  ·obtain⟨v,e1,e2⟩:=ok.sl j k w (oth j k w e hj);refine⟨v,e1,e2.mv up upP fun hk r' er=>?_⟩;obtain⟨r'',er',z1,_⟩:=e2.rt hk;rw[er]at er';cases er';exact⟨fun z=>z.elim z1 fun z=>ok.dd.d1 i r' (mem r' (.inr z)) ⟨j,k,w,hk,oth j k w e hj,by rw[e1,er]⟩,fun o q=>q⟩
 ·by_cases hj1:j1=i
  ·by_cases hj2:j2=i
   ·rw[hj1,hj2]
   ·subst hj1;have e3':c.σ[j1]?=some (some (.ref r')):=e3;rw[hv]at e3';cases e3';exact(ok.dd.d1 j1 r (mem r (.inl rfl)) ⟨j2,k2,w2,h2,oth j2 k2 w2 e2 hj2,e4⟩).elim
  ·by_cases hj2:j2=i
   ·subst hj2;have e4':c.σ[j2]?=some (some (.ref r')):=e4;rw[hv]at e4';cases e4';exact(ok.dd.d1 j2 r (mem r (.inl rfl)) ⟨j1,k1,w1,h1,oth j1 k1 w1 e1 hj1,e3⟩).elim
   ·exact ok.inj j1 j2 k1 k2 w1 w2 r' h1 h2 (oth j1 k1 w1 e1 hj1) (oth j2 k2 w2 e2 hj2) e3 e4
 ·by_cases hj:j=i
  ·subst hj;rw[List.getElem?_set_self hil]at e1;cases e1
  ·have e1':=oth j _ w e1 hj;exact bP.mv up (fun a ha=>⟨fun z=>z.elim (ok.root (.inr ⟨j,w,r',e1',e2,List.mem_cons.mp ha⟩)).1 fun z=>hj (ok.dd.dj j i a ⟨w,r',e1',e2,List.mem_cons.mp ha⟩ (mem a (.inr z))),fun o q=>q⟩) (ok.dd.kd j w r' e1' e2)
 ·obtain⟨hj,y⟩:=bD j a z1;rcases b1 a z2 with z|z
  ·exact ok.dd.d1 j a y z
  ·subst z;exact hj (ok.dd.dj j i a y (mem a (.inl rfl)))
 ·rcases z with z|⟨j,z⟩
  ·rcases b1 a z with z|rfl
   ·exact n.roots a (.inl z)
   ·exact n.roots a (.inr ⟨i,mem a (.inl rfl)⟩)
  ·exact n.roots a (.inr ⟨j,(bD j a z).2⟩)
 ·rcases z with z|z
  ·exact n.new a z
  ·rcases n.roots a (.inr ⟨i,mem a (.inr z)⟩) with y|y
   ·exact .inr (.inl y)
   ·exact .inr (.inr y)
theorem wq{i:Nat}{x:Str}(hN:X.N[i]?=some x)(hv:Vis X.env.scope x)(hd:(x==("__debug__":Str))=false)(hcd:(x==("__classdict__":Str))=false):PE X (.Name x pos) (tEv C (tM i)):=by
 have hvar:=lQ (C:=C) (pos:=pos) hN hv hd hcd;rintro pins s σ H Q I ⟨c0,rfl,rfl,ok,r,st',e,h⟩;unfold tM at e;split at e
 ·rename_i u hs;cases e;obtain⟨v,e1,r',rfl⟩:=ok.sl i _ _ hs;obtain⟨ok',n'⟩:=ok.By (Nx.refl c0) hs e1;have hil:i<c0.st.length:=(List.getElem?_eq_some_iff.mp hs).1;exact bV hN hv hd hcd pins s c0.σ c0.H Q I ⟨.ref r',e1,h {c0 with S:=fun a=>c0.S a\/a∈c0.kid i,st:=c0.st.set i (some (.own,u))} (.ref r') rfl rfl ok' n' ⟨⟨.own,rfl,List.getElem?_set_self hil⟩,e1⟩⟩
 ·exact hvar pins s c0.σ c0.H Q I ⟨c0,rfl,rfl,ok,r,st',e,h⟩
end
end TM
namespace TM
open PySem L2 PyProof.Rows
section
variable{X:Cx}{C:Ct}{pins:List (Addr×Obj)}{s:Shared}{c0 c c1:Cf}
variable{a b d e o:Expr}{es:List Expr}{m ma mb md me:M (Kd×U)}{pos p p2 apos cpos:Pos}{ns:Nat->Bool}
theorem eX{i:Nat}{st:ag}{Q:List Str×List U->ag->Prop}(h:W (fb i) st Q):∃ks us,st[i]?=some (some (.ownD,.dic ks us))/\Q (ks,us) st:=by
 obtain⟨r,st',e,q⟩:=h;unfold fb at e;split at e
 ·rename_i ks us hs;cases e;exact⟨ks,us,hs,q⟩
 ·cases e
theorem eY{x:Kd×U}{st:ag}{Q:Str->ag->Prop}(h:W (f7 x) st Q):∃y,x.2=.str y/\Q y st:=by
 unfold f7 at h;split at h
 ·rename_i y e;rw[ah]at h;exact⟨y,e,h⟩
 ·exact(av.mp h).elim
theorem Ok.dic(ok:Ok C c){i:Nat}{ks:List Str}{us:List U}(hi:c.st[i]?=some (some (.ownD,.dic ks us))):∃(r:Addr) (kvs:List (Key×V)),c.σ[i]?=some (some (.ref r))/\c.H r=some (.dK kvs)/\kvs.map (·.1)=ks.map Sum.inr/\kvs.map (·.2)=(c.kid i).map V.ref /\
  (r::c.kid i).Nodup/\cB C c.S c.H us (c.kid i)/\(∀y:Str,(cF kvs (Sum.inr y)).isSome=decide (y∈ks))/\∀(y:Str) (u:U),cU ks us y=some u->∃v,cF kvs (Sum.inr y)=some v/\Rep C (fun a=>c.S a\/a∈c.kid i) c.H u v:=by
 obtain⟨v,e,r,rfl⟩:=ok.sl i _ _ hi;obtain⟨kvs,h1,h2,h3,h4,h5,h6⟩:=ok.dd.kd i _ r hi e;have hr:ai C (fun a=>c.S a\/a∈c.kid i) c.H us (kvs.map (·.2)):=by rw[h3];exact h6.rep (fun a=>.inl) fun a ha=>.inr ha
 exact⟨r,kvs,e,h1,h2,h3,h4,h6,fun y=>(cP (x:=y) h2 hr).2,fun y=>(cP (x:=y) h2 hr).1⟩
theorem gn{β:Type}{i:Nat}{k:Str->List Str×List U->M β}{Post:β->ag->Prop}{Z:V->V->Hp->Prop}(ok:Ok C c0)(h:W (ma >>= fun x=>f7 x >>= fun y=>fb i >>= fun d=>k y d) c0.st Post)
  (hz:∀(c:Cf) (y:Str) (ks:List Str) (us:List U) (r:Addr) (kvs:List (Key×V)),c.σ=c0.σ->Ok C c->Nx c0 c->c.H r=some (.dK kvs)->(cF kvs (Sum.inr y)).isSome=decide (y∈ks)->W (k y (ks,us)) c.st Post->Z (.str y) (.ref r) c.H) :
  tEv C ma c0.σ c0.H fun v H1=>∃v',c0.σ[i]?=some (some v')/\Z v v' H1:=by
 refine⟨c0,rfl,rfl,ok,?_⟩;rw[ab]at h;refine W.mono h fun x st' w c v hσ hs ok' n r=>?_;subst hs;obtain⟨kx,ux⟩:=x;rw[ab]at w;obtain⟨y,e,w1⟩:=eY w;clear w
 dsimp only at e r
 subst e;have ev:v=.str y:=r.str ok';subst ev;rw[ab]at w1;obtain⟨ks,us,hs,w⟩:=eX w1;obtain⟨r',kvs,e1,h1,_,_,_,_,h2,_⟩:=ok'.dic hs;exact⟨.ref r',by rw[<-hσ];exact e1,hz c y ks us r' kvs hσ ok' n h1 (h2 y) w⟩
noncomputable def uc(neg:Bool):CmpOp:=if neg=true then .NotIn else .In
theorem wt{neg:Bool}{i:Nat}{x:Str}(hu:X.A.units+60<cLine)(hN:X.N[i]?=some x)(hv:Vis X.env.scope x)(hd:(x==("__debug__":Str))=false)(hcd:(x==("__classdict__":Str))=false)(ha:PE X a (tEv C ma))(hm:behindInMarks (uc neg) (.Name x p2)=false):
  PE X (.Compare a [uc neg] [.Name x p2] pos) (tEv C (ma >>= fun x=>f7 x >>= fun y=>fb i >>= fun d=>pure (.loc,.bl (inB neg y d.1)))):=by
 rintro pins s σ H Q I ⟨c0,rfl,rfl,ok,h⟩;cases neg with
 |false =>
  refine sr (sT (by omega) ha (bV hN hv hd hcd)) hm pins s c0.σ c0.H Q I (gn ok h fun c y ks us r kvs hσ okc n h1 h2 w=>?_);rw[ah]at w;refine⟨r,_,rfl,da.k (k:=Sum.inr y) h1,?_⟩;rw[h2];exact w c (.bl _) hσ rfl okc n rfl
 |true =>
  refine sr (kC (by omega) ha (bV hN hv hd hcd)) hm pins s c0.σ c0.H Q I (gn ok h fun c y ks us r kvs hσ okc n h1 h2 w=>?_);rw[ah]at w;refine⟨r,_,rfl,da.k (k:=Sum.inr y) h1,?_⟩;rw[h2];exact w c (.bl _) hσ rfl okc n rfl
theorem y4{i:Nat}{x:Str}{pos':Pos}(hns:∀j,ns j=true->j≠i)(hN:X.N.Nodup)(hi:X.N[i]?=some x)(hx:Loc X.env.scope x)(hf:X.fn x=true\/X.env.scope.names.lookup x=some .local)
  (hs:swapsWith (.Dict [] [] p) (some (.Name x pos')) pos.line X.env=pure false):L2.PS X (.Assign [.Name x pos'] (.Dict [] [] p) pos) (tEx C ns (xj i >>= fun _=>pure .nx)):=by
 rintro pins s σ H D I ⟨c0,rfl,rfl,ok,h⟩;have hil:i<c0.σ.length:=by rw[I.len];exact(List.getElem?_eq_some_iff.mp hi).1
 refine sD hN hi hx mR hs hf pins s c0.σ c0.H D I fun q hq=>?_;obtain⟨ok',n'⟩:=ok.newD hq hil;rw[ab]at h;obtain⟨_,st',e,w⟩:=h;cases e;rw[ah]at w;exact w _ rfl ok' n' ⟨fun j hj=>List.getElem?_set_ne (Ne.symm (hns j hj)),by simp⟩
end
end TM
namespace TM
open PySem L2 PyProof.Rows
section
variable{X:Cx}{C:Ct}{pins:List (Addr×Obj)}{s:Shared}{c0 c c1:Cf}
variable{a b d e o:Expr}{es:List Expr}{m ma mb md me:M (Kd×U)}{pos p p2 apos cpos:Pos}{ns:Nat->Bool}
theorem wu{neg:Bool}{i:Nat}{x:Str}(hu:X.A.units+60<cLine)(hN:X.N[i]?=some x)(hv:Vis X.env.scope x)(hd:(x==("__debug__":Str))=false)(hcd:(x==("__classdict__":Str))=false)(ha:PE X a (tEv C ma))(hm:behindInMarks (uc neg) (.Name x p2)=false):
  PT X (.Compare a [uc neg] [.Name x p2] pos) (tTs C (ma >>= fun x=>f7 x >>= fun y=>fb i >>= fun d=>pure (inB neg y d.1))):=by
 rintro pins s σ H Q I ⟨c0,rfl,rfl,ok,h⟩;cases neg with
 |false =>
  refine su (sT (by omega) ha (bV hN hv hd hcd)) hm pins s c0.σ c0.H Q I (gn (Z:=fun y x H2=>∃a o,x=V.ref a/\da H2 a y o/\∃b,V.bl o.isSome=.bl b/\Q b H2) ok h fun c y ks us r kvs hσ okc n h1 h2 w=>?_);rw[ah]at w;refine⟨r,_,rfl,da.k (k:=Sum.inr y) h1,?_⟩;rw[h2];exact⟨_,rfl,w c hσ rfl okc n⟩
 |true =>
  refine su (kC (by omega) ha (bV hN hv hd hcd)) hm pins s c0.σ c0.H Q I (gn (Z:=fun y x H2=>∃a o,x=V.ref a/\da H2 a y o/\∃b,V.bl (!o.isSome)=.bl b/\Q b H2) ok h fun c y ks us r kvs hσ okc n h1 h2 w=>?_);rw[ah]at w;refine⟨r,_,rfl,da.k (k:=Sum.inr y) h1,?_⟩;rw[h2];exact⟨_,rfl,w c hσ rfl okc n⟩
theorem cB.snoc{S:Addr->Prop}{H:Hp}{a:Addr}{ys:List U}{vs:List V}(h1:H a=some (.lst vs))(h2:ai C S H ys vs):∀{us:List U}{as:List Addr},cB C S H us as->cB C S H (us++[.lst ys]) (as++[a])
 |[],as,h=>by cases h;exact⟨a,[],ys,vs,rfl,rfl,h1,h2,rfl⟩
 |u::us,as,h=>by
  obtain⟨a',as',ys',vs',rfl,e,g1,g2,g3⟩:=h;exact⟨a',as'++[a],ys',vs',rfl,e,g1,g2,cB.snoc h1 h2 g3⟩
theorem oV{i:Nat}{y:Str}{r:Kd×U}{st:ag}{Q:Unit->ag->Prop}(h:W (jw i y r) st Q):∃us ks vs,r=(.own,.lst us)/\st[i]?=some (some (.ownD,.dic ks vs))/\y∉ks/\ks.length<sizeLine/\Q () (st.set i (some (.ownD,.dic (ks++[y]) (vs++[.lst us])))):=by
 obtain⟨k,u⟩:=r;cases k<;>cases u<;>first|exact(av.mp h).elim|skip
 rename_i us;obtain⟨_,st',e,q⟩:=h;unfold jw at e
 dsimp only at e
 split at e
 ·rename_i ks vs hs;split at e
  ·rename_i hz;cases e;exact⟨us,ks,vs,rfl,hs,hz.1,hz.2,q⟩
  ·cases e
 ·cases e
theorem y6{i:Nat}{x:Str}{px:Pos}(hu:X.A.units+60<cLine)(hN:X.N[i]?=some x)(hv:Vis X.env.scope x)(hd:(x==("__debug__":Str))=false)(hcd:(x==("__classdict__":Str))=false)
  (ha:PE X a (tEv C ma)) (hb:PE X b (tEv C mb)) (hs:swapsWithSole [.Subscript (.Name x px) b p] a pos.line X.env=pure false) (hw2:swappedStores [.Subscript (.Name x px) b p] a X.env=pure none)
  (has:∀v,assign (.Subscript (.Name x px) b p) X.env v=(do
   let ov <-holding [v] (eval (.Name x px) X.env)
   let iv <-holding [v,ov] (eval b X.env)
   standAt p
   holding [v,ov,iv] (setItem ov iv v)
   release [v,ov,iv] [])) :
  L2.PS X (.Assign [.Subscript (.Name x px) b p] a pos) (tEx C ns (ma >>= fun r=>fb i >>= fun _=>mb >>= fun x=>f7 x >>= fun y=>jw i y r >>= fun _=>pure .nx)):=by
 refine PS.weak (oe ha (sC (bV hN hv hd hcd) hb (set_dict (X:=X) (by omega)) has) hs hw2 rfl) ?_;rintro D σ H ⟨c0,rfl,rfl,ok,h⟩;refine aB ok h fun r c v t w=>?_;rw[ab]at w;obtain⟨ks0,us0,hs0,w⟩:=eX w;obtain⟨r0,kvs0,e0,g0,_⟩:=t.ok.dic hs0;refine⟨.ref r0,by rw[<-t.hσ];exact e0,?_⟩;rw[ab]at w;refine⟨c,t.hσ,rfl,t.ok,w.mono fun y st2 w2 c2 vy e3 e4 ok2 n2 r2=>?_⟩;subst e4;rw[ab]at w2;obtain⟨ky,uy⟩:=y;obtain⟨y,ey,w3⟩:=eY w2
 dsimp only at ey r2
 subst ey;have ev:vy=.str y:=r2.str ok2;subst ev;rw[ab]at w3;obtain⟨us,ks,vs,er,hs1,hny,hlen,q⟩:=oV w3;subst er;rw[ah]at q;obtain⟨r1,kvs,f1,g1,g2,g3,g4,g5,g6,_⟩:=ok2.dic hs1;have er:r1=r0:=by rw[e3,<-t.hσ,e0]at f1;cases f1;rfl
 subst er;obtain⟨r',rfl,k1,k2,k3,vs',k4,k5⟩:=t.rx.w.on t.ok n2.toNs (e3.trans t.hσ.symm);have n02:=t.nx.trans n2;have hl:kvs.length=ks.length:=by have:=congrArg List.length g2;simpa using this
 have hnone:cF kvs (Sum.inr y)=none:=by
  have:=g6 y;rw[decide_eq_false hny]at this;cases hq:cF kvs (Sum.inr y) with
  |none=>rfl
  |some _=>rw[hq]at this;cases this
 refine⟨r1,_,rfl,rg.k (k:=Sum.inr y) g1 (by rw[hl];exact hlen),?_⟩;rw[sQ _ hnone];have hrk:r'∉c2.kid i:=fun z=>k3 (.inr ⟨i,_,_,hs1,f1,.inr z⟩);have hrr:r'≠r1:=fun z=>k3 (.inr ⟨i,_,_,hs1,f1,.inl z⟩);have rd:=ok2.dd.kd i _ _ hs1 f1;have fr:=bP.fr rd;obtain⟨ok3,n3⟩:=Ok.Ay (H':=upd c2.H r1 (.dK (kvs++[(Sum.inr y,.ref r')]))) (u':=.dic (ks++[y]) (vs++[.lst us])) (as':=c2.kid i++[r']) ok2 n02.toNs hs1 f1
  (fun a ne=>ak fun z=>ne ⟨_,_,hs1,f1,.inl z⟩) (fun a o e=>by
   by_cases hz:a=r1
   ·subst hz;exact⟨_,ar⟩
   ·rw[ak hz];exact⟨o,e⟩)
  (fun mv=>by
   refine⟨_,ar,by rw[List.map_append,g2,List.map_append];rfl,by rw[List.map_append,g3,List.map_append];rfl,?_,fun a ha=>?_,?_⟩
   ·rw[<-List.cons_append,List.nodup_append];exact⟨g4,by simp,fun a ha b hb=>by
     have:b=r':=by simpa using hb
     subst this;rintro rfl;rcases List.mem_cons.mp ha with z|z
     ·exact hrr z
     ·exact hrk z⟩
   ·rw[<-List.cons_append]at ha;rcases List.mem_append.mp ha with ha|ha
    ·exact fr a ha
    ·have:a=r':=by simpa using ha
     subst this;obtain⟨z1,_,z3,_⟩:=ok.j_ k1;exact⟨k2,z3,z1⟩
   ·exact cB.snoc (by rw[ak hrr];exact k4) (k5.mv mv) (cB.mv mv (fun a ha o e=>by
     rw[ak (fun z=>(List.nodup_cons.mp g4).1 (by rw[<-z];exact ha))];exact e) g5))
  (fun a ha=>by
   rcases List.mem_append.mp ha with ha|ha
   ·exact .inl ha
   ·have:a=r':=by simpa using ha
    subst this;exact .inr ⟨k3,k1⟩)
 have z:=q _ rfl ok3 n3 (Kept.of e3);rw[<-e3];exact z
theorem cB.at{S:Addr->Prop}{H:Hp}{y:Str}:∀{ks:List Str}{us:List U}{as:List Addr}{kvs:List (Key×V)}{u:U},kvs.map (·.1)=ks.map Sum.inr->kvs.map (·.2)=as.map V.ref->as.Nodup->cB C S H us as->cU ks us y=some u ->
  ∃a ws ys,cF kvs (Sum.inr y)=some (.ref a)/\a∈as/\u=.lst ys/\H a=some (.lst ws)/\ai C S H ys ws/\∀(H':Hp) (ys':List U) (ws':List V),Mv S H S H'->H' a=some (.lst ws')->ai C S H' ys' ws'->(∀b∈as,b≠a->H' b=H b)->cB C S H' (iD ks us y (.lst ys')) as
 |[],us,as,kvs,u,_,_,_,_,h=>by cases us<;>cases h
 |k::ks,[],as,kvs,u,_,_,_,_,h=>by cases h
 |k::ks,u0::us,as,kvs,u,h1,h2,hn,hk,h=>by
  obtain⟨a,as',ys,ws,rfl,rfl,g1,g2,g3⟩:=hk;cases kvs with
  |nil=>simp at h1
  |cons p kvs =>
   rw[List.map_cons,List.map_cons,List.cons.injEq]at h1 h2;rw[List.nodup_cons]at hn;by_cases hy:k=y
   ·subst hy;simp only[cU,if_true]at h;cases h;refine⟨a,ws,ys,by rw[dk h1.1,h2.1],by simp,rfl,g1,g2,fun H' ys' ws' mv e1 e2 e3=>?_⟩;simp only[iD,if_true];exact⟨a,as',ys',ws',rfl,rfl,e1,e2,cB.mv mv (fun b hb o e=>by rw[e3 b (by simp[hb]) (fun z=>hn.1 (z▸hb))];exact e) g3⟩
   ·simp only[cU,if_neg hy]at h;obtain⟨a1,ws1,ys1,f1,f2,f3,f4,f5,f6⟩:=cB.at h1.2 h2.2 hn.2 g3 h;refine⟨a1,ws1,ys1,?_,by simp[f2],f3,f4,f5,fun H' ys' ws' mv e1 e2 e3=>?_⟩
    ·rw[dm (by rw[h1.1];intro z;exact hy (Sum.inr.inj z))];exact f1
    ·simp only[iD,if_neg hy];have ha:a≠a1:=fun z=>hn.1 (z▸f2);exact⟨a,as',ys,ws,rfl,rfl,by rw[e3 a (by simp) ha];exact g1,g2.mv mv,f6 H' ys' ws' mv e1 e2 fun b hb=>e3 b (by simp[hb])⟩
theorem oW{i:Nat}{y:Str}{u:U}{st:ag}{Q:Unit->ag->Prop}(h:W (jx i y u) st Q):∃ks vs xs,st[i]?=some (some (.ownD,.dic ks vs))/\cU ks vs y=some (.lst xs)/\xs.length<sizeLine/\Q () (st.set i (some (.ownD,.dic ks (iD ks vs y (.lst (xs++[u])))))):=by
 obtain⟨_,st',e,q⟩:=h;unfold jx at e;split at e
 ·rename_i ks vs hs;split at e
  ·rename_i xs hx;split at e
   ·rename_i hz;cases e;exact⟨ks,vs,xs,hs,hx,hz,q⟩
   ·cases e
  ·cases e
 ·cases e
theorem y7(hK:C.K=X.K){i:Nat}{x:Str}{px:Pos}(hu:X.A.units+60<cLine)(hN:X.N[i]?=some x)(hv:Vis X.env.scope x)(hd:(x==("__debug__":Str))=false)(hcd:(x==("__classdict__":Str))=false)(ha:PE X a (tEv C ma))(hb:PE X b (tEv C mb))(hsl:yh b)
  (hfew:((backTo cpos (starEach [a] X.env)).all (fun x=>!x.1)&&(backToKw cpos (keywordEach [] X.env)).all (fun x=>x.1.isSome)
   && decide ([a].length+([]:List Keyword).length+(if ([]:List Keyword).isEmpty then 0 else 1)<30))=true)
  (hline:(apos.endLine==cpos.line)=true) (hst:starEach [a] X.env=[(false,eval a X.env)]) :
  L2.PS X (.Expr (.Call (.Attribute (.Subscript (.Name x px) b p) "append" apos) [a] [] cpos) pos) (tEx C ns (fb i >>= fun _=>mb >>= fun x=>f7 x >>= fun y=>fb i >>= fun d=>if y∈d.1 then(ma >>= fun r=>lift r >>= fun u=>jx i y u >>= fun _=>pure .nx) else M.fail)):=by
 refine PS.weak (fJ (sM PySem.F.plainAttrs_list PySem.F.slot_list_append PySem.F.type_list_append kr (vA (by omega) (bV hN hv hd hcd) hb hsl) (eT ha iX hst) rfl hfew hline hst rfl)) ?_;rintro D σ H ⟨c0,rfl,rfl,ok,h⟩;rw[ab]at h;obtain⟨ks0,us0,hs0,h⟩:=eX h;obtain⟨r0,kvs0,e0,g0,_⟩:=ok.dic hs0;refine⟨.ref r0,e0,?_⟩;refine aB ok h fun ry c vy t w=>?_;rw[ab]at w;obtain⟨ky,uy⟩:=ry;obtain⟨y,ey,w1⟩:=eY w
 dsimp only at ey
 subst ey;have ev:vy=.str y:=t.rx.str t.ok;subst ev;rw[ab]at w1;obtain⟨ks,us,hs,w2⟩:=eX w1
 dsimp only at w2
 by_cases hy:y∈ks
 case neg=>rw[if_neg hy]at w2;exact(av.mp w2).elim
 rw[if_pos hy]at w2;obtain⟨r1,kvs,f1,g1,g2,g3,g4,g5,g6,_⟩:=t.ok.dic hs;have er:r1=r0:=by rw[t.hσ,e0]at f1;cases f1;rfl
 subst er;have hsome:=g6 y;rw[decide_eq_true hy]at hsome;obtain⟨v0,hv0⟩:=Option.isSome_iff_exists.mp hsome;have hmem:v0∈(c.kid i).map V.ref:=by
  rw[<-g3];unfold cF at hv0;obtain⟨q,hq,rfl⟩:=Option.map_eq_some_iff.mp hv0;exact List.mem_map_of_mem (List.mem_of_find?_eq_some hq)
 obtain⟨a1,ha1,rfl⟩:=List.mem_map.mp hmem;obtain⟨vs1,hvs1⟩:=g5.mem ha1;refine⟨r1,.ref a1,rfl,by rw[<-hv0];exact da.k (k:=Sum.inr y) g1,Or.inl ⟨rfl,vs1,.inl (.inl hvs1)⟩,?_⟩;rw[<-t.hσ];refine aB t.ok w2 fun r c' v t' w3=>?_;rw[ab]at w3;obtain⟨S',st',u,sS,ok1,n1,rep1,w4,_,_⟩:=gb t.ok t'.ok t'.nx t'.rx.w w3;rw[ab]at w4;obtain⟨ks',vs',xs,hs',hx,hz,q⟩:=oW w4;rw[ah]at q;obtain⟨r2,kvs',k1,k2,k3,k4,k5,k6,_,_⟩:=ok1.dic hs';have k1':c'.σ[i]?=some (some (.ref r2)):=k1;have er:r2=r1:=by rw[t'.hσ,t.hσ,e0]at k1';cases k1';rfl
 subst er;have k2':c'.H r2=some (.dK kvs'):=k2;have ekv:kvs'=kvs:=by have:=t'.nx.all _ _ g1;rw[k2']at this;cases this;rfl
 subst ekv;have nd:=(List.nodup_cons.mp k5).2;obtain⟨a2,ws,ys,l1,l2,l3,l4,l5,l6⟩:=cB.at k3 k4 nd k6 hx;cases l3;rw[hv0]at l1;cases l1;have l4':c'.H a1=some (.lst ws):=l4;refine⟨a1,ws,v,rfl,rfl,l4',by rw[<-l5.len];exact hz,?_⟩;have hne:a1≠r2:=fun z=>(List.nodup_cons.mp k5).1 (z▸l2);obtain⟨ok2,n2⟩:=Ok.Ay (c:={c' with S:=S',st:=st' }) (H':=upd c'.H a1 (.lst (ws++[v]))) (u':=.dic ks' (iD ks' vs' y (.lst (xs++[u])))) (as':=c'.kid i) ok1 (t.nx.trans n1).toNs hs' k1
  (fun a ne=>ak fun z=>ne ⟨_,_,hs',k1,.inr (z▸l2)⟩) (fun a o e=>by
   by_cases hz:a=a1
   ·subst hz;exact⟨_,ar⟩
   ·rw[ak hz];exact⟨o,e⟩)
  (fun mv=>⟨kvs',by rw[ak (Ne.symm hne)];exact k2,k3,k4,k5,bP.fr (ok1.dd.kd i _ _ hs' k1),l6 _ _ _ mv ar ((l5.mv mv).snoc (rep1.mv mv)) fun b _ ne=>ak ne⟩)
  (fun a ha=>.inl ha)
 have z:=q _ rfl ok2 n2 (Kept.of (t'.hσ.trans t.hσ));rw[<-t'.hσ];exact z
end
end TM
namespace TM
open PySem L2 PyProof.Rows
section
variable{X:Cx}{C:Ct}{pins:List (Addr×Obj)}{s:Shared}{c0 c c1:Cf}
variable{a b d e o:Expr}{es:List Expr}{m ma mb md me:M (Kd×U)}{pos p p2 apos cpos:Pos}{ns:Nat->Bool}
theorem ud{u:U}{st:ag}{Q:Unit->ag->Prop}(h:W (isD u) st Q):∃ks us,u=.dic ks us/\Q () st:=by
 cases u<;>first|exact(av.mp h).elim|skip
 exact⟨_,_,rfl,ah.mp h⟩
theorem kL{x:Kd×U}{st:ag}{Q:Int->ag->Prop}(h:W (rJ x) st Q):∃j,x.2=.int j/\Q j st:=by
 unfold rJ at h;split at h
 ·rename_i y e;rw[ah]at h;exact⟨y,e,h⟩
 ·exact(av.mp h).elim
theorem kM{i:Nat}{st:ag}{Q:List U->ag->Prop}(h:W (nj i) st Q):∃k us,k.root=true/\st[i]?=some (some (k,.lst us))/\Q us st:=by
 obtain⟨r,st',e,q⟩:=h;unfold nj at e;split at e
 ·rename_i k us hs;split at e
  ·rename_i hk;cases e;exact⟨k,_,hk,hs,q⟩
  ·cases e
 ·cases e
theorem ny{y:Str}:∀{ks:List Str}{us:List U},y∈ks->ks.length=us.length->cU ks us y=none->False
 |[],us,h,_,_=>by cases h
 |k::ks,[],_,h,_=>by simp at h
 |k::ks,u::us,h,hl,e=>by
  by_cases hk:k=y
  ·simp[cU,hk]at e
  ·simp only[cU,if_neg hk]at e;rcases List.mem_cons.mp h with h|h
   ·exact hk h.symm
   ·exact ny h (by simpa using hl) e
theorem ue{i:Nat}{x:Str}{px:Pos}(hu:X.A.units+60<cLine)(hN:X.N[i]?=some x)(hv:Vis X.env.scope x)(hd:(x==("__debug__":Str))=false)(hcd:(x==("__classdict__":Str))=false)
  (ha:PE X a (tEv C ma)) (hb:PE X b (tEv C mb)) (hm:M2 X (.Name x px) "get" apos a b cpos) :
  PE X (.Call (.Attribute (.Name x px) "get" apos) [a,b] [] cpos) (tEv C (cZ i >>= fun x=>isD x.2 >>= fun _=>ma >>= fun y=>f7 y >>= fun y=>mb >>= fun z=>lift z >>= fun u=>cZ i >>= fun x=>M.ofO (vR x y u))):=by
 rintro pins s σ H Q I ⟨c0,rfl,rfl,ok,h⟩;refine sV (by omega) (bV hN hv hd hcd) ha hb hm pins s c0.σ c0.H Q I ?_;rw[ab]at h;obtain⟨k0,u0,hn0,hs0,h⟩:=cQ h;obtain⟨v0,e0,t0⟩:=ok.slot hn0 hs0;rw[ab]at h;obtain⟨ks0,us0,eu0,h'⟩:=ud h
 dsimp only at eu0
 subst eu0;obtain⟨a0,kvs0,rfl,g0,_⟩:=t0.dict ok;refine⟨.ref a0,e0,a0,rfl,.inl ⟨kvs0,.inl g0⟩,?_⟩;refine aB ok h' fun ry c vy t w=>?_;rw[ab]at w;obtain⟨ky,uy⟩:=ry;obtain⟨y,ey,w1⟩:=eY w
 dsimp only at ey
 subst ey;have ev:vy=.str y:=t.rx.str t.ok;subst ev;rw[<-t.hσ];refine aB t.ok w1 fun z c2 vz t2 w2=>?_;rw[ab]at w2;obtain⟨S',st',u,sS,ok1,n1,rep1,w4,_,_⟩:=gb t.ok t2.ok t2.nx t2.rx.w w2;rw[ab]at w4;obtain⟨k,u1,hn1,hs1,w5⟩:=cQ w4;obtain⟨r,er,q⟩:=bT.mp w5;obtain⟨v1,e1,t1⟩:=ok1.slot hn1 hs1;have e1':c2.σ[i]?=some (some v1):=e1;rw[t2.hσ,t.hσ,e0]at e1';cases e1';cases u1<;>first|(simp only[vR]at er;cases er;done)|skip
 rename_i ks us;obtain⟨a1,kvs,ea,g1,g2,g3⟩:=t1.dict ok1;cases ea;have g1':c2.H a0=some (.dK kvs):=g1;refine⟨_,da.k (k:=Sum.inr y) g1',?_⟩;simp only[vR]at er;obtain⟨l1,l2⟩:=cP (x:=y) g2 g3;have fin:∀v:V,aA C c0 {c2 with S:=S',st:=st' } r.1 r.2 v->Q v c2.H:=fun v z=>q {c2 with S:=S',st:=st' } v (t2.hσ.trans t.hσ) rfl ok1 (t.nx.trans n1) z;cases hg:cU ks us y with
 |some w =>
  rw[hg]at er;cases er;obtain⟨v,ev,rv⟩:=l1 w hg;rw[ev];refine fin v ?_;exact aA.item (k:=if k.root=true then .bor i else k) rv
 |none =>
  rw[hg]at er;cases er;have hnone:cF kvs (Sum.inr y)=none:=by
   cases hq:cF kvs (Sum.inr y) with
   |none=>rfl
   |some v =>
    exfalso
    rw[hq]at l2;have hy:y∈ks:=by simpa using l2.symm
    have hlen:ks.length=us.length:=by have h1:=congrArg List.length g2;have h2:=g3.len;simp at h1 h2;omega
    exact ny hy hlen hg
  rw[hnone];exact fin vz rep1
theorem uf:zJ X (fun o i H Q=>∃p xs j v,o=.ref p/\i=.int j/\H p=some (.lst xs)/\0<=j/\xs[j.toNat]?=some v/\Q v H):=by
 rintro pins s σ H o i ov iv Q I ro ri ⟨p,xs,j,v,rfl,rfl,hp,h0,hv,q⟩;cases ro;obtain⟨t,rfl⟩:=ri;obtain⟨its,r,pl,hz⟩:=I.list (.inl (.inl hp));obtain⟨w,ew,rw'⟩:=r.get hv;have hl:=r.length;have hn:=eh;have hlt:=(List.getElem?_eq_some_iff.mp hv).1;exact wpAny_getItem_list pl.isList h0 (by omega) (by simpa using ew) ⟨v,H,I,rw',q⟩
theorem wx{sub:Bool}:PIp X (if sub=true then .Sub else .Add) (ipI (rK sub)):=by
 cases sub with
 |true=>exact xT
 |false=>exact xS
theorem Az{i:Nat}{x:Str}{px:Pos}{sub:Bool}(hN:X.N[i]?=some x)(hv:Vis X.env.scope x)(hd:(x==("__debug__":Str))=false)(hcd:(x==("__classdict__":Str))=false)
  (ha:PE X a (tEv C ma)) (hb:PE X b (tEv C mb))
  (has:∀ov iv new,augStore b ov iv new=(do holding [new,ov,iv] (setItem ov iv new);release [new,ov,iv] [];pure .next)) :
  L2.PS X (.AugAssign (.Subscript (.Name x px) b p) (if sub=true then .Sub else .Add) a pos) (tEx C ns (nj i >>= fun _=>mb >>= fun y=>rJ y >>= fun j=>nj i >>= fun us=>M.ofO (nq us j) >>= fun o=>ma >>= fun z=>rJ z >>= fun w=>modS i (du (.int j) (.int (rK sub o w))) >>= fun _=>pure .nx)):=by
 refine PS.weak (u_ (bV hN hv hd hcd) hb uf ha wx set_list has) ?_;rintro D σ H ⟨c0,rfl,rfl,ok,h⟩;rw[ab]at h;obtain⟨k0,us0,hk0,hs0,h⟩:=kM h;obtain⟨v0,e0,sl0⟩:=ok.sl i _ _ hs0;obtain⟨a0,rfl,_,_,_,_⟩:=sl0.rt hk0;refine⟨.ref a0,e0,?_⟩;refine aB ok h fun ry c vy t w=>?_;rw[ab]at w;obtain⟨ky,uy⟩:=ry;obtain⟨j,ey,w1⟩:=kL w
 dsimp only at ey
 subst ey;have ev:vy=.int j:=t.rx.int t.ok;subst ev;rw[ab]at w1;obtain⟨k1,us1,hk1,hs1,w2⟩:=kM w1;rw[ab]at w2;obtain⟨o,ho,w3⟩:=bT.mp w2;obtain⟨v1,e1,sl1⟩:=t.ok.sl i _ _ hs1;obtain⟨a1,rfl,_,_,_,root1⟩:=sl1.rt hk1;rw[t.hσ,e0]at e1;cases e1;obtain⟨vs,g1,g2⟩:=root1;unfold nq at ho;split at ho
 case isFalse=>cases ho
 rename_i hj0;split at ho
 case h_2=>cases ho
 rename_i o' hget;cases ho;obtain⟨vo,hvo,rvo⟩:=g2.get hget;have ero:vo=.int o:=rvo;subst ero;refine⟨a0,vs,j,_,rfl,rfl,g1,hj0,hvo,?_⟩;rw[<-t.hσ];refine aB t.ok w3 fun z c2 vz t2 w4=>?_;rw[ab]at w4;obtain⟨kz,uz⟩:=z;obtain⟨w,ez,w5⟩:=kL w4
 dsimp only at ez
 subst ez;have ev:vz=.int w:=t2.rx.int t2.ok;subst ev;refine⟨o,w,rfl,rfl,?_⟩;rw[ab]at w5;obtain⟨k,u1,u2,hk,hs2,hf,q⟩:=dw w5;rw[ah]at q;obtain⟨v2,e2,sl2⟩:=t2.ok.sl i _ _ hs2;obtain⟨a2,rfl,_,_,_,root2⟩:=sl2.rt hk;have e2s:=e2;rw[t2.hσ,t.hσ,e0]at e2;cases e2;have g1':c2.H a0=some (.lst vs):=t2.nx.all _ _ g1;cases u1 with
 |lst xs =>
  simp only[du,Option.map_eq_some_iff]at hf;obtain⟨j',hj',rfl⟩:=hf;obtain⟨vs2,l1,l2⟩:=root2;rw[g1']at l1;cases l1;refine⟨a0,vs,j,j',rfl,rfl,g1',by rw[<-l2.len];exact hj',?_⟩;obtain⟨ok3,n3⟩:=Ok.mod (c:=c2) (H':=upd c2.H a0 (.lst (vs.set j' (.int (rK sub o w))))) (u':=.lst (xs.set j' (.int (rK sub o w)))) t2.ok (t.nx.trans t2.nx).toNs hk hs2 e2s (fun a ne=>ak ne) ⟨_,ar⟩ fun mv=>⟨_,ar,(l2.mv mv).set j' rfl⟩
  have z:=q _ rfl ok3 n3 (Kept.of (t2.hσ.trans t.hσ));rw[<-t2.hσ];exact z
 |dic ks vs=>simp[du]at hf
 |rdc ks=>simp[du,rowOf]at hf
 |_=>simp[du]at hf
theorem AA{i:Nat}{x:Str}{px:Pos}(hN:X.N[i]?=some x)(hv:Vis X.env.scope x)(hd:(x==("__debug__":Str))=false)(hcd:(x==("__classdict__":Str))=false)(hline:(apos.endLine==cpos.line)=true):
  L2.PS X (.Expr (.Call (.Attribute (.Name x px) "reverse" apos) [] [] cpos) pos) (tEx C ns (modS i yC >>= fun _=>pure .nx)):=by
 refine PS.weak (fJ (ya PySem.F.plainAttrs_list PySem.F.slot_list_reverse PySem.F.type_list_reverse ou (bV hN hv hd hcd) rfl hline)) ?_;rintro D σ H ⟨c0,rfl,rfl,ok,h⟩;rw[ab]at h;obtain⟨k,u1,u2,hk,hs2,hf,q⟩:=dw h;rw[ah]at q;obtain⟨v2,e2,sl2⟩:=ok.sl i _ _ hs2;obtain⟨a0,rfl,_,_,_,root2⟩:=sl2.rt hk;refine⟨.ref a0,e2,?_⟩;cases u1 with
 |lst xs =>
  simp only[yC]at hf;cases hf;obtain⟨vs,l1,l2⟩:=root2;refine⟨Or.inl ⟨rfl,vs,.inl (.inl l1)⟩,a0,vs,rfl,rfl,l1,?_⟩;obtain⟨ok3,n3⟩:=Ok.mod (c:=c0) (H':=upd c0.H a0 (.lst vs.reverse)) (u':=.lst xs.reverse) ok (Ns.refl c0) hk hs2 e2 (fun a ne=>ak ne) ⟨_,ar⟩ fun mv=>⟨_,ar,(l2.mv mv).rev⟩
  exact q _ rfl ok3 n3 Kept.refl
 |_=>cases hf
end
end TM
namespace TM
open PySem L2 PyProof.Rows
section
variable{X:Cx}{C:Ct}{pins:List (Addr×Obj)}{s:Shared}{c0 c c1:Cf}
theorem wy{kvs:List (Key×V)}{ks:List Str}{ns:List Int}(h1:kvs.map (·.1)=ks.map Sum.inr)(h2:kvs.map (·.2)=ns.map V.int):kvs=(ks.zip ns).map fun p=>((Sum.inr p.1:Key),V.int p.2):=by
 induction kvs generalizing ks ns with
 |nil =>
  cases ks with
  |nil=>rfl
  |cons _ _=>cases h1
 |cons kv kvs ih =>
  cases ks with
  |nil=>cases h1
  |cons k ks =>
   cases ns with
   |nil=>cases h2
   |cons n ns =>
    obtain⟨a,b⟩:=kv;simp only[List.map_cons,List.cons.injEq]at h1 h2;obtain⟨rfl,h1⟩:=h1;obtain⟨rfl,h2⟩:=h2;rw[ih h1 h2];rfl
theorem ai.of_map{S:Addr->Prop}{H:Hp}{α:Type}{f:α->U}{g:α->V}:∀{l:List α},(∀x∈l,Rep C S H (f x) (g x))->ai C S H (l.map f) (l.map g)
 |[],_=>rfl
 |x::l,h=>⟨g x,l.map g,rfl,h x (by simp),ai.of_map fun y hy=>h y (by simp[hy])⟩
theorem wz{i:Nat}{x:Str}{p px apos cpos pos:Pos}(hc:X.calm=true)(hK:C.K=X.K)(hg:Gl X "sorted")(hm:X.mg "sorted"=none)(hN:X.N[i]?=some x)(hv:Vis X.env.scope x)(hd:(x==("__debug__":Str))=false)(hcd:(x==("__classdict__":Str))=false)(hline:(apos.endLine==cpos.line)=true):
  PE X (.Call (.Name "sorted" p) [.Call (.Attribute (.Name x px) "items" apos) [] [] cpos] [] pos) (tEv C (cZ i >>= fun x=>M.ofO (tL x.2))):=by
 rintro pins s σ H Q I ⟨c0,rfl,rfl,ok,h⟩;refine wpAny_Call_Name_kw (dz I hg hm (show bootBuiltins "sorted"=some (.builtin "sorted") by decide +kernel) ?_ (by decide +kernel) (by decide +kernel));rw[ab]at h;obtain⟨k0,u0,hn0,hs0,h⟩:=cQ h;obtain⟨v0,e0,t0⟩:=ok.slot hn0 hs0;obtain⟨r,er,want⟩:=bT.mp h
 dsimp only at er
 unfold tL at er;split at er
 rotate_left
 ·cases er
 rename_i ks us;rw[Option.bind_eq_some_iff]at er;obtain⟨ns,en,er⟩:=er;split at er
 rotate_left
 ·cases er
 rename_i hcnd;cases er;obtain⟨h64,hnd,hlen⟩:=hcnd;obtain⟨d,kvs,rfl,hd0,hk0,hr0⟩:=t0.dict ok;rw[eI en]at hr0;have ekv:=wy hk0 (ai.ints hr0);subst ekv;have ek:((ks.zip ns).map (·.1))=ks:=List.map_fst_zip (by omega);have inner:wpAny (model X.prog X.w) X.A (eval (.Call (.Attribute (.Name x px) "items" apos) [] [] cpos) X.env) (fun v s1=>wpAny (model X.prog X.w) X.A (call (.builtin "sorted") [v]) (EP X pins c0.σ Q) X.xe s1) X.xe s:=by
  refine wpAny_Call_method0_late rfl hline (thn (bV hN hv hd hcd pins s c0.σ c0.H (fun v H1=>v=.ref d/\H1=c0.H) I ⟨_,e0,rfl,rfl⟩) fun v s1 ⟨x1,H1,I1,r1,z1,z2⟩=>?_);subst z1 z2;cases(show v=Value.ref d from r1);obtain⟨h1,h2⟩:=lz (T:="dict") I1 (x:=.ref d) rfl (.inr (.inr (.inl ⟨rfl,.inl ⟨_,hd0⟩⟩)));refine⟨"dict","dict.items",PySem.F.plainAttrs_dict,PySem.F.slot_dict_items,PySem.F.type_dict_items,h1,h2,Calls.callWith_builtin rfl (PySem.evalArgs_none (lN hc I1 hd0 (by rw[ek];exact hnd) (by rw[List.length_zip];omega) fun as L hl nd hno hL=>?_))⟩;have hLn:c0.H L=none:=hno L (by simp);have hzl:(as.zip ((ks.zip ns).map prV)).map (·.1)=as:=List.map_fst_zip (by rw[List.length_map];omega);have hzm:∀p∈as.zip ((ks.zip ns).map prV),p.1∈as:=fun p hp=>(List.of_mem_zip hp).1;have same:ye c0.H (upd (iz c0.H (as.zip ((ks.zip ns).map prV))) L (.lst ((iw ((ks.zip ns).map (·.1))).map fun i=>V.ref (as.getD i 0)))):=fun a o e=>by
   have n1:a≠L:=fun y=>by rw[y,hLn]at e;cases e
   rw[ak n1,js fun p hp y=>?_]
   ·exact e
   ·have:=hno p.1 (by simp[hzm p hp]);rw[y,e]at this;cases this
  obtain⟨ok',n'⟩:=ok.grow (S':=c0.S) same (fun a z=>.inl z) fun a z=>z;obtain⟨q1,q2,q3,q4,q5⟩:=ok.j_ hLn;refine want {c0 with H:=upd (iz c0.H (as.zip ((ks.zip ns).map prV))) L (.lst ((iw ((ks.zip ns).map (·.1))).map fun i=>V.ref (as.getD i 0))),S:=c0.S} _ rfl rfl ok' n' ⟨L,rfl,hLn,q2,q5,_,ar,?_⟩;show ai C c0.S _ ((vQ (ks.zip ns)).map rH) _;unfold vQ;rw[List.map_map];refine ai.of_map fun j hj=>?_;have hj':j<(ks.zip ns).length:=by
   have:=List.mem_range.mp ((eV _).mem_iff.mp hj);rw[List.length_map]at this;exact this
  have hja:j<as.length:=by omega
  have e1:(ks.zip ns).getD j (Str.empty,0)=(ks.zip ns)[j]:=(List.getElem_eq_getD _).symm;have e2:as.getD j 0=as[j]:=by simp[List.getD,hja]
  show Rep C c0.S _ (rH ((ks.zip ns).getD j (Str.empty,0))) (V.ref (as.getD j 0));rw[e1,e2];refine⟨as[j],prV (ks.zip ns)[j],rfl,SqT.of ?_,⟨_,_,rfl,rfl,_,_,rfl,rfl,rfl⟩⟩;have hne:as[j]≠L:=fun y=>hL (by rw[<-y];simp);refine(ak hne).trans (qf (by rw[hzl];exact nd) (vs:=prV (ks.zip ns)[j]) ?_);refine List.mem_iff_getElem.mpr ⟨j,by rw[List.length_zip,List.length_map];omega,?_⟩;rw[List.getElem_zip,List.getElem_map]
 have eb:backTo pos (starEach [.Call (.Attribute (.Name x px) "items" apos) [] [] cpos] X.env)=[(false,eval (.Call (.Attribute (.Name x px) "items" apos) [] [] cpos) X.env)]:=rfl;have ek':backToKw pos (keywordEach [] X.env)=[]:=rfl;rw[eb,ek'];exact t5 inner
end
end TM
namespace TM
open PySem L2 PyProof.Rows
structure Ck where
 fns:List Str
 gl:List (Str×U)
noncomputable def gJ:U->U->Bool
 |.int i,.int j=>decide (i=j)
 |.str x,.str y=>decide (x=y)
 |.bl a,.bl b=>a==b
 |.non,.non=>true
 |_,_=>false
theorem b8{u v:U}(h:gJ u v=true):u=v:=by
 cases u<;>cases v<;>simp[gJ]at h<;>subst_vars<;>rfl
noncomputable def noStar:Expr->Bool
 |.Starred _ _=>false
 |_=>true
noncomputable def c8:Expr->Bool
 |.Slice _ _ _ _=>false
 |_=>true
noncomputable def oX:Expr->Bool
 |.Set _ _ _=>false
 |_=>true
noncomputable def lX:Expr->Bool
 |.Call (.Name _ _) [] [] _=>false
 |_=>true
noncomputable def cI:Expr->Bool
 |.ListComp _ _ _ _=>false
 |.SetComp _ _ _ _=>false
 |.DictComp _ _ _ _ _=>false
 |_=>true
noncomputable def y8:Expr->Bool
 |.Tuple _ _ _=>false
 |_=>true
noncomputable def glB(sc:Scope)(x:Str):Bool:=decide (sc.names.lookup x=some .globalImplicit)
noncomputable def gp(sc:Scope)(x:Str):Bool:=decide (sc.names.lookup x=some .local)||decide (sc.names.lookup x=some .cell)||decide (sc.names.lookup x=some .free)
noncomputable def lY(sc:Scope)(x:Str):Bool:=decide (sc.names.lookup x=some .local)||decide (sc.names.lookup x=some .cell)
noncomputable def AB(sc:Scope)(x:Str):Bool:=decide (sc.names.lookup x=some .local)
noncomputable def bQ(x:Str):Bool:=!(x==("__debug__":Str))&&!(x==("__classdict__":Str))
noncomputable def qv(N:List Str)(sc:Scope)(fa:Bool)(i:Nat):Expr->Bool
 |.Name x _=>decide (N[i]?=some x)&&lY sc x&&(fa||AB sc x)
 |_=>false
noncomputable def lZ(N:List Str)(sc:Scope)(fa:Bool):List Nat->List Expr->Bool
 |[],[]=>true
 |i::is,e::es=>qv N sc fa i e&&lZ N sc fa is es
 |_,_=>false
noncomputable def fk:Expr->List Str
 |.Name x _=>[x]
 |.Tuple es _ _=>es.filterMap fun|.Name x _=>some x|_=>none
 |_=>[]
noncomputable def hide(own N:List Str):List Str:=match own.filter fun x=>decide (x∈N) with
 |[]=>N
 |[x]=>N.set (N.idxOf x) "."
 |x::y::_=>(N.set (N.idxOf x) ".").set (N.idxOf y) ".."
noncomputable def tgB(t:Bool)(N:List Str)(sc:Scope)(fa:Bool)(is:List Nat):Expr->Bool
 |.Name x p=>!t&&(match is with|[i]=>qv N sc fa i (.Name x p)|_=>false)
 |.Tuple es _ _=>t&&lZ N sc fa is es&&is.all fun i=>decide (i<N.length)
 |_=>false
noncomputable def isTup:Expr->Bool
 |.Tuple _ _ _=>true
 |_=>false
noncomputable def l0(e:Expr):Option (Str×List Expr):=match e with
 |.Call f as kw _=>match f with
  |.Name x _=>if kw.isEmpty=true then some (x,as) else none
  |_=>none
 |_=>none
theorem hV{e:Expr}{x:Str}{as:List Expr}(h:l0 e=some (x,as)):∃p q,e=.Call (.Name x p) as [] q:=by
 unfold l0 at h;split at h
 ·split at h
  ·split at h
   ·rename_i hk;rw[List.isEmpty_iff]at hk;cases h;subst hk;exact⟨_,_,rfl⟩
   ·cases h
  ·cases h
 ·cases h
noncomputable def eL(sc:Scope)(tg:Expr)(ik:Ik)(e:Expr):Option (List Expr):=match ik with
 |.seq=>some [e]
 |.rng1=>(l0 e).bind fun p=>if p.1="range"/\glB sc p.1=true/\p.2.length=1 then some p.2 else none
 |.enm=>(l0 e).bind fun p=>if p.1="enumerate"/\glB sc p.1=true/\p.2.length=1/\isTup tg=true then some p.2 else none
 |_=>none
noncomputable def simple:Bf->Bool:=fun _=>true
noncomputable def y9(scope sc:Scope):Scope:={scope with names:=scope.names.map fun(n,k)=>if (k==NameKind.free&&sc.kind==.function&&sc.names.lookup n==some .cell)=true then(n,.cell) else(n,k)}
noncomputable def bq(e:Expr)(k:Str->Bool):Bool:=match e with|.Name x _=>k x|_=>false
theorem ao{e:Expr}{k:Str->Bool}(h:bq e k=true):∃x p,e=.Name x p/\k x=true:=by
 unfold bq at h;split at h
 ·exact⟨_,_,rfl,h⟩
 ·cases h
noncomputable def fm{α:Type}(l:List α)(k:α->Bool):Bool:=match l with|[a]=>k a|_=>false
theorem br{α:Type}{l:List α}{k:α->Bool}(h:fm l k=true):∃a,l=[a]/\k a=true:=by
 unfold fm at h;split at h
 ·exact⟨_,rfl,h⟩
 ·cases h
noncomputable def dM(e:Expr)(k:Expr->List Expr->Pos->Bool):Bool:=match e with|.Call f as kw p=>kw.isEmpty&&k f as p|_=>false
theorem aN{e:Expr}{k:Expr->List Expr->Pos->Bool}(h:dM e k=true):∃f as p,e=.Call f as [] p/\k f as p=true:=by
 unfold dM at h;split at h
 ·rename_i f as kw p;rw[Bool.and_eq_true,List.isEmpty_iff]at h;obtain⟨rfl,h⟩:=h;exact⟨_,_,_,rfl,h⟩
 ·cases h
noncomputable def oY(e:Expr)(k:Expr->Str->Pos->Bool):Bool:=match e with|.Attribute o m p=>k o m p|_=>false
theorem nz{e:Expr}{k:Expr->Str->Pos->Bool}(h:oY e k=true):∃o m p,e=.Attribute o m p/\k o m p=true:=by
 unfold oY at h;split at h
 ·exact⟨_,_,_,rfl,h⟩
 ·cases h
noncomputable def qw(e:Expr)(k:Expr->CmpOp->Expr->Bool):Bool:=match e with|.Compare a ops bs _=>fm ops fun op=>fm bs fun b=>k a op b|_=>false
theorem dN{e:Expr}{k:Expr->CmpOp->Expr->Bool}(h:qw e k=true):∃a op b p,e=.Compare a [op] [b] p/\k a op b=true:=by
 unfold qw at h;split at h
 ·obtain⟨op,rfl,z1⟩:=br h;obtain⟨b,rfl,z2⟩:=br z1;exact⟨_,_,_,_,rfl,z2⟩
 ·cases h
noncomputable def eM(e:Expr)(k:Expr->Str->Pos->List Expr->Pos->Bool):Bool:=dM e fun f as cpos=>oY f fun o m apos=>k o m apos as cpos
theorem bh{e:Expr}{k:Expr->Str->Pos->List Expr->Pos->Bool}(h:eM e k=true):∃o m apos as cpos,e=.Call (.Attribute o m apos) as [] cpos/\k o m apos as cpos=true:=by
 obtain⟨f,as,p,rfl,h⟩:=aN h;obtain⟨o,m,q,rfl,h⟩:=nz h;exact⟨_,_,_,_,_,rfl,h⟩
noncomputable def kN(e:Expr)(k:Expr->Expr->Bool):Bool:=match e with|.Subscript a b _=>k a b|_=>false
theorem dO{e:Expr}{k:Expr->Expr->Bool}(h:kN e k=true):∃a b p,e=.Subscript a b p/\k a b=true:=by
 unfold kN at h;split at h
 ·exact⟨_,_,_,rfl,h⟩
 ·cases h
mutual
noncomputable def aw(k:Ck):E->List Str->Scope->Expr->Bool
 |.var i,N,sc,e'=>match e' with
  |.Name x _=>decide (N[i]?=some x)&&gp sc x&&bQ x
  |_=>false
 |.cst u,N,sc,e'=>match e' with
  |.Constant (.int j) _ _=>gJ u (.int j)
  |.Constant (.str y) _ _=>gJ u (.str y)
  |.Constant (.bool y) _ _=>gJ u (.bl y)
  |.Constant .none _ _=>gJ u .non
  |_=>false
 |.glb _ _,_,_,_=>false
 |.bin op a b,N,sc,e'=>match e' with
  |.BinOp a' op' b' _=>decide (op.op=op')&&aw k a N sc a'&&aw k b N sc b'
  |_=>false
 |.cmp op a b,N,sc,e'=>qw e' fun a' op' b'=>decide (op.op=op')&&!behindInMarks op' b'&&aw k a N sc a'&&aw k b N sc b'
 |.cmp2 _ _ _ _ _,_,_,_=>false
 |.and es,N,sc,e'=>match e' with
  |.BoolOp .And es' _=>az k es N sc es'
  |_=>false
 |.or es,N,sc,e'=>match e' with
  |.BoolOp .Or es' _=>az k es N sc es'
  |_=>false
 |.not a,N,sc,e'=>match e' with
  |.UnaryOp .Not a' _=>aw k a N sc a'
  |_=>false
 |.ite _ _ _,_,_,_=>false
 |.neg _,_,_,_=>false
 |.bad,_,_,_=>true
 |.inD neg a i,N,sc,e'=>qw e' fun a' op' b'=>bq b' fun x=>decide (uc neg=op')&&!behindInMarks op' b'&&decide (N[i]?=some x)&&gp sc x&&bQ x&&aw k a N sc a'
 |.pub i,N,sc,e'=>match e' with
  |.Name x _=>decide (N[i]?=some x)&&gp sc x&&bQ x
  |_=>false
 |.get2 i a b,N,sc,e'=>eM e' fun o m apos as cpos=>bq o fun x=>match as with
  |[a',b']=>decide (m="get")&&decide (N[i]?=some x)&&gp sc x&&bQ x&&(apos.endLine==cpos.line)&&noStar a'&&noStar b'&&aw k a N sc a'&&aw k b N sc b'
  |_=>false
 |.sit i,N,sc,e'=>dM e' fun f' as _=>bq f' fun f=>fm as fun c=>eM c fun o m apos bs cpos=>bq o fun x=>bs.isEmpty&&decide (f="sorted")&&glB sc f&&decide (m="items")&&decide (N[i]?=some x)&&gp sc x&&bQ x&&(apos.endLine==cpos.line)
 |.sdf _ _ _,_,_,_=>false
 |.fst es,N,sc,e'=>false
 |.isi a T,N,sc,e'=>dM e' fun f' as _=>bq f' fun x=>match as with
  |[a',b']=>bq b' fun y=>decide (x="isinstance")&&decide (y=T.name)&&glB sc x&&glB sc y&&noStar a'&&aw k a N sc a'
  |_=>false
 |.tup es,N,sc,e'=>match e' with
  |.Tuple es' _ _=>az k es N sc es'
  |_=>false
 |.lst es,N,sc,e'=>match e' with
  |.List es' _=>az k es N sc es'
  |_=>false
 |.dnew _,N,sc,e'=>match e' with
  |.Dict [] [] _=>true
  |_=>false
 |.idx a b,N,sc,e'=>match e' with
  |.Subscript a' b' _=>c8 b'&&aw k a N sc a'&&aw k b N sc b'
  |_=>false
 |.slc a lo hi,N,sc,e'=>match e' with
  |.Subscript a' (.Slice lo' hi' none _) _=>aw k a N sc a'&&oZ k lo N sc lo'&&oZ k hi N sc hi'
  |_=>false
 |.bi f es,N,sc,e'=>dM e' fun f' es' _=>bq f' fun x=>decide (x=f.name)&&simple f&&glB sc x&&!es'.isEmpty&&az k es N sc es'
 |.bi2 f es,N,sc,e'=>dM e' fun f' as _=>bq f' fun x=>fm as fun c=>dM c fun g' es' _=>bq g' fun y=>decide (x=f.lT)&&decide (y=f.gk)&&glB sc x&&glB sc y&&!es'.isEmpty&&az k es N sc es'
 |.mth m a es,N,sc,e'=>eM e' fun o name apos es' cpos=>decide (name=m.name)&&lX o&&(apos.endLine==cpos.line)&&!es'.isEmpty&&decide (es'.length<20)&&aw k a N sc o&&az k es N sc es'
 |.call f es,N,sc,e'=>dM e' fun f' es' _=>bq f' fun x=>decide (x=f)&&decide (f∈k.fns)&&glB sc x&&bQ x&&!es'.isEmpty&&az k es N sc es'
 |.comp n t ik src cond e,N,sc,e'=>match e' with
  |.ListComp elt [⟨tg,iter,ifs,0⟩] scope _ =>
   decide ((fk tg).length=n)&&yo (fk tg++hide (fk tg) N) (fk tg) scope sc.names&&tgB t (fk tg++hide (fk tg) N) (y9 scope sc) false (List.range n) tg&&oX iter &&
   (match eL sc tg ik iter with
    |some as=>az k src N sc as
    |none=>false) &&
   decide (ifs.length<=1)&&az k cond (fk tg++hide (fk tg) N) (y9 scope sc) ifs&&aw k e (fk tg++hide (fk tg) N) (y9 scope sc) elt
  |_=>false
noncomputable def az(k:Ck):List E->List Str->Scope->List Expr->Bool
 |[],_,_,es'=>es'.isEmpty
 |e::es,N,sc,es'=>match es' with
  |e'::es'=>noStar e'&&aw k e N sc e'&&az k es N sc es'
  |[]=>false
noncomputable def oZ(k:Ck):List E->List Str->Scope->Option Expr->Bool
 |[],_,_,o=>o.isNone
 |[e],N,sc,o=>match o with
  |some e'=>aw k e N sc e'
  |none=>false
 |_::_::_,_,_,_=>false
end
noncomputable def bB:List Str:=["len","sorted","repr","max","min","all","any","list","tuple","str","int","range","enumerate","zip","reversed","set","dict","sum","isinstance","bool"]
structure y_(P:Program)(w:World)(K:PySem.W.Frag)(mg:Str->Option Value)(base:Heap)(d:Nat)(F:List U->Option (Ex (Kd×U)))(f:Str):Prop where
 ex:∃(np:Nat) (fa:Addr) (fd:FuncData) (ps:List Str),mM P w K mg base CX0 d fa fd ps (spT P w K F np)/\mg f=some (.ref fa)/\PySem.W.keepIn K (.ref fa)=true/\Binds K fd ps []/\∀us k u,F us=some (.ok (k,u))->(k=.own\/k=.loc\/k=.any)/\us.length=np
structure Gd(ck:Ck)(Γ:Tab)(C:Ct)(d:Nat)(X:Cx):Prop where
 P:C.P=X.prog
 w:C.w=X.w
 K:C.K=X.K
 u:X.A.units+60<cLine
 calm:X.calm=true
 room:ft d X.A
 blt:∀x∈bB,X.mg x=none
 fns:∀f∈ck.fns,y_ X.prog X.w X.K X.mg X.base d (Γ f) f
 gls:∀p∈ck.gl,∃val v,X.mg p.1=some val/\RelV v val/\∀S H,Rep C S H p.2 v
theorem Gd.cx{ck:Ck}{Γ:Tab}{C:Ct}{d:Nat}{X:Cx}(g:Gd ck Γ C d X)(N:List Str)(sc:Scope)(D:Addr)(s:Shared)(H:Hp)(ex:List Addr):Gd ck Γ C d (cxC X N sc D s H ex) :=
 ⟨g.P,g.w,g.K,g.u,g.calm,g.room,g.blt,g.fns,g.gls⟩
theorem b_{sc:Scope}{x:Str}(h:gp sc x=true):Vis sc x:=by
 unfold gp at h;simp only[Bool.or_eq_true,decide_eq_true_eq]at h;rcases h with(h|h)|h
 ·exact .inl h
 ·exact .inr (.inl h)
 ·exact .inr (.inr h)
theorem aT{x:Str}(h:bQ x=true):(x==("__debug__":Str))=false/\(x==("__classdict__":Str))=false:=by
 unfold bQ at h;simpa using h
theorem bt{e:Expr}{es:List Expr}{env:Env}(h:noStar e=true):starEach (e::es) env=(false,eval e env)::starEach es env:=by
 cases e<;>first|rfl|cases h
theorem jE{e:Expr}(h:c8 e=true):lr e:=by
 intro o i;cases e<;>first|rfl|cases h
theorem o_{e:Expr}{env:Env}(h:oX e=true):∀x,foldedSetIterable e env x=pure x:=by
 intro x;cases e<;>first|rfl|cases h
theorem iH{o:Expr}{name:Str}{env:Env}{wh:Sem Value}(h:lX o=true):attributeBase o name env wh=wh:=by
 cases o with
 |Call f as ks p =>
  cases f with
  |Name x q=>cases as with
   |nil=>cases ks with
    |nil=>cases h
    |cons _ _=>rfl
   |cons _ _=>rfl
  |_=>rfl
 |_=>rfl
theorem bu{es:List Expr}{env:Env}{pos:Pos}(h:∀e∈es,noStar e=true):(backTo pos (starEach es env)).any (·.1)=false/\(backTo pos (starEach es env)).all (fun x=>!x.1)=true:=by
 induction es with
 |nil=>exact⟨rfl,rfl⟩
 |cons e es ih =>
  rw[bt (h e (by simp))];have:=ih fun e' he=>h e' (by simp[he]);constructor
  ·show(false||(backTo pos (starEach es env)).any (·.1))=false;rw[this.1];rfl
  ·show(!false&&(backTo pos (starEach es env)).all (fun x=>!x.1))=true;rw[this.2];rfl
theorem cR{k:Ck}{es:List E}{N:List Str}{sc:Scope}{es':List Expr}(h:az k es N sc es'=true):∀e∈es',noStar e=true:=by
 induction es generalizing es' with
 |nil =>
  cases es' with
  |nil=>intro e he;cases he
  |cons _ _=>simp[az]at h
 |cons x es ih =>
  cases es' with
  |nil=>intro e he;cases he
  |cons e' es' =>
   simp only[az,Bool.and_eq_true]at h;intro e he;rcases List.mem_cons.mp he with rfl|he
   ·exact h.1.1
   ·exact ih h.2 e he
theorem kO{X:Cx}{i:Nat}{e:Expr}{fa:Bool}(hfa:fa=true->∀x,X.fn x=true)(h:qv X.N X.env.scope fa i e=true):oR X e i:=by
 cases e with
 |Name x p =>
  simp only[qv,Bool.and_eq_true,decide_eq_true_eq,lY,Bool.or_eq_true,AB]at h;refine⟨x,p,rfl,h.1.1,?_,?_⟩
  ·rcases h.1.2 with z|z
   ·exact .inl z
   ·exact .inr z
  ·rcases h.2 with z|z
   ·exact .inl (hfa z x)
   ·exact .inr z
 |_=>cases h
theorem jF{X:Cx}{fa:Bool}(hfa:fa=true->∀x,X.fn x=true):∀{is:List Nat}{es:List Expr},lZ X.N X.env.scope fa is es=true->dI X es is
 |[],[],_=>.nil
 |[],_::_,h=>by cases h
 |_::_,[],h=>by cases h
 |i::is,e::es,h=>by
  simp only[lZ,Bool.and_eq_true]at h;exact .cons (kO hfa h.1) (jF hfa h.2)
theorem qx{X:Cx}{C:Ct}{t fa:Bool}{is:List Nat}{tg:Expr}(hc:X.calm=true)(hK:C.K=X.K)(hN:X.N.Nodup)(hfa:fa=true->∀x,X.fn x=true)(h:tgB t X.N X.env.scope fa is tg=true):PG X tg (tG C t is):=by
 cases tg with
 |Name x p =>
  simp only[tgB,Bool.and_eq_true,Bool.not_eq_true']at h;obtain⟨rfl,h⟩:=h;cases is with
  |nil=>cases h
  |cons i is=>cases is with
   |nil=>exact yW hN (kO hfa h)
   |cons _ _=>cases h
 |Tuple es k p =>
  simp only[tgB,Bool.and_eq_true,List.all_eq_true,decide_eq_true_eq]at h;obtain⟨⟨rfl,h1⟩,h2⟩:=h;exact Ai hc hK hN (jF hfa h1) h2
 |_=>cases h
theorem kP(own N:List Str):dc ((own++hide own N).drop own.length) N:=by
 rw[List.drop_left' rfl];unfold hide;split
 ·exact .refl N
 ·exact(dc.refl N).set _ (.inl rfl)
 ·exact((dc.refl N).set _ (.inl rfl)).set _ (.inr rfl)
noncomputable def Bf.isB:Bf->Bool
 |.len=>true|.sorted=>true|.repr=>true|.max=>true|.min=>true|.all=>true|.any=>true|_=>false
noncomputable def Bf.id:Bf->String
 |.len=>"len"|.sorted=>"sorted"|.repr=>"repr"|.max=>"max"|.min=>"min"|.all=>"all"|.any=>"any"
 |.list=>"list"|.tuple=>"tuple"|.str=>"str"|.int=>"int"
theorem wA:∀f:Bf,simple f=true->bootBuiltins f.name=some f.val/\f.name∈bB/\f.name≠"__name__"/\(f.name==("__debug__":Str))=false:=by
 intro f h;cases f<;>first|exact⟨by decide +kernel,by decide +kernel,by decide +kernel,by decide +kernel⟩|(cases h;done)
theorem za:∀f:Bf,simple f=true->(f.val=.builtin f.id\/f.val=.type f.id):=by
 intro f h;cases f<;>first|exact .inl rfl|exact .inr rfl|(cases h;done)
theorem zb:∀f:B2,f.lT∈bB/\f.gk∈bB:=by
 intro f;cases f<;>exact⟨by decide +kernel,by decide +kernel⟩
theorem wB:∀f:Mf,Slot "str" f.name f.id/\typeOf (.builtin f.id)=pure (.type "method_descriptor"):=by
 intro f;cases f with
 |split=>exact⟨PySem.F.slot_str_split,PySem.F.type_str_split⟩
 |join=>exact⟨PySem.F.slot_str_join,PySem.F.type_str_join⟩
 |partition=>exact⟨PySem.F.slot_str_partition,PySem.F.type_str_partition⟩
 |endswith=>exact⟨PySem.F.slot_str_endswith,PySem.F.type_str_endswith⟩
end TM
namespace TM
open PySem L2 PyProof.Rows
section
variable{ck:Ck}{Γ:Tab}{C:Ct}{d:Nat}
theorem d5{X:Cx}{x:Str}(h:glB X.env.scope x=true):Gl X x:=by
 unfold glB at h;show X.env.kindOf x=some .globalImplicit;exact of_decide_eq_true h
theorem wC:("enumerate":Str)∈bB:=by decide +kernel
theorem nA:("isinstance":Str)∈bB:=by decide +kernel
theorem ug(T:Ty5):T.name∈bB:=by cases T<;>decide +kernel
theorem wD:("range":Str)∈bB:=by decide +kernel
theorem xn{X:Cx}{ik:Ik}{iter tg:Expr}{as:List Expr}{src:List E}(g:Gd ck Γ C d X)(h:eL X.env.scope tg ik iter=some as)(hL:PA X as (tEs C (bA Γ src)))(h1:∀a,as=[a]->∃e,src=[e]/\PE X a (tEv C (ev Γ e)))(hst:∀e∈as,noStar e=true):PI X tg iter (tIt C ik (bA Γ src)):=by
 unfold eL at h;split at h
 ·cases h;obtain⟨e,rfl,he⟩:=h1 _ rfl;exact yU g.K he
 ·rw[Option.bind_eq_some_iff]at h;obtain⟨⟨x,bs⟩,hc,h⟩:=h;split at h
  ·rename_i hh;cases h;obtain⟨e1,hg,hl⟩:=hh
   dsimp only at e1 hg hl
   subst e1;obtain⟨p,q,rfl⟩:=hV hc;obtain⟨b,rfl⟩:=List.length_eq_one_iff.mp hl;exact wj (d5 hg) (g.blt _ wD) (bt (hst _ (by simp))) hL
  ·cases h
 ·rw[Option.bind_eq_some_iff]at h;obtain⟨⟨x,bs⟩,hc,h⟩:=h;split at h
  ·rename_i hh;cases h;obtain⟨e1,hg,hl,ht⟩:=hh
   dsimp only at e1 hg hl
   subst e1;obtain⟨p,q,rfl⟩:=hV hc;obtain⟨b,rfl⟩:=List.length_eq_one_iff.mp hl;cases tg with
   |Tuple es kx ps=>exact yV g.K (d5 hg) (g.blt _ wC) (bt (hst _ (by simp))) hL
   |_=>cases ht
  ·cases h
 ·cases h
theorem PT.eqv{X:Cx}{e:Expr}{m m':M Bool}(h:PT X e (tTs C m))(i:∀st Q,W m' st Q->W m st Q):PT X e (tTs C m'):=PT.weak h fun σ H Q ⟨c0,e1,e2,ok,w⟩=>⟨c0,e1,e2,ok,i _ _ w⟩
theorem AD{X:Cx}{f:Bf}{es:List E}{x:Str}{p pos:Pos}{es':List Expr}(g:Gd ck Γ C d X)(hL:PA X es' (tEs C (bA Γ es)))
  (h:(decide (x=f.name)&&simple f&&glB X.env.scope x&&!es'.isEmpty&&az ck es X.N X.env.scope es')=true):PE X (.Call (.Name x p) es' [] pos) (tEv C (ev Γ (.bi f es))):=by
 simp only[Bool.and_eq_true,decide_eq_true_eq,Bool.not_eq_true']at h;obtain⟨⟨⟨⟨rfl,h1⟩,h2⟩,h3⟩,h4⟩:=h;obtain⟨b1,b2,b3,b4⟩:=wA f h1;have hS:=cR h4;cases es' with
 |nil=>cases h3
 |cons e0 es0 =>
  have st:=bt (env:=X.env) (es:=es0) (hS e0 (by simp));have sn:=(bu (pos:=pos) (env:=X.env) (es:=es0) fun e he=>hS e (by simp[he])).1;rcases za f h1 with hv|hv
  ·exact wa g.calm g.K g.room.gd g.u hv (d5 h2) (g.blt _ b2) (by rw[b1,hv]) b3 b4 hL st sn
  ·exact wb g.calm g.K g.room.gd g.u hv (d5 h2) (g.blt _ b2) (by rw[b1,hv]) b3 b4 hL st sn
theorem xo{X:Cx}{f:B2}{es:List E}{x y:Str}{p p2 pos pos2:Pos}{es':List Expr}(g:Gd ck Γ C d X)(hL:PA X es' (tEs C (bA Γ es)))
  (h:(decide (x=f.lT)&&decide (y=f.gk)&&glB X.env.scope x&&glB X.env.scope y&&!es'.isEmpty&&az ck es X.N X.env.scope es')=true):PE X (.Call (.Name x p) [.Call (.Name y p2) es' [] pos2] [] pos) (tEv C (ev Γ (.bi2 f es))):=by
 simp only[Bool.and_eq_true,decide_eq_true_eq,Bool.not_eq_true']at h;obtain⟨⟨⟨⟨⟨rfl,rfl⟩,h1⟩,h2⟩,h3⟩,h4⟩:=h;obtain⟨b1,b2⟩:=zb f;have hS:=cR h4;cases es' with
 |nil=>cases h3
 |cons e0 es0 =>
  have st:=bt (env:=X.env) (es:=es0) (hS e0 (by simp));have sn:=(bu (pos:=pos2) (env:=X.env) (es:=es0) fun e he=>hS e (by simp[he])).1;exact wg g.calm g.K (d5 h1) (g.blt _ b1) (d5 h2) (g.blt _ b2) hL st sn
theorem xp{X:Cx}{m:Mf}{a:E}{es:List E}{o:Expr}{name:Str}{apos cpos:Pos}{es':List Expr}(g:Gd ck Γ C d X)(ha:PE X o (tEv C (ev Γ a)))(hL:PA X es' (tEs C (bA Γ es)))
  (h:(decide (name=m.name)&&lX o&&(apos.endLine==cpos.line)&&!es'.isEmpty&&decide (es'.length<20)&&aw ck a X.N X.env.scope o&&az ck es X.N X.env.scope es')=true):PE X (.Call (.Attribute o name apos) es' [] cpos) (tEv C (ev Γ (.mth m a es))):=by
 simp only[Bool.and_eq_true,decide_eq_true_eq,Bool.not_eq_true']at h;obtain⟨⟨⟨⟨⟨⟨rfl,h1⟩,h2⟩,h3⟩,h4⟩,h5⟩,h6⟩:=h;have hS:=cR h6;obtain⟨s1,s2⟩:=wB m;cases es' with
 |nil=>cases h3
 |cons e0 es0 =>
  have st:=bt (env:=X.env) (es:=es0) (hS e0 (by simp));have sn:=(bu (pos:=cpos) (env:=X.env) (es:=es0) fun e he=>hS e (by simp[he])).1;have sa:=(bu (pos:=cpos) (env:=X.env) (es:=e0::es0) hS).2;refine wd g.K s1 s2 ha hL (iH h1) ?_ h2 st sn;rw[sa];have:(e0::es0).length+([]:List Keyword).length+(if ([]:List Keyword).isEmpty=true then 0 else 1)<30:=by simp at h4 ⊢;omega
  simp only[decide_eq_true this];rfl
theorem uh{X:Cx}{f x:Str}{es:List E}{p pos:Pos}{es':List Expr}(g:Gd ck Γ C d X)(hL:PA X es' (tEs C (bA Γ es)))
  (h:(decide (x=f)&&decide (f∈ck.fns)&&glB X.env.scope x&&bQ x&&!es'.isEmpty&&az ck es X.N X.env.scope es')=true):PE X (.Call (.Name x p) es' [] pos) (tEv C (ev Γ (.call f es))):=by
 simp only[Bool.and_eq_true,decide_eq_true_eq,Bool.not_eq_true']at h;obtain⟨⟨⟨⟨⟨rfl,h1⟩,h2⟩,h3⟩,h4⟩,h5⟩:=h;have hS:=cR h5;obtain⟨np,fa,fd,ps,q1,q2,q3,q4,q5⟩:=(g.fns _ h1).ex;cases es' with
 |nil=>cases h4
 |cons e0 es0 =>
  have st:=bt (env:=X.env) (es:=es0) (hS e0 (by simp));have sn:=(bu (pos:=pos) (env:=X.env) (es:=es0) fun e he=>hS e (by simp[he])).1;exact tY g.P g.w g.K rfl q5 q1 g.room (d5 h2) q2 q3 q4 (aT h3).1 hL st sn
theorem cy{k:Ck}{es:List E}{N:List Str}{sc:Scope}{es':List Expr}{b:Bool}(h:(b&&az k es N sc es')=true):az k es N sc es'=true:=(Bool.and_eq_true_iff.mp h).2
mutual
theorem a_:∀(e:E) (X:Cx) (e':Expr),Gd ck Γ C d X->aw ck e X.N X.env.scope e'=true->PE X e' (tEv C (ev Γ e))
 |.var i,X,e',g,h=>by
  simp only[aw]at h;split at h
  ·simp only[Bool.and_eq_true,decide_eq_true_eq]at h;obtain⟨h3,h4⟩:=aT h.2;exact lQ h.1.1 (b_ h.1.2) h3 h4
  ·cases h
 |.cst u,X,e',g,h=>by
  simp only[aw]at h;split at h
  ·have:=b8 h;subst this;exact gh sk fun _ _=>rfl
  ·have:=b8 h;subst this;exact gh so fun _ _=>rfl
  ·have:=b8 h;subst this;exact gh xb fun _ _=>rfl
  ·have:=b8 h;subst this;exact gh sm fun _ _=>rfl
  ·cases h
 |.glb x u,X,e',g,h=>absurd h (by simp[aw])
 |.bin op a b,X,e',g,h=>by
  simp only[aw]at h;split at h
  ·simp only[Bool.and_eq_true,decide_eq_true_eq]at h;obtain⟨⟨rfl,h1⟩,h2⟩:=h;exact vV g.K (a_ a X _ g h1) (a_ b X _ g h2)
  ·cases h
 |.cmp op a b,X,e',g,h=>by
  simp only[aw]at h;obtain⟨a',op',b',p0,rfl,z1⟩:=dN h;have h:=z1;simp only[Bool.and_eq_true,decide_eq_true_eq,Bool.not_eq_true']at h;obtain⟨⟨⟨rfl,h0⟩,h1⟩,h2⟩:=h;exact vW g.P g.w g.K g.u (a_ a X _ g h1) (a_ b X _ g h2) h0
 |.cmp2 o1 o2 a b c,X,e',g,h=>absurd h (by simp[aw])
 |.and es,X,e',g,h=>by
  simp only[aw]at h;split at h
  ·exact ui es X _ g h
  ·cases h
 |.or es,X,e',g,h=>by
  simp only[aw]at h;split at h
  ·exact xq es X _ g h
  ·cases h
 |.not a,X,e',g,h=>by
  simp only[aw]at h;split at h
  ·exact vY (a_ a X _ g h)
  ·cases h
 |.neg a,X,e',g,h=>absurd h (by simp[aw])
 |.bad,X,e',g,h=>fun pins s σ H Q I ⟨_,_,_,_,w⟩=>(av.mp w).elim
 |.inD neg a i,X,e',g,h=>by
  simp only[aw]at h;obtain⟨a',op',b',p0,rfl,z1⟩:=dN h;obtain⟨x,p1,rfl,z2⟩:=ao z1;have h:=z2;simp only[Bool.and_eq_true,decide_eq_true_eq,Bool.not_eq_true']at h;obtain⟨⟨⟨⟨⟨rfl,h0⟩,h1⟩,h2⟩,h3⟩,h4⟩:=h;obtain⟨q1,q2⟩:=aT h3;exact wt g.u h1 (b_ h2) q1 q2 (a_ a X _ g h4) h0
 |.pub i,X,e',g,h=>by
  simp only[aw]at h;split at h
  ·simp only[Bool.and_eq_true,decide_eq_true_eq]at h;obtain⟨h3,h4⟩:=aT h.2;exact wq h.1.1 (b_ h.1.2) h3 h4
  ·cases h
 |.get2 i a b,X,e',g,h=>by
  simp only[aw]at h;obtain⟨o,m,apos,as,cpos,rfl,z1⟩:=bh h;obtain⟨x,px,rfl,z2⟩:=ao z1;split at z2
  ·simp only[Bool.and_eq_true,decide_eq_true_eq]at z2;obtain⟨⟨⟨⟨⟨⟨⟨⟨rfl,h1⟩,h2⟩,h3⟩,h4⟩,h5⟩,h6⟩,h7⟩,h8⟩:=z2;obtain⟨q1,q2⟩:=aT h3;rename_i a' b';have sa:=bu (pos:=cpos) (env:=X.env) (es:=[a',b']) fun e he=>by
    rcases List.mem_cons.mp he with rfl|he
    ·exact h5
    ·simp at he;subst he;exact h6
   exact ue g.u h1 (b_ h2) q1 q2 (a_ a X _ g h7) (a_ b X _ g h8) ⟨rfl,by rw[sa.2];rfl,h4,by rw[bt h5,bt h6];rfl⟩
  ·cases z2
 |.sit i,X,e',g,h=>by
  simp only[aw]at h;obtain⟨f',as,_,rfl,z1⟩:=aN h;obtain⟨f,_,rfl,z2⟩:=ao z1;obtain⟨c,rfl,z3⟩:=br z2;obtain⟨o,m,apos,bs,cpos,rfl,z4⟩:=bh z3;obtain⟨x,px,rfl,z5⟩:=ao z4;simp only[Bool.and_eq_true,decide_eq_true_eq,List.isEmpty_iff]at z5;obtain⟨⟨⟨⟨⟨⟨⟨rfl,rfl⟩,h1⟩,rfl⟩,h3⟩,h4⟩,h5⟩,h6⟩:=z5;obtain⟨q1,q2⟩:=aT h5;exact wz g.calm g.K (d5 h1) (g.blt _ (by decide +kernel)) h3 (b_ h4) q1 q2 h6
 |.sdf ln a b,X,e',g,h=>fun pins s σ H Q I ⟨_,_,_,_,w⟩=>(av.mp w).elim
 |.fst es,X,e',g,h=>fun pins s σ H Q I ⟨_,_,_,_,w⟩=>(av.mp w).elim
 |.isi a T,X,e',g,h=>by
  simp only[aw]at h;obtain⟨f',as,p0,rfl,z1⟩:=aN h;obtain⟨x,p1,rfl,z2⟩:=ao z1;clear h z1;split at z2
  ·obtain⟨y,p2,rfl,z3⟩:=ao z2;have h:=z3;simp only[Bool.and_eq_true,decide_eq_true_eq]at h;obtain⟨⟨⟨⟨⟨rfl,rfl⟩,h1⟩,h2⟩,h3⟩,h4⟩:=h;exact qq g.K (d5 h1) (g.blt _ nA) (d5 h2) (g.blt _ (ug T)) (a_ a X _ g h4) (bt h3)
  ·cases z2
 |.ite c a b,X,e',g,h=>absurd h (by simp[aw])
 |.tup es,X,e',g,h=>by
  simp only[aw]at h;split at h
  ·exact v7 (gK es X _ g h)
  ·cases h
 |.lst es,X,e',g,h=>by
  simp only[aw]at h;split at h
  ·exact v8 (gK es X _ g h)
  ·cases h
 |.dnew r,X,e',g,h=>by
  simp only[aw]at h;split at h
  ·exact tX g.P g.w r
  ·cases h
 |.idx a b,X,e',g,h=>by
  simp only[aw]at h;split at h
  ·simp only[Bool.and_eq_true]at h;exact qo g.K g.u (jE h.1.1) (a_ a X _ g h.1.2) (a_ b X _ g h.2)
  ·cases h
 |.slc a lo hi,X,e',g,h=>by
  simp only[aw]at h;split at h
  ·simp only[Bool.and_eq_true]at h;exact v_ g.K (a_ a X _ g h.1.1) (AE lo X _ g h.1.2) (AE hi X _ g h.2)
  ·cases h
 |.bi f es,X,e',g,h=>by
  simp only[aw]at h;obtain⟨f',as,p0,rfl,z1⟩:=aN h;obtain⟨x,p1,rfl,z2⟩:=ao z1;have h:=z2;exact AD g (gK es X _ g (cy h)) h
 |.bi2 f es,X,e',g,h=>by
  simp only[aw]at h;obtain⟨f',as,p0,rfl,z1⟩:=aN h;obtain⟨x,p1,rfl,z2⟩:=ao z1;obtain⟨c,rfl,z3⟩:=br z2;obtain⟨g',as',p2,rfl,z4⟩:=aN z3;obtain⟨y,p3,rfl,z5⟩:=ao z4;have h:=z5;exact xo g (gK es X _ g (cy h)) h
 |.mth m a es,X,e',g,h=>by
  simp only[aw]at h;obtain⟨o,name,apos,as,cpos,rfl,z1⟩:=bh h;have h:=z1;have h':=h;simp only[Bool.and_eq_true]at h';exact xp g (a_ a X _ g h'.1.2) (gK es X _ g (cy h)) h
 |.call f es,X,e',g,h=>by
  simp only[aw]at h;obtain⟨f',as,p0,rfl,z1⟩:=aN h;obtain⟨x,p1,rfl,z2⟩:=ao z1;have h:=z2;exact uh g (gK es X _ g (cy h)) h
 |.comp n t ik src cond e,X,e',g,h=>by
  simp only[aw]at h;split at h
  ·rename_i elt tg iter ifs scope _;simp only[Bool.and_eq_true,decide_eq_true_eq]at h;obtain⟨⟨⟨⟨⟨⟨⟨h1,h2⟩,h3⟩,h4⟩,h5⟩,h6⟩,h7⟩,h8⟩:=h;subst h1;have S:=tm (X:=X) rfl (kP _ _) h2;split at h5
   ·rename_i as has;have hst:=cR h5;have hI:PI X tg iter (tIt C ik (bA Γ src)):=xn g has (gK src X _ g h5) (fun a e=>by
     subst e;cases src with
     |nil=>simp[az]at h5
     |cons e1 es1 =>
      cases es1 with
      |nil =>
       simp only[az,Bool.and_eq_true]at h5;exact⟨e1,rfl,a_ e1 X _ g h5.1.2⟩
      |cons _ _=>simp[az]at h5) hst
    exact ua S g.calm hI (fun D s H ex=>qx (fa:=false) g.calm g.K S.nd (fun z=>nomatch z) h3)
     (fun D s H ex=>by
      cases ifs with
      |nil =>
       cases cond with
       |nil=>exact fun pins s σ H Q I ⟨c0,e1,e2,ok,w⟩=>pX pins s σ H Q I (by subst e1 e2;rw[show aS Γ []=pure true from rfl,ah]at w;exact w c0 rfl rfl ok (Nx.refl c0))
       |cons _ _=>simp[az]at h7
      |cons c1 cs =>
       cases cs with
       |nil =>
        cases cond with
        |nil=>simp[az]at h7
        |cons e1 es1 =>
         cases es1 with
         |nil =>
          simp only[az,Bool.and_eq_true]at h7;exact pY (l7 e1 (cxC X _ scope D s H ex) c1 (g.cx _ _ _ _ _ _) h7.1.2)
         |cons _ _=>simp[az]at h7
       |cons _ _=>simp at h6)
     (fun D s H ex=>a_ e (cxC X _ scope D s H ex) elt (g.cx _ _ _ _ _ _) h8) (o_ h4)
   ·cases h5
  ·cases h
theorem gK:∀(es:List E) (X:Cx) (es':List Expr),Gd ck Γ C d X->az ck es X.N X.env.scope es'=true->PA X es' (tEs C (bA Γ es))
 |[],X,es',g,h=>by
  cases es' with
  |nil=>exact v5
  |cons _ _=>simp[az]at h
 |e::es,X,es',g,h=>by
  cases es' with
  |nil=>simp[az]at h
  |cons e' es' =>
   simp only[az,Bool.and_eq_true]at h;exact tV (a_ e X e' g h.1.2) (gK es X es' g h.2) (bt h.1.1)
theorem AE:∀(es:List E) (X:Cx) (o:Option Expr),Gd ck Γ C d X->oZ ck es X.N X.env.scope o=true->PO X o (tO C (evO Γ es))
 |[],X,o,g,h=>by
  cases o with
  |none=>exact rM
  |some _=>simp[oZ]at h
 |[e],X,o,g,h=>by
  cases o with
  |none=>simp[oZ]at h
  |some e'=>simp only[oZ]at h;exact rN (a_ e X e' g h)
 |_::_::_,X,o,g,h=>by simp[oZ]at h
theorem ui:∀(es:List E) (X:Cx) (es':List Expr),Gd ck Γ C d X->az ck es X.N X.env.scope es'=true->∀{pos},PE X (.BoolOp .And es' pos) (tEv C (tN Γ es))
 |[],X,es',g,h,pos=>fun pins s σ H Q I ⟨_,_,_,_,w⟩=>(av.mp w).elim
 |[e],X,es',g,h,pos=>by
  cases es' with
  |nil=>simp[az]at h
  |cons e' es' =>
   cases es' with
   |nil=>simp only[az,Bool.and_eq_true]at h;exact sv (a_ e X e' g h.1.2)
   |cons _ _=>simp[az]at h
 |e::e1::es,X,es',g,h,pos=>by
  cases es' with
  |nil=>simp[az]at h
  |cons e' es' =>
   have h':noStar e'=true/\aw ck e X.N X.env.scope e'=true/\az ck (e1::es) X.N X.env.scope es'=true:=by
    rw[az]at h;simp only[Bool.and_eq_true]at h;exact⟨h.1.1,h.1.2,h.2⟩
   cases es' with
   |nil=>have:=h'.2.2;simp[az]at this
   |cons e2 es2=>exact snd_and (a_ e X e' g h'.2.1) (ui (e1::es) X _ g h'.2.2)
theorem xq:∀(es:List E) (X:Cx) (es':List Expr),Gd ck Γ C d X->az ck es X.N X.env.scope es'=true->∀{pos},PE X (.BoolOp .Or es' pos) (tEv C (yE Γ es))
 |[],X,es',g,h,pos=>fun pins s σ H Q I ⟨_,_,_,_,w⟩=>(av.mp w).elim
 |[e],X,es',g,h,pos=>by
  cases es' with
  |nil=>simp[az]at h
  |cons e' es' =>
   cases es' with
   |nil=>simp only[az,Bool.and_eq_true]at h;exact sv (a_ e X e' g h.1.2)
   |cons _ _=>simp[az]at h
 |e::e1::es,X,es',g,h,pos=>by
  cases es' with
  |nil=>simp[az]at h
  |cons e' es' =>
   have h':noStar e'=true/\aw ck e X.N X.env.scope e'=true/\az ck (e1::es) X.N X.env.scope es'=true:=by
    rw[az]at h;simp only[Bool.and_eq_true]at h;exact⟨h.1.1,h.1.2,h.2⟩
   cases es' with
   |nil=>have:=h'.2.2;simp[az]at this
   |cons e2 es2=>exact yK (a_ e X e' g h'.2.1) (xq (e1::es) X _ g h'.2.2)
theorem l7:∀(e:E) (X:Cx) (e':Expr),Gd ck Γ C d X->aw ck e X.N X.env.scope e'=true->PT X e' (tTs C (tst Γ e))
 |.and es,X,e',g,h=>by
  simp only[aw]at h;split at h
  ·exact(qy es X _ g h).pt
  ·cases h
 |.or es,X,e',g,h=>by
  simp only[aw]at h;split at h
  ·exact(uj es X _ g h).pt
  ·cases h
 |.not a,X,e',g,h=>by
  simp only[aw]at h;split at h
  ·exact vZ (l7 a X _ g h)
  ·cases h
 |.cmp op a b,X,e',g,h=>by
  simp only[aw]at h;obtain⟨a',op',b',p0,rfl,z1⟩:=dN h;have h:=z1;simp only[Bool.and_eq_true,decide_eq_true_eq,Bool.not_eq_true']at h;obtain⟨⟨⟨rfl,h0⟩,h1⟩,h2⟩:=h;exact vX g.P g.w g.K g.u (a_ a X _ g h1) (a_ b X _ g h2) h0
 |.cmp2 o1 o2 a b c,X,e',g,h=>absurd h (by simp[aw])
 |.var i,X,e',g,h=>by
  have hE:PE X e' (tEv C (ev Γ (.var i))):=by
   have h':=h;simp only[aw]at h';split at h'
   ·simp only[Bool.and_eq_true,decide_eq_true_eq]at h';obtain⟨h3,h4⟩:=aT h'.2;exact lQ h'.1.1 (b_ h'.1.2) h3 h4
   ·cases h'
  simp only[aw]at h;split at h
  ·exact c7 hE g.K fun _=>rfl
  ·cases h
 |.idx a b,X,e',g,h=>by
  simp only[aw]at h;split at h
  ·simp only[Bool.and_eq_true]at h;have hE:=qo (pos:=by assumption) g.K g.u (jE h.1.1) (a_ a X _ g h.1.2) (a_ b X _ g h.2);refine PT.eqv (c7 hE g.K fun _=>rfl) fun st Q w=>?_;simp only[tst,ab]at w ⊢;exact w
  ·cases h
 |.bi f es,X,e',g,h=>by
  simp only[aw]at h;obtain⟨f',as,p0,rfl,z1⟩:=aN h;obtain⟨x,p1,rfl,z2⟩:=ao z1;have h:=z2;refine PT.eqv (c7 (AD g (gK es X _ g (cy h)) h) g.K fun _=>rfl) fun st Q w=>?_;simp only[tst,ev,ab]at w ⊢;exact w
 |.bi2 f es,X,e',g,h=>by
  simp only[aw]at h;obtain⟨f',as,p0,rfl,z1⟩:=aN h;obtain⟨x,p1,rfl,z2⟩:=ao z1;obtain⟨c,rfl,z3⟩:=br z2;obtain⟨g',as',p2,rfl,z4⟩:=aN z3;obtain⟨y,p3,rfl,z5⟩:=ao z4;have h:=z5;refine PT.eqv (c7 (xo g (gK es X _ g (cy h)) h) g.K fun _=>rfl) fun st Q w=>?_;simp only[tst,ev,ab]at w ⊢;exact w
 |.mth m a es,X,e',g,h=>by
  simp only[aw]at h;obtain⟨o,name,apos,as,cpos,rfl,z1⟩:=bh h;have h:=z1;have h':=h;simp only[Bool.and_eq_true]at h';refine PT.eqv (c7 (xp g (a_ a X _ g h'.1.2) (gK es X _ g (cy h)) h) g.K fun _=>rfl) fun st Q w=>?_;simp only[tst,ev,ab]at w ⊢;exact w
 |.call f es,X,e',g,h=>by
  simp only[aw]at h;obtain⟨f',as,p0,rfl,z1⟩:=aN h;obtain⟨x,p1,rfl,z2⟩:=ao z1;have h:=z2;refine PT.eqv (c7 (uh g (gK es X _ g (cy h)) h) g.K fun _=>rfl) fun st Q w=>?_;simp only[tst,ev,ab]at w ⊢;exact w
 |.cst u,X,e',g,h=>by
  have go:∀{v:V},PE X e' (tC v)->(∀S H,Rep C S H u v)->(∀whole,isTrue e' X.env whole=(do let v <-whole;standAt e'.pos;holding [v] (truthy v)))->PT X e' (tTs C (tst Γ (.cst u))):=fun {v} h1 h2 h3=>by
   refine PT.eqv (c7 (gh h1 h2) g.K h3) fun st Q w=>?_;rw[ab,ah];exact w
  simp only[aw]at h;split at h
  ·have:=b8 h;subst this;exact go sk (fun _ _=>rfl) fun _=>rfl
  ·have:=b8 h;subst this;exact go so (fun _ _=>rfl) fun _=>rfl
  ·have:=b8 h;subst this;exact go xb (fun _ _=>rfl) fun _=>rfl
  ·have:=b8 h;subst this;exact go sm (fun _ _=>rfl) fun _=>rfl
  ·cases h
 |.fst es,X,e',g,h=>fun pins s σ H Q I ⟨_,_,_,_,w⟩=>(av.mp w).elim
 |.glb x u,X,e',g,h=>fun pins s σ H Q I ⟨_,_,_,_,w⟩=>(av.mp w).elim
 |.neg a,X,e',g,h=>fun pins s σ H Q I ⟨_,_,_,_,w⟩=>(av.mp w).elim
 |.isi a T,X,e',g,h=>by
  simp only[aw]at h;obtain⟨f',as,p0,rfl,z1⟩:=aN h;obtain⟨x,p1,rfl,z2⟩:=ao z1;clear h z1;split at z2
  ·obtain⟨y,p2,rfl,z3⟩:=ao z2;have h:=z3;simp only[Bool.and_eq_true,decide_eq_true_eq]at h;obtain⟨⟨⟨⟨⟨rfl,rfl⟩,h1⟩,h2⟩,h3⟩,h4⟩:=h;refine PT.eqv (c7 (qq g.K (d5 h1) (g.blt _ nA) (d5 h2) (g.blt _ (ug T)) (a_ a X _ g h4) (bt h3)) g.K fun _=>rfl) fun st Q w=>?_;simp only[tst,ab]at w ⊢;refine W.mono w fun x s1 w1=>?_;obtain⟨b,e,w2⟩:=bT.mp w1;exact bT.mpr ⟨b,e,ah.mpr (bT.mpr ⟨b,rfl,w2⟩)⟩
  ·cases z2
 |.bad,X,e',g,h=>fun pins s σ H Q I ⟨_,_,_,_,w⟩=>(av.mp w).elim
 |.inD neg a i,X,e',g,h=>by
  simp only[aw]at h;obtain⟨a',op',b',p0,rfl,z1⟩:=dN h;obtain⟨x,p1,rfl,z2⟩:=ao z1;have h:=z2;simp only[Bool.and_eq_true,decide_eq_true_eq,Bool.not_eq_true']at h;obtain⟨⟨⟨⟨⟨rfl,h0⟩,h1⟩,h2⟩,h3⟩,h4⟩:=h;obtain⟨q1,q2⟩:=aT h3;exact wu g.u h1 (b_ h2) q1 q2 (a_ a X _ g h4) h0
 |.pub i,X,e',g,h=>fun pins s σ H Q I ⟨_,_,_,_,w⟩=>(av.mp w).elim
 |.sdf ln a b,X,e',g,h=>fun pins s σ H Q I ⟨_,_,_,_,w⟩=>(av.mp w).elim
 |.sit i,X,e',g,h=>fun pins s σ H Q I ⟨_,_,_,_,w⟩=>(av.mp w).elim
 |.get2 i a b,X,e',g,h=>fun pins s σ H Q I ⟨_,_,_,_,w⟩=>(av.mp w).elim
 |.bin op a b,X,e',g,h=>fun pins s σ H Q I ⟨_,_,_,_,w⟩=>(av.mp w).elim
 |.ite c a b,X,e',g,h=>fun pins s σ H Q I ⟨_,_,_,_,w⟩=>(av.mp w).elim
 |.tup es,X,e',g,h=>fun pins s σ H Q I ⟨_,_,_,_,w⟩=>(av.mp w).elim
 |.lst es,X,e',g,h=>fun pins s σ H Q I ⟨_,_,_,_,w⟩=>(av.mp w).elim
 |.dnew r,X,e',g,h=>fun pins s σ H Q I ⟨_,_,_,_,w⟩=>(av.mp w).elim
 |.slc a lo hi,X,e',g,h=>fun pins s σ H Q I ⟨_,_,_,_,w⟩=>(av.mp w).elim
 |.comp n t ik src cond e,X,e',g,h=>fun pins s σ H Q I ⟨_,_,_,_,w⟩=>(av.mp w).elim
theorem qy:∀(es:List E) (X:Cx) (es':List Expr),Gd ck Γ C d X->az ck es X.N X.env.scope es'=true->∀{pos},PW X (.BoolOp .And es' pos) (tTs C (aS Γ es))
 |[],X,es',g,h,pos=>by
  cases es' with
  |nil =>
   rintro wh pins s σ H Q I ⟨c0,rfl,rfl,ok,w⟩;rw[show aS Γ []=pure true from rfl,ah]at w;exact isTrue_and_nil ⟨c0.H,I,w c0 rfl rfl ok (Nx.refl c0)⟩
  |cons _ _=>simp[az]at h
 |[e],X,es',g,h,pos=>by
  cases es' with
  |nil=>simp[az]at h
  |cons e' es' =>
   cases es' with
   |nil=>simp only[az,Bool.and_eq_true]at h;exact u4 (l7 e X e' g h.1.2)
   |cons _ _=>simp[az]at h
 |e::e1::es,X,es',g,h,pos=>by
  cases es' with
  |nil=>simp[az]at h
  |cons e' es' =>
   have h':noStar e'=true/\aw ck e X.N X.env.scope e'=true/\az ck (e1::es) X.N X.env.scope es'=true:=by
    rw[az]at h;simp only[Bool.and_eq_true]at h;exact⟨h.1.1,h.1.2,h.2⟩
   cases es' with
   |nil=>have:=h'.2.2;simp[az]at this
   |cons e2 es2=>exact v3 (l7 e X e' g h'.2.1) (qy (e1::es) X _ g h'.2.2)
theorem uj:∀(es:List E) (X:Cx) (es':List Expr),Gd ck Γ C d X->az ck es X.N X.env.scope es'=true->∀{pos},PW X (.BoolOp .Or es' pos) (tTs C (hU Γ es))
 |[],X,es',g,h,pos=>by
  cases es' with
  |nil =>
   rintro wh pins s σ H Q I ⟨c0,rfl,rfl,ok,w⟩;rw[show hU Γ []=pure false from rfl,ah]at w;exact isTrue_or_nil ⟨c0.H,I,w c0 rfl rfl ok (Nx.refl c0)⟩
  |cons _ _=>simp[az]at h
 |[e],X,es',g,h,pos=>by
  cases es' with
  |nil=>simp[az]at h
  |cons e' es' =>
   cases es' with
   |nil=>simp only[az,Bool.and_eq_true]at h;exact xI (l7 e X e' g h.1.2)
   |cons _ _=>simp[az]at h
 |e::e1::es,X,es',g,h,pos=>by
  cases es' with
  |nil=>simp[az]at h
  |cons e' es' =>
   have h':noStar e'=true/\aw ck e X.N X.env.scope e'=true/\az ck (e1::es) X.N X.env.scope es'=true:=by
    rw[az]at h;simp only[Bool.and_eq_true]at h;exact⟨h.1.1,h.1.2,h.2⟩
   cases es' with
   |nil=>have:=h'.2.2;simp[az]at this
   |cons e2 es2=>exact yL (l7 e X e' g h'.2.1) (uj (e1::es) X _ g h'.2.2)
end
end
end TM
namespace TM
open PySem L2 PyProof.Rows
noncomputable def swB(sc:Scope)(x:Str)(line:Nat):Expr->Bool
 |.ListComp elt gens s pos=>decide (sc.names.lookup x=some .local)&&(line==pos.line)&&!(s.names.any fun(n,k)=>n==x&&(k==.local||k==.cell))
 |_=>false
noncomputable def kQ(s:Stmt)(k:Expr->Bool):Bool:=match s with|.Expr e _=>k e|_=>false
theorem dP{s:Stmt}{k:Expr->Bool}(h:kQ s k=true):∃e p,s=.Expr e p/\k e=true:=by
 unfold kQ at h;split at h
 ·exact⟨_,_,rfl,h⟩
 ·cases h
noncomputable def qz(s:Stmt)(k:Expr->Expr->Bool):Bool:=match s with|.Assign ts v _=>fm ts fun t=>k t v|_=>false
theorem jG{s:Stmt}{k:Expr->Expr->Bool}(h:qz s k=true):∃t v p,s=.Assign [t] v p/\k t v=true:=by
 unfold qz at h;split at h
 ·obtain⟨t,rfl,z1⟩:=br h;exact⟨_,_,_,rfl,h⟩
 ·cases h
mutual
noncomputable def dg(k:Ck):S->List Str->Scope->Stmt->Bool
 |.set i e,N,sc,s=>match s with
  |.Assign [.Name x p] v _=>decide (N[i]?=some x)&&lY sc x&&decide (sc.kind=.function)&&aw k e N sc v&&(cI v||swB sc x p.line v||(match v with|.ListComp _ _ _ _=>true|_=>false))&&(match e with|.comp _ _ _ _ _ _=>true|_=>cI v)
  |_=>false
 |.setT is e,N,sc,s=>match s with
  |.Assign [.Tuple es kk p] v _=>tgB true N sc true is (.Tuple es kk p)&&cI v&&y8 v&&aw k e N sc v
  |_=>false
 |.put i a b,N,sc,s=>qz s fun t b'=>kN t fun o a'=>bq o fun x=>decide (N[i]?=some x)&&gp sc x&&bQ x&&cI b'&&c8 a'&&aw k a N sc a'&&aw k b N sc b'
 |.app i e,N,sc,s=>kQ s fun c=>eM c fun o m apos as cpos=>bq o fun x=>fm as fun a=>decide (m="append")&&decide (N[i]?=some x)&&gp sc x&&bQ x&&(apos.endLine==cpos.line)&&noStar a&&aw k e N sc a
 |.ext i e,N,sc,s=>kQ s fun c=>eM c fun o m apos as cpos=>bq o fun x=>fm as fun a=>decide (m="extend")&&decide (N[i]?=some x)&&gp sc x&&bQ x&&(apos.endLine==cpos.line)&&noStar a&&aw k e N sc a
 |.bad,_,_,_=>true
 |.newD i,N,sc,s=>match s with
  |.Assign [.Name x p] (.Dict [] [] _) _=>decide (N[i]?=some x)&&lY sc x
  |_=>false
 |.putD i a b,N,sc,s=>qz s fun t b'=>kN t fun o a'=>bq o fun x=>decide (N[i]?=some x)&&gp sc x&&bQ x&&cI b'&&c8 a'&&aw k a N sc a'&&aw k b N sc b'
 |.appD i a e,N,sc,s=>kQ s fun c=>eM c fun o m apos as cpos=>kN o fun o' a'=>bq o' fun x=>fm as fun b=>decide (m="append")&&decide (N[i]?=some x)&&gp sc x&&bQ x&&c8 a'&&(apos.endLine==cpos.line)&&noStar b&&aw k a N sc a'&&aw k e N sc b
 |.aug sub i a e,N,sc,s=>match s with
  |.AugAssign t op b _=>kN t fun o a'=>bq o fun x=>decide (op=if sub=true then .Sub else .Add)&&decide (N[i]?=some x)&&gp sc x&&bQ x&&c8 a'&&aw k a N sc a'&&aw k e N sc b
  |_=>false
 |.rvs i,N,sc,s=>kQ s fun c=>eM c fun o m apos as cpos=>bq o fun x=>as.isEmpty&&decide (m="reverse")&&decide (N[i]?=some x)&&gp sc x&&bQ x&&(apos.endLine==cpos.line)
 |.exp e,N,sc,s=>match s with
  |.Expr e' _=>cI e'&&aw k e N sc e'
  |_=>false
 |.ret e,N,sc,s=>match s with
  |.Return (some e') _=>aw k e N sc e'
  |_=>false
 |.retN,N,sc,s=>match s with
  |.Return none _=>true
  |_=>false
 |.ite c a b,N,sc,s=>match s with
  |.If c' a' b' _=>aw k c N sc c'&&c9 k a N sc a'&&c9 k b N sc b'
  |_=>false
 |.for_ t is ik src body,N,sc,s=>match s with
  |.For tg iter body' [] _=>tgB t N sc true is tg&&oX iter&&(match eL sc tg ik iter with
    |some as=>az k src N sc as
    |none=>false)&&c9 k body N sc body'
  |_=>false
 |.whl c body,N,sc,s=>match s with
  |.While c' body' [] _=>aw k c N sc c'&&c9 k body N sc body'
  |_=>false
 |.brk,_,_,s=>match s with
  |.Break _=>true
  |_=>false
 |.cnt,_,_,s=>match s with
  |.Continue _=>true
  |_=>false
 |.pas,_,_,s=>match s with
  |.Pass _=>true
  |_=>false
noncomputable def c9(k:Ck):List S->List Str->Scope->List Stmt->Bool
 |[],_,_,ss'=>ss'.isEmpty
 |s::ss,N,sc,ss'=>match ss' with
  |s'::ss'=>dg k s N sc s'&&c9 k ss N sc ss'
  |[]=>false
end
section
variable{ck:Ck}{Γ:Tab}{C:Ct}{d:Nat}{X:Cx}
theorem pd{sc:Scope}{x:Str}(h:lY sc x=true):Loc sc x:=by
 unfold lY at h;simp only[Bool.or_eq_true,decide_eq_true_eq]at h;exact h
theorem gq{v:Expr}{t:Option Expr}{line:Nat}{env:Env}(h:cI v=true):swapsWith v t line env=pure false:=by
 cases v<;>first|rfl|cases h
theorem l8{v t:Expr}{line:Nat}{env:Env}(h:cI v=true):swapsWithSole [t] v line env=pure false:=by
 rw[swapsWithSole];exact gq h
theorem wF{i:Expr}(h:c8 i=true):∀ov iv new,augStore i ov iv new=(do holding [new,ov,iv] (setItem ov iv new);release [new,ov,iv] [];pure .next):=by
 intro ov iv new;cases i<;>first|rfl|cases h
theorem qA{o i:Expr}{p:Pos}{env:Env}(h:c8 i=true):∀v,assign (.Subscript o i p) env v=(do
   let ov <-holding [v] (eval o env)
   let iv <-holding [v,ov] (eval i env)
   standAt p
   holding [v,ov,iv] (setItem ov iv v)
   release [v,ov,iv] []):=by
 intro v;cases i<;>first|rfl|cases h
structure Gs(ck:Ck)(Γ:Tab)(C:Ct)(d:Nat)(X:Cx):Prop where
 gd:Gd ck Γ C d X
 nd:X.N.Nodup
 fn:∀x,X.fn x=true
 po:PassesOwn (model X.prog X.w) X.A X.env X.xe
 kd:X.env.scope.kind=.function
theorem qB{ik:Ik}{iter tg:Expr}{src:List E}(g:Gd ck Γ C d X)(h:(match eL X.env.scope tg ik iter with|some as=>az ck src X.N X.env.scope as|none=>false)=true):PI X tg iter (tIt C ik (bA Γ src)):=by
 split at h
 ·rename_i as has;exact xn g has (gK src X _ g h) (fun a e=>by
   subst e;cases src with
   |nil=>simp[az]at h
   |cons e1 es1 =>
    cases es1 with
    |nil =>
     simp only[az,Bool.and_eq_true]at h;exact⟨e1,rfl,a_ e1 X _ g h.1.2⟩
    |cons _ _=>simp[az]at h) (cR h)
 ·cases h
theorem jH{elt:Expr}{gens:List Comprehension}{s:Scope}{pos p spos:Pos}{x:Str}(hk:X.env.scope.kind=.function):swapsWith (.ListComp elt gens s pos) (some (.Name x p)) spos.line X.env=pure (swB X.env.scope x p.line (.ListComp elt gens s pos)):=by
 have hb:X.env.blockKind=.function:=by
  unfold Env.blockKind;rw[hk];rfl
 show(pure (X.env.blockKind==.function&&X.env.kindOf x==some .local&&p.line==pos.line&&!(s.names.any fun(n,k)=>n==x&&(k==.local||k==.cell))):Sem Bool)=_;rw[hb];unfold swB;congr 1
 have:(X.env.kindOf x==some NameKind.local)=decide (X.env.scope.names.lookup x=some .local):=by
  unfold Env.kindOf;rw[Bool.eq_iff_iff];simp
 rw[this];rfl
theorem zc{i:Nat}{x:Str}{p spos pos:Pos}{n:Nat}{t:Bool}{ik:Ik}{src cond:List E}{e:E}{elt tg iter:Expr}{ifs:List Expr}{scope:Scope}(G:Gs ck Γ C d X)(hi:X.N[i]?=some x)(hx:lY X.env.scope x=true)
  (h:aw ck (.comp n t ik src cond e) X.N X.env.scope (.ListComp elt [⟨tg,iter,ifs,0⟩] scope pos)=true) (ns:Nat->Bool) (hns:∀j,ns j=true->j≠i) :
  L2.PS X (.Assign [.Name x p] (.ListComp elt [⟨tg,iter,ifs,0⟩] scope pos) spos) (tEx C ns (ev Γ (.comp n t ik src cond e) >>= fun r=>d9 i r >>= fun _=>pure .nx)):=by
 have g:=G.gd;have hE:=a_ (.comp n t ik src cond e) X _ g h;cases hsw:swB X.env.scope x p.line (.ListComp elt [⟨tg,iter,ifs,0⟩] scope pos) with
 |false=>exact xm hns G.nd hi (pd hx) (.inl (G.fn x)) hE (by rw[jH G.kd,hsw])
 |true =>
  have hl:X.env.scope.names.lookup x=some .local:=by
   simp only[swB,Bool.and_eq_true,decide_eq_true_eq]at hsw;exact hsw.1.1
  simp only[aw,Bool.and_eq_true,decide_eq_true_eq]at h;obtain⟨⟨⟨⟨⟨⟨⟨h1,h2⟩,h3⟩,h4⟩,h5⟩,h6⟩,h7⟩,h8⟩:=h;subst h1;have S:=tm (X:=X) rfl (kP _ _) h2;exact yZ hns S g.calm G.nd hi hl (qB g h5) (fun D s H ex=>qx (fa:=false) g.calm g.K S.nd (fun z=>nomatch z) h3)
   (fun D s H ex=>by
    cases ifs with
    |nil =>
     cases cond with
     |nil=>exact fun pins s σ H Q I ⟨c0,e1,e2,ok,w⟩=>pX pins s σ H Q I (by subst e1 e2;rw[show aS Γ []=pure true from rfl,ah]at w;exact w c0 rfl rfl ok (Nx.refl c0))
     |cons _ _=>simp[az]at h7
    |cons c1 cs =>
     cases cs with
     |nil =>
      cases cond with
      |nil=>simp[az]at h7
      |cons e1 es1 =>
       cases es1 with
       |nil =>
        simp only[az,Bool.and_eq_true]at h7;exact pY (l7 e1 (cxC X _ scope D s H ex) c1 (g.cx _ _ _ _ _ _) h7.1.2)
       |cons _ _=>simp[az]at h7
     |cons _ _=>simp at h6)
   (fun D s H ex=>a_ e (cxC X _ scope D s H ex) elt (g.cx _ _ _ _ _ _) h8) (by rw[jH G.kd,hsw]) (o_ h4)
mutual
theorem Bz:∀(s:S) (X:Cx) (s':Stmt),Gs ck Γ C d X->dg ck s X.N X.env.scope s'=true->L2.PS X s' (tEx C (nsS s) (exec Γ s))
 |.set i e,X,s',G,h=>by
  simp only[dg]at h;split at h
  ·rename_i x p v _;simp only[Bool.and_eq_true,decide_eq_true_eq]at h;obtain⟨⟨⟨⟨⟨h1,h2⟩,h3⟩,h4⟩,h5⟩,h6⟩:=h;have hns:∀j,nsS (.set i e) j=true->j≠i:=fun j hj=>by simpa[nsS] using hj
   by_cases hc:cI v=true
   ·exact xm hns G.nd h1 (pd h2) (.inl (G.fn x)) (a_ e X v G.gd h4) (gq hc)
   ·cases e with
    |comp n t ik src cond e =>
     have h4':=h4;simp only[aw]at h4';split at h4'
     ·exact zc G h1 h2 h4 _ hns
     ·cases h4'
    |_=>exact absurd h6 hc
  ·cases h
 |.setT is e,X,s',G,h=>by
  simp only[dg]at h;split at h
  ·simp only[Bool.and_eq_true]at h;obtain⟨⟨⟨h1,h2⟩,h3⟩,h4⟩:=h;rename_i es kk p v _;refine y0 (fun j hj=>by simpa[nsS] using hj) (a_ e X v G.gd h4) (qx (fa:=true) G.gd.calm G.gd.K G.nd (fun _=>G.fn) h1) (l8 h2) ?_ rfl;cases v<;>first|rfl|cases h3
  ·cases h
 |.put i a b,X,s',G,h=>by
  simp only[dg]at h;obtain⟨t,v,p,rfl,z1⟩:=jG h;obtain⟨o,a',p1,rfl,z2⟩:=dO z1;obtain⟨x,px,rfl,z3⟩:=ao z2;simp only[Bool.and_eq_true,decide_eq_true_eq]at z3;obtain⟨⟨⟨⟨⟨⟨h1,h2⟩,h3⟩,h4⟩,h5⟩,h6⟩,h7⟩:=z3;obtain⟨q1,q2⟩:=aT h3;exact Ax G.gd.P G.gd.w G.gd.K G.gd.u h1 (b_ h2) q1 q2 (a_ b X _ G.gd h7) (a_ a X _ G.gd h6) (l8 h4) rfl (qA h5)
 |.app i e,X,s',G,h=>by
  simp only[dg]at h;obtain⟨c,p0,rfl,z1⟩:=dP h;obtain⟨o,m,apos,as,cpos,rfl,z2⟩:=bh z1;obtain⟨x,px,rfl,z3⟩:=ao z2;obtain⟨a,rfl,z4⟩:=br z3;simp only[Bool.and_eq_true,decide_eq_true_eq]at z4;obtain⟨⟨⟨⟨⟨⟨rfl,h1⟩,h2⟩,h3⟩,h4⟩,h5⟩,h6⟩:=z4;obtain⟨q1,q2⟩:=aT h3;have st:=bt (env:=X.env) (es:=[]) h5;have sa:=(bu (pos:=cpos) (env:=X.env) (es:=[a]) fun e he=>by simp at he;subst he;exact h5).2;refine Av G.gd.K h1 (b_ h2) q1 q2 (a_ e X _ G.gd h6) ?_ h4 st;rw[sa];rfl
 |.ext i e,X,s',G,h=>by
  simp only[dg]at h;obtain⟨c,p0,rfl,z1⟩:=dP h;obtain⟨o,m,apos,as,cpos,rfl,z2⟩:=bh z1;obtain⟨x,px,rfl,z3⟩:=ao z2;obtain⟨a,rfl,z4⟩:=br z3;simp only[Bool.and_eq_true,decide_eq_true_eq]at z4;obtain⟨⟨⟨⟨⟨⟨rfl,h1⟩,h2⟩,h3⟩,h4⟩,h5⟩,h6⟩:=z4;obtain⟨q1,q2⟩:=aT h3;have st:=bt (env:=X.env) (es:=[]) h5;have sa:=(bu (pos:=cpos) (env:=X.env) (es:=[a]) fun e he=>by simp at he;subst he;exact h5).2;refine Aw G.gd.K h1 (b_ h2) q1 q2 (a_ e X _ G.gd h6) ?_ h4 st;rw[sa];rfl
 |.bad,X,s',G,h=>fun pins sh σ H D I ⟨_,_,_,_,w⟩=>(av.mp w).elim
 |.newD i,X,s',G,h=>by
  simp only[dg]at h;split at h
  ·simp only[Bool.and_eq_true,decide_eq_true_eq]at h;exact y4 (fun j hj=>by simpa[nsS] using hj) G.nd h.1 (pd h.2) (.inl (G.fn _)) (gq rfl)
  ·cases h
 |.putD i a b,X,s',G,h=>by
  simp only[dg]at h;obtain⟨t,v,p,rfl,z1⟩:=jG h;obtain⟨o,a',p1,rfl,z2⟩:=dO z1;obtain⟨x,px,rfl,z3⟩:=ao z2;simp only[Bool.and_eq_true,decide_eq_true_eq]at z3;obtain⟨⟨⟨⟨⟨⟨h1,h2⟩,h3⟩,h4⟩,h5⟩,h6⟩,h7⟩:=z3;obtain⟨q1,q2⟩:=aT h3;exact y6 G.gd.u h1 (b_ h2) q1 q2 (a_ b X _ G.gd h7) (a_ a X _ G.gd h6) (l8 h4) rfl (qA h5)
 |.appD i a e,X,s',G,h=>by
  simp only[dg]at h;obtain⟨c,p0,rfl,z1⟩:=dP h;obtain⟨o,m,apos,as,cpos,rfl,z2⟩:=bh z1;obtain⟨o',a',p1,rfl,z3⟩:=dO z2;obtain⟨x,px,rfl,z4⟩:=ao z3;obtain⟨b,rfl,z5⟩:=br z4;simp only[Bool.and_eq_true,decide_eq_true_eq]at z5;obtain⟨⟨⟨⟨⟨⟨⟨⟨rfl,h1⟩,h2⟩,h3⟩,h4⟩,h5⟩,h6⟩,h7⟩,h8⟩:=z5;obtain⟨q1,q2⟩:=aT h3;have st:=bt (env:=X.env) (es:=[]) h6;have sa:=(bu (pos:=cpos) (env:=X.env) (es:=[b]) fun e he=>by simp at he;subst he;exact h6).2;refine y7 G.gd.K G.gd.u h1 (b_ h2) q1 q2 (a_ e X _ G.gd h8) (a_ a X _ G.gd h7) (jE h4) ?_ h5 st;rw[sa];rfl
 |.aug sub i a e,X,s',G,h=>by
  simp only[dg]at h;split at h
  ·obtain⟨o,a',p1,rfl,z1⟩:=dO h;obtain⟨x,px,rfl,z2⟩:=ao z1;simp only[Bool.and_eq_true,decide_eq_true_eq]at z2;obtain⟨⟨⟨⟨⟨⟨rfl,h1⟩,h2⟩,h3⟩,h4⟩,h5⟩,h6⟩:=z2;obtain⟨q1,q2⟩:=aT h3;exact Az h1 (b_ h2) q1 q2 (a_ e X _ G.gd h6) (a_ a X _ G.gd h5) (wF h4)
  ·cases h
 |.rvs i,X,s',G,h=>by
  simp only[dg]at h;obtain⟨c,p0,rfl,z1⟩:=dP h;obtain⟨o,m,apos,as,cpos,rfl,z2⟩:=bh z1;obtain⟨x,px,rfl,z3⟩:=ao z2;simp only[Bool.and_eq_true,decide_eq_true_eq,List.isEmpty_iff]at z3;obtain⟨⟨⟨⟨⟨rfl,rfl⟩,h1⟩,h2⟩,h3⟩,h4⟩:=z3;obtain⟨q1,q2⟩:=aT h3;exact AA h1 (b_ h2) q1 q2 h4
 |.exp e,X,s',G,h=>by
  simp only[dg]at h;split at h
  ·simp only[Bool.and_eq_true]at h;exact Ap (a_ e X _ G.gd h.2) (gq h.1)
  ·cases h
 |.ret e,X,s',G,h=>by
  simp only[dg]at h;split at h
  ·exact Aq (a_ e X _ G.gd h)
  ·cases h
 |.retN,X,s',G,h=>by
  simp only[dg]at h;split at h
  ·exact yY
  ·cases h
 |.ite c a b,X,s',G,h=>by
  simp only[dg]at h;split at h
  ·simp only[Bool.and_eq_true]at h;have ha:=kR a X _ G h.1.2;have hb:=kR b X _ G h.2;exact Ar (l7 c X _ G.gd h.1.1) (PSs.weak ha fun D σ H z=>lW (fun j hj=>by simp only[nsS,Bool.and_eq_true]at hj;exact hj.1) z) (PSs.weak hb fun D σ H z=>lW (fun j hj=>by simp only[nsS,Bool.and_eq_true]at hj;exact hj.2) z)
  ·cases h
 |.for_ t is ik src body,X,s',G,h=>by
  simp only[dg]at h;split at h
  ·rename_i tg iter body' _;rw[Bool.and_eq_true,Bool.and_eq_true,Bool.and_eq_true]at h;exact Au G.po G.gd.calm (qB G.gd h.1.2) (qx (fa:=true) G.gd.calm G.gd.K G.nd (fun _=>G.fn) h.1.1.1) (kR body X _ G h.2) (o_ h.1.1.2) fun j hj=>by simpa[nsS] using hj
  ·cases h
 |.whl c body,X,s',G,h=>by
  simp only[dg]at h;split at h
  ·simp only[Bool.and_eq_true]at h;exact As G.po (l7 c X _ G.gd h.1) (kR body X _ G h.2)
  ·cases h
 |.brk,X,s',G,h=>by
  simp only[dg]at h;split at h
  ·exact Am
  ·cases h
 |.cnt,X,s',G,h=>by
  simp only[dg]at h;split at h
  ·exact An
  ·cases h
 |.pas,X,s',G,h=>by
  simp only[dg]at h;split at h
  ·exact Ao
  ·cases h
theorem kR:∀(ss:List S) (X:Cx) (ss':List Stmt),Gs ck Γ C d X->c9 ck ss X.N X.env.scope ss'=true->PSs X ss' (tEx C (nsL ss) (execs Γ ss))
 |[],X,ss',G,h=>by
  cases ss' with
  |nil=>exact Al
  |cons _ _=>simp[c9]at h
 |s::ss,X,ss',G,h=>by
  cases ss' with
  |nil=>simp[c9]at h
  |cons s' ss' =>
   simp only[c9,Bool.and_eq_true]at h;have h1:=Bz s X s' G h.1;have h2:=kR ss X ss' G h.2;exact yX (PS.weak h1 fun D σ H z=>lW (fun j hj=>by simp only[nsL,Bool.and_eq_true]at hj;exact hj.1) z) (PSs.weak h2 fun D σ H z=>lW (fun j hj=>by simp only[nsL,Bool.and_eq_true]at hj;exact hj.2) z)
end
end
end TM
namespace TM
open PySem L2 PyProof.Rows
section
variable{ck:Ck}{Γ:Tab}{d:Nat}{P:Program}{w:World}{K:PySem.W.Frag}{mg:Str->Option Value}{base:Heap}
theorem gL{us:List U}{n i:Nat}{k:Kd}{u:U}(h:(start us n)[i]?=some (some (k,u))):us[i]?=some u/\k=if imm u=true then .loc else .any:=by
 unfold start at h;by_cases hi:i<us.length
 ·rw[List.getElem?_append_left (by simpa using hi),List.getElem?_map]at h;rw[List.getElem?_eq_getElem hi]at h ⊢;simp only[Option.map_some,Option.some.injEq,Prod.mk.injEq]at h;obtain⟨h1,h2⟩:=h;subst h2;exact⟨rfl,h1.symm⟩
 ·rw[List.getElem?_append_right (by simp;omega),List.getElem?_replicate]at h;split at h<;>cases h
theorem pe{vs:List V}{N:List Str}{i:Nat}{v:V}(h:vs[i]?=some v):(L2.start N vs)[i]?=some (some v):=by
 unfold L2.start;have hi:i<vs.length:=(List.getElem?_eq_some_iff.mp h).1;rw[List.getElem?_append_left (by simpa using hi),List.getElem?_map,h];rfl
theorem um{us:List U}{vs:List V}{N:List Str}{H:Hp}{Pr:Addr->Prop}(hP:∀a,Pr a->Dom H a)(h:ai (ct0 P w K H Pr) Pr H us vs){n:Nat}(hn:N.length=n):Ok (ct0 P w K H Pr) ⟨fun _=>False,H,L2.start N vs,start us n,fun _=>[]⟩:=by
 have noD:∀(j:Nat) (u:U),(start us n)[j]?≠some (some (.ownD,u)):=fun j u e=>by
  have:=(gL e).2;split at this<;>cases this
 refine⟨fun a o e _=>e,fun a z=>z.elim,fun a z=>⟨hP a z,fun z=>z⟩,fun a z=>z.elim,?_,fun i k u e=>?_,fun i j k k' u u' r hk hk' e1 e2 e3 e4=>?_,⟨fun j u r e _=>(noD j u e).elim,fun i j a ⟨u,_,e,_⟩=>(noD i u e).elim,fun j a ⟨u,_,e,_⟩=>(noD j u e).elim⟩⟩
 ·have:=h.len;simp[start,L2.start,hn];omega
 ·obtain⟨e1,e2⟩:=gL e;obtain⟨v,ev,rep⟩:=h.get e1;refine⟨v,pe ev,?_⟩;subst e2;by_cases hu:imm u=true
  ·rw[if_pos hu];exact Rep.imm hu rep
  ·rw[if_neg hu];exact Rep.mv (.up fun a z=>.inl z) rep
 ·obtain⟨_,e5⟩:=gL e1;subst e5;split at hk<;>cases hk
theorem l9{fn:Fn}{us:List U}{k:Kd}{u:U}(h:bW Γ fn us=some (.ok (k,u))):us.length=fn.np/\((k=.own\/k=.loc\/k=.any)/\(∃st',execs Γ fn.body (start us fn.ns)=some (.ok (.rt k u),st'))\/(k=.loc/\u=.non/\∃st',execs Γ fn.body (start us fn.ns)=some (.ok .nx,st'))):=by
 unfold bW at h;split at h
 ·rename_i hl;refine⟨hl,?_⟩;split at h
  ·rename_i e;cases h;exact .inl ⟨.inl rfl,_,e⟩
  ·rename_i e;cases h;exact .inl ⟨.inr (.inl rfl),_,e⟩
  ·rename_i e;cases h;exact .inl ⟨.inr (.inr rfl),_,e⟩
  ·rename_i e;cases h;exact .inr ⟨rfl,rfl,_,e⟩
  ·cases h
  ·cases h
 ·cases h
theorem xr{fn:Fn}{qual:Str}{st:Stmt}{f:Addr}{fd:FuncData}{N ps:List Str}(F:Fun K fn.name qual st f fd)(S:dB N ps (aK st))(hN:N.length=fn.ns)(hps:ps.length=fn.np)
  (hchk:c9 ck fn.body N (aK st) (cu st)=true) (blt:∀x∈bB,mg x=none) (fns:∀g∈ck.fns,y_ P w K mg base d (Γ g) g)
  (gls:∀p∈ck.gl,∃val v,mg p.1=some val/\RelV v val/\∀(C:Ct) S H,Rep C S H p.2 v):mM P w K mg base CX0 (d+1) f fd ps (spT P w K (bW Γ fn) fn.np):=by
 refine F.ok S (fun vs H Q E h=>h.1.trans hps.symm) (fun cdv A outer s H vs Q E hr h=>?_);obtain⟨hl,us,k,u,Pr,hrun,hk,hPr,rep,cont⟩:=h;have hun:=hr.un;have G:Gs ck Γ (ct0 P w K H Pr) d (om CX0 P w K mg base N qual (aK st) f cdv A outer s H E).nox :=
  ⟨⟨rfl,rfl,rfl,by show(A.deeper (envOfC qual (aK st) s.heap.objs.size f cdv)).units+60<cLine;omega,rfl,hr,blt,fns,fun p hp=>let ⟨val,v,q1,q2,q3⟩:=gls p hp;⟨val,v,q1,q2,q3 _⟩⟩,S.nd,fun _=>rfl,PassesOwn.never,S.kind⟩
 refine⟨_,kR fn.body _ _ G hchk,⟨fun _=>False,H,L2.start N vs,start us fn.ns,fun _=>[]⟩,rfl,rfl,um hPr rep hN,?_⟩;obtain⟨_,hres⟩:=l9 hrun;have mk:∀(c:Cf),Ok (ct0 P w K H Pr) c->∀v,Ak (ct0 P w K H Pr) c k u v->Back (ct0 P w K H Pr) H c.H c.S k u v:=fun c ok v r=>by
  refine⟨fun a o e=>ok.same a o e fun z=>z,fun a z=>ok.sfr a z,fun e=>?_,fun e=>?_,fun e=>?_⟩
  ·subst e;obtain⟨r0,e,h1,h2,h3,h4⟩:=r;exact⟨r0,e,h1,h2,h4⟩
  ·subst e;exact r
  ·subst e;exact r
 rcases hres with⟨_,st',e⟩|⟨rfl,rfl,st',e⟩
 ·exact⟨_,st',e,fun c ec ok n kp v r=>cont v c.H c.S (mk c ok v r)⟩
 ·exact⟨_,st',e,fun c ec ok n kp=>cont .non c.H c.S (mk c ok .non rfl)⟩
structure Ld(ck:Ck)(K:PySem.W.Frag)(mg:Str->Option Value)(fn:Fn):Prop where
 ex:∃(qual:Str) (st:Stmt) (f:Addr) (fd:FuncData) (N ps:List Str),Fun K fn.name qual st f fd/\mg fn.name=some (.ref f)/\Binds K fd ps []/\dB N ps (aK st)/\N.length=fn.ns/\ps.length=fn.np/\c9 ck fn.body N (aK st) (cu st)=true
theorem wG{Pg:List Fn}(hnd:(Pg.map (·.name)).Nodup){fn:Fn}(h:fn∈Pg):Pg.find? (fun g=>decide (g.name=fn.name))=some fn:=by
 induction Pg with
 |nil=>cases h
 |cons g Pg ih =>
  rw[List.map_cons,List.nodup_cons]at hnd;rcases List.mem_cons.mp h with rfl|h
  ·simp
  ·rw[List.find?_cons];have:decide (g.name=fn.name)=false:=by
    apply decide_eq_false;intro z;exact hnd.1 (z▸List.mem_map_of_mem h)
   rw[this];exact ih hnd.2 h
theorem uo{Pg:List Fn}(hnd:(Pg.map (·.name)).Nodup){fn:Fn}(h:fn∈Pg):sem Pg (d+1) fn.name=bW (sem Pg d) fn:=by
 funext us
 show(match Pg.find? fun g=>decide (g.name=fn.name) with|some fn=>bW (sem Pg d) fn us|none=>none)=_;rw[wG hnd h]
theorem wH{Pg:List Fn}(hnd:(Pg.map (·.name)).Nodup)(hck:ck.fns=Pg.map (·.name))(blt:∀x∈bB,mg x=none)(gls:∀p∈ck.gl,∃val v,mg p.1=some val/\RelV v val/\∀(C:Ct) S H,Rep C S H p.2 v)
  (ld:∀fn∈Pg,Ld ck K mg fn):∀d,∀fn∈Pg,y_ P w K mg base d (sem Pg d fn.name) fn.name:=by
 intro d;induction d with
 |zero =>
  intro fn hfn;obtain⟨qual,st,f,fd,N,ps,F,hm,hb,S,hN,hps,hc⟩:=(ld fn hfn).ex;exact⟨fn.np,f,fd,ps,⟨fun vs H Q E h=>h.1.trans hps.symm,fun A outer s H args us vs Q E _ _ _ _ h=>by obtain⟨_,us,k,u,_,e,_⟩:=h;cases e⟩,hm,F.kp,hb,fun us k u e=>by cases e⟩
 |succ d ih =>
  intro fn hfn;obtain⟨qual,st,f,fd,N,ps,F,hm,hb,S,hN,hps,hc⟩:=(ld fn hfn).ex;rw[uo hnd hfn];refine⟨fn.np,f,fd,ps,xr F S hN hps hc blt (fun g hg=>?_) gls,hm,F.kp,hb,fun us k u e=>?_⟩
  ·rw[hck]at hg;obtain⟨fn',h1,rfl⟩:=List.mem_map.mp hg;exact ih fn' h1
  ·obtain⟨h1,h2⟩:=l9 e;refine⟨?_,h1⟩;rcases h2 with⟨z,_⟩|⟨z,_⟩
   ·exact z
   ·exact .inr (.inl z)
end
noncomputable def pf(ns:List Int):U:=.lst (ns.map .int)
theorem kS{C:Ct}{S:Addr->Prop}{H:Hp}:∀(ns:List Int),ai C S H (ns.map .int) (ns.map V.int)
 |[]=>rfl
 |n::ns=>⟨_,_,rfl,rfl,kS ns⟩
theorem ph{C:Ct}{H:Hp}{a:Addr}{ns:List Int}(h:SqL C.K H a (ns.map V.int)):Rep C (Dom H) H (pf ns) (.ref a):=by
 refine⟨a,_,rfl,?_,kS ns⟩;rcases h with(h|⟨o,h⟩)|h
 ·exact .inl ⟨⟨_,h⟩,.inl h⟩
 ·exact .inl ⟨⟨_,h⟩,.inr ⟨o,h⟩⟩
 ·exact .inr h
theorem nB{α β:Type}{f g:α->Option β}:∀{l:List α},(∀a∈l,f a=g a)->l.filterMap f=l.filterMap g
 |[],_=>rfl
 |a::l,h=>by rw[List.filterMap_cons,List.filterMap_cons,h a (by simp),nB fun b hb=>h b (by simp[hb])]
theorem qC:∀(l:List Str) (us:List Value),l.Nodup->us.length=l.length->l.filterMap (fun n=>((l.zip us).lookup n).map (n,·))=l.zip us
 |[],_,_,_=>rfl
 |a::l,[],_,h=>nomatch h
 |a::l,u::us,nd,h=>by
  rw[List.nodup_cons]at nd;have ih:=qC l us nd.2 (by simpa using h);simp only[List.zip_cons_cons,List.filterMap_cons,List.lookup_cons,beq_self_eq_true,Option.map_some];congr 1
  conv=>rhs;rw[<-ih]
  refine nB fun n hn=>?_;have:(n==a)=false:=by
   rw[beq_eq_false_iff_ne];rintro rfl;exact nd.1 hn
  rw[this]
theorem uq(l:List Str)(us:List Value)(h:us.length=l.length):l.filter (fun n=>((l.zip us).lookup n).isNone)=[]:=by
 rw[List.filter_eq_nil_iff];intro n hn;induction l generalizing us with
 |nil=>cases hn
 |cons a l ih =>
  cases us with
  |nil=>cases h
  |cons u us =>
   simp only[List.zip_cons_cons,List.lookup_cons];cases e:n==a with
   |true=>simp
   |false =>
    rcases List.mem_cons.mp hn with rfl|hn
    ·simp at e
    ·exact ih us (by simpa using h) hn
theorem ur{x q:Str}{as:List Arg}{body:List Stmt}{scope:Scope}{kV doc pm cdv ct:Value}{an:Option Addr}{us:List Value}(nd:(as.map (·.arg)).Nodup)(hl:us.length=(as.map (·.arg)).length):
  bindArgs (PySem.W.fnOf x q ⟨[],as,none,[],[],none,[]⟩ body scope .none kV doc pm an cdv ct) ⟨us,[]⟩=pure ((as.map (·.arg)).zip us):=by
 have h1:=qC _ us nd hl;have h2:=uq _ us hl;have hs:seqItems? Value.none=pure none:=rfl;simp only[bindArgs,PySem.W.fnOf,List.map_nil,List.nil_append,List.append_nil,hs,pure_bind,Option.getD_none,List.length_nil,Nat.sub_zero,List.drop_nil,List.zip_nil_right,List.forIn_nil,h1];rw[if_neg (by simp[hl])];rw[List.length_map,List.take_of_length_le (by simp),h2];rfl
structure Me where
 fn:Fn
 i:Nat
 N:List Str
 a:Addr
 c:Addr
 m:Value
 cr:Obj
noncomputable def Me.fd(top:Nat->Stmt)(m:Me):FuncData:=PySem.W.fnOf m.fn.name m.fn.name (eU (top m.i)) (cu (top m.i)) (aK (top m.i)) .none .none .none m.m none (.ref m.c) .none
noncomputable def Me.fo(top:Nat->Stmt)(m:Me):Obj:=⟨.type "function",none,.func (m.fd top),#[]⟩
noncomputable def adr(ms:List Me):List Addr:=3::ms.flatMap fun m=>[m.c,m.a]
noncomputable def frg(top:Nat->Stmt)(g:Obj)(ms:List Me):PySem.W.Frag:=(3,g)::ms.flatMap fun m=>[(m.c,m.cr),(m.a,m.fo top)]
theorem qD(top:Nat->Stmt)(g:Obj)(ms:List Me):adr ms=(frg top g ms).map (·.1):=by
 unfold adr frg;rw[List.map_cons,List.map_flatMap];rfl
noncomputable def zd(v:Option (Option Value))(a:Addr):Bool:=match v with|some (some (.ref b))=>decide (b=a)|_=>false
theorem wI{v:Option (Option Value)}{a:Addr}(h:zd v a=true):v=some (some (.ref a)):=by
 unfold zd at h;split at h
 ·rw[of_decide_eq_true h]
 ·cases h
noncomputable def nn(o:Option (Option Value)):Bool:=match o with|some none=>true|_=>false
theorem AF{o:Option (Option Value)}(h:nn o=true):o=some none:=by
 unfold nn at h;split at h
 ·rfl
 ·cases h
noncomputable def AG(p:Arguments)(ps:List Str):Bool:=p.posonlyargs.isEmpty&&p.vararg.isNone&&p.kwonlyargs.isEmpty&&p.kw_defaults.isEmpty&&p.kwarg.isNone&&p.defaults.isEmpty&&decide (p.args.map (·.arg)=ps)
noncomputable def scB(N:List Str)(np:Nat)(sc:Scope):Bool:=decide (sc.kind=.function)&&decide (sc.isCoroutine=false)&&decide (sc.isGenerator=false)&&decide N.Nodup&&(N.take np).all (lY sc)&&sc.names.all (fun y=>decide (y.2≠.free))
noncomputable def mOk(ck:Ck)(top:Nat->Stmt)(K:PySem.W.Frag)(m:Me):Bool:=PySem.W.codeIn K (.ref m.c) m.fn.name&&PySem.W.keepIn K (.ref m.a)&&zd (PySem.W.nsIn K mainGlobals m.fn.name) m.a&&AG (eU (top m.i)) (m.N.take m.fn.np) &&
 scB m.N m.fn.np (aK (top m.i))&&decide (m.N.length=m.fn.ns)&&decide (m.fn.np<=m.fn.ns)&&c9 ck m.fn.body m.N (aK (top m.i)) (cu (top m.i))
noncomputable def glK(K:PySem.W.Frag)(p:Str×U):Bool:=match p.2,PySem.W.nsIn K mainGlobals p.1 with
 |.int i,some (some (.int j _))=>decide (i=j)
 |.str i,some (some (.str j _))=>decide (i=j)
 |_,_=>false
noncomputable def gOk(ck:Ck)(top:Nat->Stmt)(K:PySem.W.Frag)(ms:List Me):Bool:=ms.all (mOk ck top K)&&bB.all (fun y=>nn (PySem.W.nsIn K mainGlobals y))&&ck.gl.all (glK K)&&decide (K.map (·.1)).Nodup
theorem AH{K:PySem.W.Frag}(nd:(K.map (·.1)).Nodup){a:Addr}{o:Obj}(h:(a,o)∈K):K.lookup a=some o:=by
 induction K with
 |nil=>cases h
 |cons p K ih =>
  rw[List.map_cons,List.nodup_cons]at nd;rw[List.lookup_cons];rcases List.mem_cons.mp h with rfl|h
  ·simp
  ·have:(a==p.1)=false:=by
    rw[beq_eq_false_iff_ne];rintro rfl;exact nd.1 (List.mem_map.mpr ⟨_,h,rfl⟩)
   rw[this];exact ih nd.2 h
section
variable{ck:Ck}{top:Nat->Stmt}{g:Obj}{ms:List Me}
theorem xt(hm:gOk ck top (frg top g ms) ms=true){m:Me}(h:m∈ms):Fun (frg top g ms) m.fn.name m.fn.name (top m.i) m.a (m.fd top)/\PySem.W.nsIn (frg top g ms) mainGlobals m.fn.name=some (some (.ref m.a)) /\
  (∀us:List Value,us.length=(m.N.take m.fn.np).length->bindArgs (m.fd top) ⟨us,[]⟩=pure ((m.N.take m.fn.np).zip us))/\dB m.N (m.N.take m.fn.np) (aK (top m.i))/\m.N.length=m.fn.ns/\(m.N.take m.fn.np).length=m.fn.np/\c9 ck m.fn.body m.N (aK (top m.i)) (cu (top m.i))=true:=by
 simp only[gOk,Bool.and_eq_true,decide_eq_true_eq]at hm;have z:=List.all_eq_true.mp hm.1.1.1 m h;simp only[mOk,Bool.and_eq_true,decide_eq_true_eq]at z;obtain⟨⟨⟨⟨⟨⟨⟨z1,z2⟩,z3⟩,z4⟩,z5⟩,z6⟩,z7⟩,z8⟩:=z;simp only[scB,Bool.and_eq_true,decide_eq_true_eq]at z5;obtain⟨⟨⟨⟨⟨s1,s2⟩,s3⟩,s4⟩,s5⟩,s6⟩:=z5;have hlk:(frg top g ms).lookup m.a=some (m.fo top):=AH hm.2 (List.mem_cons.mpr (.inr (List.mem_flatMap.mpr ⟨m,h,by simp⟩)));have hl:(m.N.take m.fn.np).length=m.fn.np:=by rw[List.length_take];omega
 refine⟨yd hlk z1 z2,wI z3,fun us hu=>?_,⟨s1,s2,s3,s4,by rw[hl],fun x hx=>?_,fun y hy=>?_⟩,z6,hl,z8⟩
 ·unfold Me.fd;revert z4;cases eU (top m.i) with
  |mk po as va ko kd kw df =>
   intro z4;simp only[AG,Bool.and_eq_true,List.isEmpty_iff,Option.isNone_iff_eq_none,decide_eq_true_eq]at z4;obtain⟨⟨⟨⟨⟨⟨rfl,rfl⟩,rfl⟩,rfl⟩,rfl⟩,rfl⟩,e⟩:=z4;rw[<-e]at hu ⊢;exact ur (by rw[e];exact(List.take_sublist _ _).nodup s4) hu
 ·have:=List.all_eq_true.mp s5 x hx;simpa[lY] using this
 ·have:=List.all_eq_true.mp s6 y hy;simpa using this
theorem AI{h:Heap}{mg:Str->Option Value}(hm:gOk ck top (frg top g ms) ms=true)(X:(frg top g ms).In h)(G:h.Ns mainGlobals mg){m:Me}(hi:m∈ms):Ld ck (frg top g ms) mg m.fn :=
 let ⟨a,b,c,d,e,f,k⟩:=xt hm hi
 ⟨_,_,_,_,_,_,a,PySem.W.mg_of X G b,.all c,d,e,f,k⟩
theorem ze{h:Heap}{mg:Str->Option Value}(hm:gOk ck top (frg top g ms) ms=true)(X:(frg top g ms).In h)(G:h.Ns mainGlobals mg):∀p∈ck.gl,∃val v,mg p.1=some val/\RelV v val/\∀(C:Ct) S H,Rep C S H p.2 v:=by
 intro p hp;simp only[gOk,Bool.and_eq_true,decide_eq_true_eq]at hm;have z:=List.all_eq_true.mp hm.1.2 p hp;unfold glK at z;split at z
 ·rename_i i j k e1 e2;obtain rfl:=of_decide_eq_true z;exact⟨_,.int i,PySem.W.mg_of X G e2,⟨_,rfl⟩,fun _ _ _=>by rw[e1];rfl⟩
 ·rename_i i j k e1 e2;obtain rfl:=of_decide_eq_true z;exact⟨_,.str i,PySem.W.mg_of X G e2,⟨_,rfl⟩,fun _ _ _=>by rw[e1];rfl⟩
 ·cases z
end
theorem walk{l:PySem.W.OpenLaw}{q:Program}{loose:List Str}{XP:(Str->Option Value)->Heap->Prop}{YP:World->Heap->Prop}{d:DefRec}{K:Params->PySem.W.Frag}{Pg:List Fn}{ck:Ck}{dp:Nat}{x:Str}
  (hn:l.most=some 63) (hdf:d.params.defaults=[]) (hr:ft (dp+1) callerA) (hY:∀(w:World) (h:Heap),YP w h->(K w.params).In h)
  (hnd:(Pg.map (·.name)).Nodup) (hck:ck.fns=Pg.map (·.name)) {fn:Fn} (hfn:fn∈Pg) (hname:fn.name=d.name)
  (F:∀(w:World) (mg:Str->Option Value) (fa:Addr) (h:Heap),(K w.params).In h->h.Ns mainGlobals mg->mg d.name=some (.ref fa) ->
   (∀y∈bB,mg y=none)/\(∀p∈ck.gl,∃val v,mg p.1=some val/\RelV v val/\∀(C:Ct) S H,Rep C S H p.2 v)/\(∀g∈Pg,Ld ck (K w.params) mg g) /\
   ∃(qual:Str) (st:Stmt) (fd:FuncData) (N:List Str),Fun (K w.params) fn.name qual st fa fd/\dB N [x] (aK st)/\N.length=fn.ns/\1=fn.np/\c9 ck fn.body N (aK st) (cu st)=true/\∀(s:Shared) (u:Value),BindsTo s fd ⟨[u],[]⟩ [(x,u)])
  (T:∀ns:List Int,ns.length<=63->sem Pg (dp+1) fn.name [pf ns]=some (.ok (.loc,.bl true))) :
  PySem.W.WalkO q loose XP YP l.row.toRowW d [] (fun f vs=>PySem.call f vs) :=
 L2.vq (n:=63) (k:=dp+1) (x:=x) (CX:=fun _=>CX0) (sp:=fun w=>spT l.prog w (K w.params) (bW (sem Pg dp) fn) fn.np) hn (by decide) hdf hr hY
  (fun w mg fa h KX G hmg=>by
   obtain⟨blt,gls,ld,qual,st,fd,N,F1,S,hN,hps,hc,hb⟩:=F w mg fa h KX G hmg;refine⟨fd,hb,fun base _ _=>xr F1 S hN hps hc blt (fun g hg=>?_) gls⟩;rw[hck]at hg;obtain⟨fn',h1,rfl⟩:=List.mem_map.mp hg;exact wH hnd hck blt gls ld dp fn' h1)
  (fun w H a ns hl _ hS=>by
   have t:=T ns hl;rw[uo hnd hfn]at t;have hnp:fn.np=1:=(l9 t).1.symm;exact⟨hnp.symm,[pf ns],.loc,.bl true,Dom H,t,.inr (.inl rfl),fun _ z=>z,⟨_,_,rfl,ph hS,rfl⟩,fun v H' S' b=>b.loc rfl⟩)
  fun _ _ _ _ _ z=>z
theorem walk2{l:PySem.W.OpenLaw}{q:Program}{loose:List Str}{XP:(Str->Option Value)->Heap->Prop}{d:DefRec}{top:Nat->Stmt}{g:Params->Obj}{ms:List Me}{Pg:List Fn}{ck:Ck}{dp:Nat}{x:Str}{m:Me}
  (hn:l.most=some 63) (hdf:d.params.defaults=[]) (hr:ft (dp+1) callerA) (hP:ms.map (·.fn)=Pg) (hnd:(Pg.map (·.name)).Nodup) (hck:ck.fns=Pg.map (·.name)) (hm:m∈ms) (hname:m.fn.name=d.name) (hx:m.N.take m.fn.np=[x])
  (ok:∀P,gOk ck top (frg top (g P) ms) ms=true) (T:∀ns:List Int,ns.length<=63->sem Pg (dp+1) m.fn.name [pf ns]=some (.ok (.loc,.bl true))) :
  PySem.W.WalkO q loose XP (PySem.W.kHook (fun P=>frg top (g P) ms) (adr ms) fun P=>qD top (g P) ms).says l.row.toRowW d [] (fun f vs=>PySem.call f vs) :=
 walk hn hdf hr (fun w h Y=>PySem.W.kIn_of Y) hnd hck (hP▸List.mem_map.mpr ⟨m,hm,rfl⟩) hname (fun w mg fa h X G hfa=>by
  have hk:=ok w.params;obtain⟨a,b,c,e,f,k,n⟩:=xt hk hm;rw[<-hname,PySem.W.mg_of X G b]at hfa;cases hfa;rw[hx]at c e k;refine⟨fun y hy=>PySem.W.mg_none_of X G (AF ?_),ze hk X G,fun y hy=>?_,_,_,_,_,a,e,f,k,n,fun s u=>.of_eq (c [u] rfl)⟩
  ·simp only[gOk,Bool.and_eq_true]at hk;exact List.all_eq_true.mp hk.1.1.2 y hy
  ·rw[<-hP]at hy;obtain⟨m',h1,rfl⟩:=List.mem_map.mp hy;exact AI hk X G h1) T
noncomputable def co(n:Str)(k l np:Nat)(r s:Addr)(x y z:Value)(a b t:Nat):Obj:=⟨.type "code",none,.fields #[.str n k,.str n (k+1),.str "/claim/cut.py" (k+2),.int l 0,.int np 0,.int 0 0,.int 0 0,.int 3 0,.ref r,.bool Bool.true,.int t 0,.ref s,.none,x,y,z,.int a 0,.int l 0,.str "/claim/cut.py" b],#[]⟩
noncomputable def ge(P:Params)(x:Str)(k:Nat)(v:Value):DictEntry:=⟨PyData.keyHash P x,.str x k,v⟩
end TM
namespace W01
open PySem L2
noncomputable def cz(l:List Nat):Prop:=dZ l=true\/∃a b k,l=a++47::b/\dZ a=true/\2<=k/\k<=99/\(mV k).cps.toList=b
theorem len_list(x:Str):x.length=x.cps.toList.length:=by simp[Str.length]
theorem gM{k:Int}(h0:0<=k)(h1:k<=99):(mV k).length<=2:=by
 obtain⟨m,rfl⟩:=Int.eq_ofNat_of_zero_le h0;have hm:m<100:=by omega
 clear h0 h1;revert m;decide +kernel
theorem cz.len{l:List Nat}(h:cz l):1<=l.length/\l.length<=11:=by
 rcases h with h|⟨a,b,k,rfl,h,h2,h9,hb⟩
 ·have:=(cj l).mp h;omega
 ·have:=(cj a).mp h;have hl:=gM (k:=k) (by omega) h9;rw[len_list,hb]at hl;simp;omega
theorem cz.BA{x:Str}(h:cz x.cps.toList):∃y r,Txt.split x xh=y::r/\dZ y.cps.toList=true:=by
 rcases h with h|⟨a,b,k,e,h,_⟩
 ·exact⟨x,[],ox (mT h),h⟩
 ·obtain⟨r,e'⟩:=sW e (mT h) (by decide);exact⟨_,r,e',by simpa using h⟩
theorem d6:∀(ps:List Str) (acc:Array Nat),(ps.foldl (fun acc p=>acc++Str.empty.cps++p.cps) acc).toList=acc.toList++(ps.map fun p=>p.cps.toList).flatten
 |[],acc=>by simp
 |p::ps,acc=>by
  rw[List.foldl_cons,d6 ps];have:Str.empty.cps=#[]:=rfl;simp[this]
theorem join_list(ts:List Str):(Txt.join Str.empty ts).cps.toList=(ts.map fun p=>p.cps.toList).flatten:=by
 cases ts with
 |nil=>rfl
 |cons t ts =>
  show(ts.foldl (fun acc p=>acc++Str.empty.cps++p.cps) t.cps).toList=_;rw[d6];simp
noncomputable def one(c:Nat):Str:=⟨#[c]⟩
theorem join_ones(cs:List Nat):(Txt.join Str.empty (cs.map one)).cps.toList=cs:=by
 rw[join_list,List.map_map];induction cs with
 |nil=>rfl
 |cons c cs ih=>rw[List.map_cons,List.flatten_cons,ih];rfl
theorem nE(cs:List Nat)(h:cs.length<=100):JoinOk Str.empty (cs.map one)=true:=by
 unfold JoinOk;have e:=PySem.StrLaws.joinTotal Str.empty (cs.map one);have e0:Str.empty.length=0:=rfl;have es:((cs.map one).map (·.length)).sum=cs.length:=by
  rw[List.map_map];clear h e;induction cs with
  |nil=>rfl
  |cons c cs ih=>rw[List.map_cons,List.sum_cons,ih];show 1+cs.length=cs.length+1;omega
 rw[e,e0,es];have hm:cs.length+(cs.map one).length * 0<=100:=by omega
 revert hm;generalize cs.length+(cs.map one).length * 0=m;revert m;decide
theorem zf(x:Str)(j:Nat):(PySem.StrLaws.sliceText x none (some (j:Int))).cps.toList=x.cps.toList.take j:=by
 by_cases h:j<=x.cps.toList.length
 ·rw[PySem.StrLaws.sliceText_to (x:=x) ⟨by omega,by omega⟩];simp
 ·have e:PySem.StrLaws.sliceText x none (some (j:Int))=PySem.StrLaws.sliceText x none (some (x.length:Int)):=by
   unfold PySem.StrLaws.sliceText;have hl:=len_list x;have:PySem.Builtin.Str.strSliceIndices none (some (j:Int)) 1 x.length=PySem.Builtin.Str.strSliceIndices none (some (x.length:Int)) 1 x.length:=by
    have h1:¬((j:Int)<0):=by omega
    have h2:¬((x.length:Int)<0):=by omega
    have e1:min (j:Int) (x.length:Int)=x.length:=by omega
    simp[PySem.Builtin.Str.strSliceIndices,h1,h2,e1]
   rw[this]
  have hl:=len_list x;rw[e,PySem.StrLaws.sliceText_to (x:=x) ⟨by omega,by omega⟩,List.drop_zero,List.take_of_length_le (l:=x.cps.toList) (i:=j) (by omega)];show(x.cps.toList.take ((x.length:Int) - 0).toNat).toArray.toList=_;rw[List.take_of_length_le (by omega)]
theorem rR{a b:List Nat}(ha:dZ a=true)(hb:∀c∈b,low c=true):dZ ((a++b).take 8)=true:=by
 have h:=(cj a).mp ha;refine(cj _).mpr ⟨by simp;omega,by simp;omega,fun c hc=>?_⟩;have hc':=List.mem_of_mem_take hc;rcases List.mem_append.mp hc' with m|m
 ·exact h.2.2 c m
 ·have:=hb c m;simp[low]at this;omega
theorem hZ{b:List Nat}(hb:∀c∈b,low c=true)(h1:1<=b.length)(h8:b.length<=8):dZ b=true :=
 (cj b).mpr ⟨h1,h8,fun c hc=>by have:=hb c hc;simp[low]at this;omega⟩
noncomputable def small:Str:="abcdefghijklmnopqrstuvwxyz"
theorem pj:small.cps.toList=(List.range 26).map (97+·):=by decide +kernel
theorem jI{k:Int}(h0:0<=k)(h1:k<26):atI small.cps.toList k=some (97+k.toNat):=by
 obtain⟨j,rfl⟩:=Int.eq_ofNat_of_zero_le h0;refine cq ?_;rw[pj,List.getElem?_map,List.getElem?_range (by omega)];rfl
theorem pk{j:Nat}(h:j<26):low (97+j)=true:=by simp[low];omega
noncomputable def kU(k:Nat):Str:=⟨#[97+k / 26,97+k % 26]⟩
theorem pq{k:Nat}(h:k<40):dZ (kU k).cps.toList=true:=by
 refine hZ (fun c hc=>?_) (by show 1<=2;decide) (by show 2<=8;decide);have hc':c=97+k / 26\/c=97+k % 26:=by simpa[kU] using hc
 rcases hc' with rfl|rfl
 ·exact pk (by omega)
 ·exact pk (by omega)
theorem nF{α:Type}[DecidableEq α]:∀{l m:List α},l.Nodup->(∀x∈l,x∈m)->l.length<=m.length
 |[],_,_,_=>Nat.zero_le _
 |x::l,m,hn,h=>by
  obtain⟨h1,h2⟩:=List.nodup_cons.mp hn;have hx:=h x List.mem_cons_self;have ih:=nF (l:=l) (m:=m.erase x) h2 fun y hy=>(List.mem_erase_of_ne (by rintro rfl;exact h1 hy)).mpr (h y (List.mem_cons_of_mem _ hy));rw[List.length_erase_of_mem hx]at ih;have:0<m.length:=List.length_pos_of_mem hx;rw[List.length_cons];omega
noncomputable def bC:List Str:=(List.range 40).map kU
theorem l_:bC.Nodup:=by
 decide +kernel
theorem pv(names:List Str)(h:names.length<40):∃x∈bC,x∉names:=by
 apply Classical.byContradiction;intro hno;have:∀x∈bC,x∈names:=fun x hx=>Classical.byContradiction fun hn=>hno ⟨x,hx,hn⟩;have:=nF l_ this;simp[bC]at this;omega
end W01
namespace TM
open PySem L2
section
variable{α β:Type}{Γ:Tab}{st st1 st2 st3 st4:ag}
noncomputable def Run(m:M α)(st:ag)(a:α)(st':ag):Prop:=m st=some (.ok a,st')
theorem aa{m:M α}{f:α->M β}{a:α}{b:β}(h1:Run m st a st1)(h2:Run (f a) st1 b st2):Run (m >>= f) st b st2:=by
 show M.bind m f st=_;unfold M.bind;rw[show m st=_ from h1];exact h2
theorem aU{a:α}:Run (pure a:M α) st a st:=rfl
theorem cE{o:Option α}{a:α}(h:o=some a):Run (M.ofO o) st a st:=by subst h;rfl
theorem a5{rs:List (Kd×U)}(h:ba rs st):Run (au rs) st () st:=by show au rs st=_;unfold au;rw[if_pos h]
noncomputable def kv(i:Nat)(k:Kd):Kd:=if k.root=true then .bor i else k
theorem fq{i:Nat}{k:Kd}{u:U}(h:st[i]?=some (some (k,u)))(hk:k≠.ownD:=by intro z;cases z):Run (cZ i) st (kv i k,u) st:=by
 show cZ i st=_;unfold cZ;rw[h];cases k<;>first|rfl|exact absurd rfl hk
theorem ae{i:Nat}{u:U}(h:st[i]?=some (some (.loc,u))):Run (ev Γ (.var i)) st (.loc,u) st:=fq h
theorem aL{i:Nat}{u:U}(h:st[i]?=some (some (.any,u))):Run (ev Γ (.var i)) st (.any,u) st:=fq h
theorem aI{i:Nat}{u:U}(h:st[i]?=some (some (.own,u))):Run (ev Γ (.var i)) st (.bor i,u) st:=fq h
theorem aq{u:U}:Run (ev Γ (.cst u)) st (.loc,u) st:=rfl
theorem aF{op:Bop}{a b:E}{x y r:Kd×U}(h1:Run (ev Γ a) st x st1)(h2:Run (ev Γ b) st1 y st2)(h3:ba [x,y] st2)(h4:opU op x y=some r):Run (ev Γ (.bin op a b)) st r st2 :=
 aa h1 (aa h2 (aa (a5 h3) (cE h4)))
theorem h_{op:Cop}{a b:E}{x y:Kd×U}{c:Bool}(h1:Run (ev Γ a) st x st1)(h2:Run (ev Γ b) st1 y st2)(h3:ba [x,y] st2)(h4:bz op x.2 y.2=some c):Run (ev Γ (.cmp op a b)) st (.loc,.bl c) st2 :=
 aa h1 (aa h2 (aa (a5 h3) (aa (cE h4) aU)))
theorem aZ{a b:E}{x y r:Kd×U}(h1:Run (ev Γ a) st x st1)(h2:Run (ev Γ b) st1 y st2)(h3:ba [x,y] st2)(h4:iA x y.2=some r):Run (ev Γ (.idx a b)) st r st2 :=
 aa h1 (aa h2 (aa (a5 h3) (cE h4)))
theorem kW:Run (evO Γ []) st none st:=rfl
theorem kX{e:E}{k:Kd}{i:Int}(h:Run (ev Γ e) st (k,.int i) st1):Run (evO Γ [e]) st (some i) st1:=aa h rfl
theorem kY{a:E}{lo hi:List E}{x r:Kd×U}{l h:Option Int}(h1:Run (ev Γ a) st x st1)(h2:Run (evO Γ lo) st1 l st2)(h3:Run (evO Γ hi) st2 h st3)(h4:ba [x] st3)(h5:iB x l h=some r):Run (ev Γ (.slc a lo hi)) st r st3 :=
 aa h1 (aa h2 (aa h3 (aa (a5 h4) (cE h5))))
theorem aj:Run (bA Γ []) st [] st:=rfl
theorem af{e:E}{es:List E}{r:Kd×U}{rs:List (Kd×U)}(h1:Run (ev Γ e) st r st1)(h2:Run (bA Γ es) st1 rs st2):Run (bA Γ (e::es)) st (r::rs) st2:=aa h1 (aa h2 aU)
theorem dQ{f:Bf}{es:List E}{rs:List (Kd×U)}{r:Kd×U}(h1:Run (bA Γ es) st rs st1)(h2:ba rs st1)(h3:biU f rs=some r):Run (ev Γ (.bi f es)) st r st1:=aa h1 (aa (a5 h2) (cE h3))
theorem uu{m:Mf}{a:E}{es:List E}{x:Kd×U}{rs:List (Kd×U)}{r:Kd×U}(h0:Run (ev Γ a) st x st1)(h1:Run (bA Γ es) st1 rs st2)(h2:ba (x::rs) st2)(h3:iC m x.2 rs=some r):Run (ev Γ (.mth m a es)) st r st2:=aa h0 (aa h1 (aa (a5 h2) (cE h3)))
theorem qE{f:Str}{us:List U}{r:Kd×U}(h:Γ f us=some (.ok r))(hr:isAny r.1=false):Run (jv Γ f us) st r st:=by
 obtain⟨k,u⟩:=r;show jv Γ f us st=_;unfold jv;rw[h];cases k<;>first|rfl|cases hr
theorem bL{f:Str}{es:List E}{rs:List (Kd×U)}{r:Kd×U}(h1:Run (bA Γ es) st rs st1)(h2:ba rs st1)(h3:Γ f (rs.map (·.2))=some (.ok r))(hr:isAny r.1=false:=by exact rfl):Run (ev Γ (.call f es)) st r st1:=aa h1 (aa (a5 h2) (qE h3 hr))
theorem eN{es:List E}{rs:List (Kd×U)}{us:List U}(h1:Run (bA Γ es) st rs st1)(h2:ba rs st1)(h3:Run (cw rs) st1 us st2)(h4:us.length<=sizeLine):Run (ev Γ (.tup es)) st (.loc,.tup us) st2:=by
 refine aa h1 (aa (a5 h2) (aa h3 ?_));rw[if_pos h4];exact aU
theorem cc{es:List E}{rs:List (Kd×U)}{us:List U}(h1:Run (bA Γ es) st rs st1)(h2:ba rs st1)(h3:Run (cw rs) st1 us st2)(h4:us.length<=sizeLine):Run (ev Γ (.lst es)) st (.own,.lst us) st2:=by
 refine aa h1 (aa (a5 h2) (aa h3 ?_));rw[if_pos h4];exact aU
theorem pw{r:Bool}:Run (ev Γ (.dnew r)) st (.own,if r=true then .rdc [] else .dic [] []) st:=rfl
theorem uw{u:U}:Run (lift (.own,u)) st u st:=rfl
theorem aX{u:U}:Run (lift (.loc,u)) st u st:=rfl
theorem jJ{u:U}(h:imm u=true):Run (lift (.any,u)) st u st:=by
 show(if imm u=true then(pure u:M U) else M.fail) st=_;rw[if_pos h];rfl
theorem aJ:Run (cw []) st [] st:=rfl
theorem aM{r:Kd×U}{rs:List (Kd×U)}{u:U}{us:List U}(h1:Run (lift r) st u st1)(h2:Run (cw rs) st1 us st2):Run (cw (r::rs)) st (u::us) st2:=aa h1 (aa h2 aU)
theorem b9{op:Cop}{a b:E}{x y:Kd×U}{c:Bool}(h1:Run (ev Γ a) st x st1)(h2:Run (ev Γ b) st1 y st2)(h3:ba [x,y] st2)(h4:bz op x.2 y.2=some c):Run (tst Γ (.cmp op a b)) st c st2:=aa h1 (aa h2 (aa (a5 h3) (cE h4)))
theorem ia{a:E}{c:Bool}(h:Run (tst Γ a) st c st1):Run (tst Γ (.not a)) st (!c) st1:=aa h aU
theorem ib{es:List E}{c:Bool}(h:Run (aS Γ es) st c st1):Run (tst Γ (.and es)) st c st1:=h
theorem zg{es:List E}{c:Bool}(h:Run (hU Γ es) st c st1):Run (tst Γ (.or es)) st c st1:=h
theorem ic:Run (aS Γ []) st true st:=rfl
theorem dR{e:E}{c:Bool}(h:Run (tst Γ e) st c st1):Run (aS Γ [e]) st c st1:=h
theorem mf{e e2:E}{es:List E}{c:Bool}(h:Run (tst Γ e) st true st1)(h2:Run (aS Γ (e2::es)) st1 c st2):Run (aS Γ (e::e2::es)) st c st2:=aa h h2
theorem pz{e e2:E}{es:List E}(h:Run (tst Γ e) st false st1):Run (aS Γ (e::e2::es)) st false st1:=aa h aU
theorem uA{e:E}{c:Bool}(h:Run (tst Γ e) st c st1):Run (hU Γ [e]) st c st1:=h
theorem qF{e e2:E}{es:List E}{c:Bool}(h:Run (tst Γ e) st false st1)(h2:Run (hU Γ (e2::es)) st1 c st2):Run (hU Γ (e::e2::es)) st c st2:=aa h h2
theorem bM{i:Nat}{u:U}:Run (d9 i (.own,u)) st () (st.set i (some (.own,u))):=rfl
theorem aC{i:Nat}{u:U}:Run (d9 i (.loc,u)) st () (st.set i (some (.loc,u))):=rfl
theorem jK{i:Nat}{u:U}:Run (d9 i (.any,u)) st () (st.set i (some (.any,u))):=rfl
theorem AJ{i:Nat}{e:E}{r:Kd×U}(h1:Run (ev Γ e) st r st1)(h2:Run (d9 i r) st1 () st2):Run (exec Γ (.set i e)) st .nx st2:=aa h1 (aa h2 aU)
theorem AK{i:Nat}{e:E}{k:Kd}{r:Kd×U}{u:U}{us:List U}(h0:∃k' us',st[i]?=some (some (k',.lst us'))/\k'≠.ownD)(h1:Run (ev Γ e) st r st1)(h2:Run (lift r) st1 u st2)(h3:st2[i]?=some (some (k,.lst us)))(hk:k.root=true)(hl:us.length<sizeLine):
  Run (exec Γ (.app i e)) st .nx (st2.set i (some (k,.lst (us++[u])))):=by
 obtain⟨k',us',h0,hn⟩:=h0;refine aa (fq h0 hn) (aa (a:=()) (st1:=st) rfl (aa h1 (aa h2 (aa (a:=()) ?_ aU))));show modS i (tP u) st2=_;unfold modS;rw[h3];simp only[hk,if_true];have e:tP u (.lst us)=some (.lst (us++[u])):=by show(if us.length<sizeLine then _ else _)=_;rw[if_pos hl]
 rw[e]
theorem AL{e:E}{r:Kd×U}{f:Fl}(h1:Run (ev Γ e) st r st1)(h2:Run (retS r) st1 f st2):Run (exec Γ (.ret e)) st f st2:=aa h1 h2
theorem nG{u:U}:Run (retS (.own,u)) st (.rt .own u) st:=rfl
theorem gr{u:U}:Run (retS (.loc,u)) st (.rt .loc u) st:=rfl
theorem AM{u:U}(h:imm u=true):Run (retS (.any,u)) st (.rt .loc u) st:=by
 show(if imm u=true then(pure (Fl.rt .loc u):M Fl) else pure (.rt .any u)) st=_;rw[if_pos h];rfl
theorem nI{j:Nat}{u u0:U}(h:st[j]?=some (some (.own,u))):Run (retS (.bor j,u0)) st (.rt .own u) (st.set j none):=by
 show(match st[j]? with|some (some (.own,u))=>some (Ex.ok (Fl.rt .own u),st.set j none)|_=>none)=_;rw[h]
theorem mj{c:E}{a b:List S}{f:Fl}(h1:Run (tst Γ c) st true st1)(h2:Run (execs Γ a) st1 f st2):Run (exec Γ (.ite c a b)) st f st2:=aa h1 h2
theorem pA{c:E}{a b:List S}{f:Fl}(h1:Run (tst Γ c) st false st1)(h2:Run (execs Γ b) st1 f st2):Run (exec Γ (.ite c a b)) st f st2:=aa h1 h2
theorem aG:Run (execs Γ []) st .nx st:=rfl
theorem fe{s:S}{ss:List S}{f:Fl}(h1:Run (exec Γ s) st .nx st1)(h2:Run (execs Γ ss) st1 f st2):Run (execs Γ (s::ss)) st f st2:=aa h1 h2
theorem wJ{s:S}{ss:List S}{k:Kd}{u:U}(h1:Run (exec Γ s) st (.rt k u) st1):Run (execs Γ (s::ss)) st (.rt k u) st1:=aa h1 aU
theorem ax{i:Nat}{e:E}{ss:List S}{r:Kd×U}{f:Fl}(h1:Run (ev Γ e) st r st1)(h2:Run (d9 i r) st1 () st2)(h3:Run (execs Γ ss) st2 f st3):Run (execs Γ (.set i e::ss)) st f st3:=fe (AJ h1 h2) h3
theorem kZ{i:Nat}{e:E}{ss:List S}{k k':Kd}{r:Kd×U}{u:U}{us us':List U}{f:Fl}(h0:st[i]?=some (some (k',.lst us')))(h1:Run (ev Γ e) st r st1)(h2:Run (lift r) st1 u st2)(h3:st2[i]?=some (some (k,.lst us)))(hk:k.root=true)(hl:us.length<sizeLine)
  (h4:Run (execs Γ ss) (st2.set i (some (k,.lst (us++[u])))) f st3) (hn:k'≠.ownD:=by intro z;cases z):Run (execs Γ (.app i e::ss)) st f st3:=fe (AK ⟨_,_,h0,hn⟩ h1 h2 h3 hk hl) h4
theorem cW{e:E}{ss:List S}{r:Kd×U}{k:Kd}{u:U}(h1:Run (ev Γ e) st r st1)(h2:Run (retS r) st1 (.rt k u) st2):Run (execs Γ (.ret e::ss)) st (.rt k u) st2:=wJ (AL h1 h2)
theorem fE{c:E}{a b ss:List S}{f:Fl}(h1:Run (tst Γ c) st true st1)(h2:Run (execs Γ a) st1 .nx st2)(h3:Run (execs Γ ss) st2 f st3):Run (execs Γ (.ite c a b::ss)) st f st3:=fe (mj h1 h2) h3
theorem cD{c:E}{a b ss:List S}{f:Fl}(h1:Run (tst Γ c) st false st1)(h2:Run (execs Γ b) st1 .nx st2)(h3:Run (execs Γ ss) st2 f st3):Run (execs Γ (.ite c a b::ss)) st f st3:=fe (pA h1 h2) h3
theorem zh{c:E}{a b ss:List S}{k:Kd}{u:U}(h1:Run (tst Γ c) st true st1)(h2:Run (execs Γ a) st1 (.rt k u) st2):Run (execs Γ (.ite c a b::ss)) st (.rt k u) st2:=wJ (mj h1 h2)
theorem AN{t:Bool}{is:List Nat}{ik:Ik}{src:List E}{body:List S}{rs xs:List (Kd×U)}{f:Fl}(h1:Run (bA Γ src) st rs st1)(h2:ba rs st1)(h3:itU ik rs=some xs)(h4:qi rs is body=true)(h5:Run (forM t is (execs Γ body) rs xs) st1 f st2):
  Run (exec Γ (.for_ t is ik src body)) st f st2:=by
 refine aa h1 (aa (a5 h2) (aa (cE h3) ?_));rw[if_pos h4];exact h5
theorem cf{t:Bool}{is:List Nat}{ik:Ik}{src:List E}{body ss:List S}{rs xs:List (Kd×U)}{f:Fl}(h1:Run (bA Γ src) st rs st1)(h2:ba rs st1)(h3:itU ik rs=some xs)(h4:qi rs is body=true)(h5:Run (forM t is (execs Γ body) rs xs) st1 .nx st2)(h6:Run (execs Γ ss) st2 f st3):
  Run (execs Γ (.for_ t is ik src body::ss)) st f st3:=fe (AN h1 h2 h3 h4 h5) h6
theorem xu{t:Bool}{is:List Nat}{body:M Fl}{rs:List (Kd×U)}(h:ba rs st):Run (forM t is body rs []) st .nx st:=aa (a5 h) aU
theorem AO{t:Bool}{is:List Nat}{body:M Fl}{rs xs:List (Kd×U)}{x:Kd×U}{f:Fl}(h:ba rs st)(h1:Run (cC t is x) st () st1)(h2:Run body st1 .nx st2)(h3:Run (forM t is body rs xs) st2 f st3):Run (forM t is body rs (x::xs)) st f st3:=aa (a5 h) (aa h1 (aa h2 h3))
theorem qG{t:Bool}{is:List Nat}{body:M Fl}{rs:List (Kd×U)}(I:List (Kd×U)->ag->Prop)(hs:∀xs st,I xs st->ba rs st)(step:∀x xs st,I (x::xs) st->∃st1 st2,Run (cC t is x) st () st1/\Run body st1 .nx st2/\I xs st2):
  ∀(xs:List (Kd×U)) (st:ag),I xs st->∃st',Run (forM t is body rs xs) st .nx st'/\I [] st'
 |[],st,h=>⟨st,xu (hs _ _ h),h⟩
 |x::xs,st,h=>by
  obtain⟨s1,s2,h1,h2,h3⟩:=step x xs st h;obtain⟨s3,h4,h5⟩:=qG I hs step xs s2 h3;exact⟨s3,AO (hs _ _ h) h1 h2 h4,h5⟩
theorem bR{i:Nat}{r:Kd×U}(h:Run (d9 i r) st () st1):Run (cC false [i] r) st () st1:=h
theorem aP{fn:Fn}{us:List U}{k:Kd}{u:U}{st0:ag}(hn:us.length=fn.np)(hk:k=.own\/k=.loc)(hs:start us fn.ns=st0)(h:Run (execs Γ fn.body) st0 (.rt k u) st):bW Γ fn us=some (.ok (k,u)):=by
 subst hs;unfold bW;rw[if_pos hn,show execs Γ fn.body (start us fn.ns)=_ from h];rcases hk with rfl|rfl<;>rfl
theorem nJ{k:Nat}{t:Bool}{cond:M Bool}{elt:M (Kd×U)}{src:List (Kd×U)}{acc:List U}(h:ba src st):Run (bg k t cond elt src [] acc) st acc st:=aa (a5 h) aU
theorem jL{k:Nat}{t:Bool}{cond:M Bool}{elt:M (Kd×U)}{src xs:List (Kd×U)}{x r:Kd×U}{acc us:List U}{u:U}{s1 s2 s3 s4:ag}(h:ba src st)(h1:Run (cC t (List.range k) x) (List.replicate k none++st) () s1)(h2:Run cond s1 true s2)(h3:Run elt s2 r s3)(h4:Run (lift r) s3 u s4)
  (hl:acc.length<sizeLine) (h5:Run (bg k t cond elt src xs (acc++[u])) (s4.drop k) us st2):Run (bg k t cond elt src (x::xs) acc) st us st2:=by
 refine aa (a5 h) (aa (a:=some u) (st1:=s4.drop k) ?_ ?_)
 ·show inScope k _ st=_;unfold inScope;have hh:Run (cC t (List.range k) x >>= fun _=>cond >>= fun b=>if b=true then(elt >>= fun r=>lift r >>= fun u=>pure (some u)) else pure none) (List.replicate k none++st) (some u) s4 :=
   aa h1 (aa h2 (show Run (elt >>= fun r=>lift r >>= fun u=>pure (some u)) s2 (some u) s4 from aa h3 (aa (f:=fun u=>pure (some u)) h4 rfl)))
  rw[show _=_ from hh]
 ·show Run (if acc.length<sizeLine then bg k t cond elt src xs (acc++[u]) else M.fail) _ _ _;rw[if_pos hl];exact h5
theorem pB{k:Nat}{t:Bool}{cond:M Bool}{elt:M (Kd×U)}{src xs:List (Kd×U)}{x:Kd×U}{acc us:List U}{s1 s2:ag}(h:ba src st)(h1:Run (cC t (List.range k) x) (List.replicate k none++st) () s1)(h2:Run cond s1 false s2)
  (h5:Run (bg k t cond elt src xs acc) (s2.drop k) us st2):Run (bg k t cond elt src (x::xs) acc) st us st2:=by
 refine aa (a5 h) (aa (a:=none) (st1:=s2.drop k) ?_ h5);show inScope k _ st=_;unfold inScope;have hh:Run (cC t (List.range k) x >>= fun _=>cond >>= fun b=>if b=true then(elt >>= fun r=>lift r >>= fun u=>pure (some u)) else pure none) (List.replicate k none++st) none s2 :=
  aa h1 (aa h2 (show Run (pure none:M (Option U)) s2 none s2 from rfl))
 rw[show _=_ from hh]
theorem cX{k:Nat}{t:Bool}{ik:Ik}{src cond:List E}{e:E}{rs xs:List (Kd×U)}{us:List U}(h1:Run (bA Γ src) st rs st1)(h2:ba rs st1)(h3:itU ik rs=some xs)(h4:Run (bg k t (aS Γ cond) (ev Γ e) rs xs []) st1 us st2):Run (ev Γ (.comp k t ik src cond e)) st (.own,.lst us) st2 :=
 aa h1 (aa (a5 h2) (aa (cE h3) (aa h4 aU)))
theorem uB{cond:M Bool}{elt:M (Kd×U)}{src:List (Kd×U)}(h:ba src st)(g:Kd×U->U)(kd:Kd×U->Kd):∀(xs:List (Kd×U)) (acc:List U),acc.length+xs.length<=sizeLine ->
  (∀x∈xs,x.1=.loc\/x.1=.any)->(∀x∈xs,Run cond (some x::st) true (some x::st)/\Run elt (some x::st) (kd x,g x) (some x::st)/\Run (lift (kd x,g x)) (some x::st) (g x) (some x::st))->Run (bg 1 false cond elt src xs acc) st (acc++xs.map g) st
 |[],acc,_,_,_=>by rw[List.map_nil,List.append_nil];exact nJ h
 |x::xs,acc,hl,hk,hx=>by
  obtain⟨h1,h2,h3⟩:=hx x (by simp);rw[List.length_cons]at hl;refine jL (s1:=some x::st) (s2:=some x::st) (s3:=some x::st) (s4:=some x::st) h ?_ h1 h2 h3 (by omega) ?_
  ·obtain⟨k,u⟩:=x;rcases hk _ (List.mem_cons_self ..) with z|z<;>(cases z;rfl)
  ·have:=uB h g kd xs (acc++[g x]) (by simp;omega) (fun y hy=>hk y (by simp[hy])) fun y hy=>hx y (by simp[hy]);rw[List.map_cons];simpa using this
theorem jM{cond:M Bool}{elt:M (Kd×U)}{src:List (Kd×U)}(h:ba src st)(p:Kd×U->Bool)(g:Kd×U->U)(kd:Kd×U->Kd):∀(xs:List (Kd×U)) (acc:List U),acc.length+xs.length<=sizeLine ->
  (∀x∈xs,x.1=.loc\/x.1=.any)->(∀x∈xs,Run cond (some x::st) (p x) (some x::st)/\Run elt (some x::st) (kd x,g x) (some x::st)/\Run (lift (kd x,g x)) (some x::st) (g x) (some x::st))->Run (bg 1 false cond elt src xs acc) st (acc++(xs.filter p).map g) st
 |[],acc,_,_,_=>by rw[List.filter_nil,List.map_nil,List.append_nil];exact nJ h
 |x::xs,acc,hl,hk,hx=>by
  obtain⟨h1,h2,h3⟩:=hx x (by simp);rw[List.length_cons]at hl;have ht:Run (cC false (List.range 1) x) (List.replicate 1 none++st) () (some x::st):=by
   obtain⟨k,u⟩:=x;rcases hk _ (List.mem_cons_self ..) with z|z<;>(cases z;rfl)
  cases hp:p x with
  |true =>
   rw[hp]at h1;refine jL (s1:=some x::st) (s2:=some x::st) (s3:=some x::st) (s4:=some x::st) h ht h1 h2 h3 (by omega) ?_;have:=jM h p g kd xs (acc++[g x]) (by simp;omega) (fun y hy=>hk y (by simp[hy])) fun y hy=>hx y (by simp[hy]);rw[List.filter_cons,if_pos hp,List.map_cons];simpa using this
  |false =>
   rw[hp]at h1;refine pB (s1:=some x::st) (s2:=some x::st) h ht h1 ?_;have:=jM h p g kd xs acc (by omega) (fun y hy=>hk y (by simp[hy])) fun y hy=>hx y (by simp[hy]);rw[List.filter_cons,if_neg (by simp[hp])];exact this
end
end TM
namespace TM
open PySem L2
theorem aR{k k':Kd}{i j:Int}(h:0<j):opU .mod (k,.int i) (k',.int j)=some (.loc,.int (i % j)):=by show(vN i j).map _=_;rw[vN,if_pos h];rfl
theorem mn{k k':Kd}{i j:Int}(h:0<j/\j<1073741824):opU .fdv (k,.int i) (k',.int j)=some (.loc,.int (i / j)):=by show(vM i j).map _=_;rw[vM,if_pos h];rfl
theorem iU{k k':Kd}{i j:Int}(h:(-(2 ^ 64)<i/\i<2 ^ 64)\/(-(2 ^ 64)<j/\j<2 ^ 64)):opU .mul (k,.int i) (k',.int j)=some (.loc,.int (i * j)):=by show(vL i j).map _=_;rw[vL,if_pos h];rfl
theorem lh{k k':Kd}{i j:Int}(h:0<=j/\j<=1000000/\i.natAbs<2 ^ 64):opU .pow (k,.int i) (k',.int j)=some (.loc,.int (i ^ j.toNat)):=by show(vO i j).map _=_;rw[vO,if_pos h];rfl
theorem bH{k k':Kd}{i j:Int}:opU .add (k,.int i) (k',.int j)=some (.loc,.int (i+j)):=rfl
theorem iT{k k':Kd}{i j:Int}:opU .sub (k,.int i) (k',.int j)=some (.loc,.int (i - j)):=rfl
theorem aD{k:Kd}{xs:List U}{i:Int}{u:U}(h:atI xs i=some u):iA (k,.lst xs) (.int i)=some (kE k,u):=by show(atI xs i).map _=_;rw[h];rfl
theorem i_{k:Kd}{xs:List U}{i:Int}{u:U}(h:atI xs i=some u):iA (k,.tup xs) (.int i)=some (kE k,u):=by show(atI xs i).map _=_;rw[h];rfl
theorem qH:Kd.own≠Kd.ownD:=by decide
local macro_rules
 |`(tactic| sizeOf_list_dec)=>`(tactic| first|exact aG|apply ax|apply kZ|apply cW|exact aq|exact ae rfl|exact aL rfl|exact aI rfl|apply aF|apply h_|apply aZ|apply dQ|apply bL|apply uu|apply b9|exact aj|apply af|apply eN|apply cc|exact aJ|apply aM|exact aX|exact uw|(first|exact trivial|exact⟨⟨_,rfl,rfl⟩,trivial⟩|exact⟨⟨_,rfl,rfl⟩,⟨_,rfl,rfl⟩,trivial⟩)|exact bH|exact iT|exact aR (by first|omega|decide)|exact mn (by first|omega|decide)|exact iU (by first|omega|decide)|exact lh (by decide)|exact aC|exact bM|exact jK|exact gr|exact nG|exact nI rfl|exact Nat.zero_le _|exact rfl|exact qH)
noncomputable def pC(c k:Int):Int:=((c % 10 ^ 15+1) * 48271+k * k * 16807+k * 7919) % 2147483647 * 69621 % 2147483629
noncomputable def rS:Fn:=⟨"_law_mix",2,3,[.set 2 (.bin .add (.bin .add (.bin .mul (.bin .add (.bin .mod (.var 0) (.bin .pow (.cst (.int 10)) (.cst (.int 15)))) (.cst (.int 1))) (.cst (.int 48271))) (.bin .mul (.bin .mul (.var 1) (.var 1)) (.cst (.int 16807)))) (.bin .mul (.var 1) (.cst (.int 7919)))),.ret (.bin .mod (.bin .mul (.bin .mod (.var 2) (.cst (.int 2147483647))) (.cst (.int 69621))) (.cst (.int 2147483629)))]⟩
theorem wK{Γ:Tab}{c k:Int}(h0:0<=k)(h1:k<2 ^ 63):bW Γ rS [.int c,.int k]=some (.ok (.loc,.int (pC c k))):=by
 apply aP (st0:=[some (.loc,.int c),some (.loc,.int k),none]) rfl (.inr rfl) rfl
 repeat' sizeOf_list_dec
noncomputable def qI:Fn:=⟨"_law_cell",2,3,[.ite (.cmp .lt (.var 1) (.bi .len [.var 0])) [.ret (.idx (.var 0) (.var 1))] [],.set 2 (.cst (.int 0)),.ite (.cmp .gt (.bi .len [.var 0]) (.cst (.int 0))) [.set 2 (.idx (.var 0) (.bin .mod (.var 1) (.bi .len [.var 0])))] [],.ret (.bin .add (.bin .mul (.cst (.int 2)) (.call "_law_mix" [.var 2,.var 1])) (.cst (.int 1)))]⟩
noncomputable def uC(Γ:Tab):Prop:=∀c k:Int,0<=k->k<2 ^ 63->Γ "_law_mix" [.int c,.int k]=some (.ok (.loc,.int (pC c k)))
theorem uD{i j:Int}{c:Bool}(h:decide (i<j)=c):bz .lt (.int i) (.int j)=some c:=by subst h;rfl
theorem nK{i j:Int}{c:Bool}(h:decide (j<i)=c):bz .gt (.int i) (.int j)=some c:=by subst h;rfl
theorem dh{i j:Int}{c:Bool}(h:(i==j)=c):bz .eq (.int i) (.int j)=some c:=by subst h;rfl
theorem mq{k:Kd}{xs:List U}:biU .len [(k,.lst xs)]=some (.loc,.int (xs.length:Nat)):=rfl
theorem iI{k:Kd}{xs:List U}:biU .len [(k,.tup xs)]=some (.loc,.int (xs.length:Nat)):=rfl
noncomputable def xv(ns:List Int)(k:Nat):Int:=if k<ns.length then(ns[k]?).getD 0 else 2 * pC ((ns[k % ns.length]?).getD 0) k+1
theorem uE{Γ:Tab}(hΓ:uC Γ){ns:List Int}{k:Nat}(hk:k<2 ^ 62):bW Γ qI [.lst (ns.map .int),.int k]=some (.ok (.loc,.int (xv ns k))):=by
 have hm:∀c,Γ "_law_mix" [.int c,.int k]=some (.ok (.loc,.int (pC c k))):=fun c=>hΓ c k (by omega) (by omega);unfold xv;by_cases h:k<ns.length
 ·rw[if_pos h];have ha:atI (ns.map U.int) (k:Int)=some (.int ((ns[k]?).getD 0)):=cq (by simp[h]);apply aP (st0:=[some (.any,.lst (ns.map .int)),some (.loc,.int k),none]) rfl (.inr rfl) rfl;apply zh
  all_goals repeat' (first|exact uD (by simp[h])|exact aD ha|exact AM rfl|sizeOf_list_dec)
 ·rw[if_neg h];have hlt:bz .lt (.int k) (.int ((ns.map U.int).length:Nat))=some false:=uD (by simp;omega);by_cases hz:0<ns.length
  ·have hi:k % ns.length<ns.length:=Nat.mod_lt _ hz;have ha:atI (ns.map U.int) ((k:Int) % ((ns.map U.int).length:Nat))=some (.int ((ns[k % ns.length]?).getD 0)):=by
    rw[List.length_map,show(k:Int) % (ns.length:Nat)=((k % ns.length:Nat):Int) by omega];exact cq (by simp[hi])
   have hp:(0:Int)<((ns.map U.int).length:Nat):=by simp;omega
   apply aP (st0:=[some (.any,.lst (ns.map .int)),some (.loc,.int k),none]) rfl (.inr rfl) rfl;apply cD
   all_goals repeat' (first|exact hlt|sizeOf_list_dec)
   apply fE
   all_goals repeat' (first|exact nK (by simp;omega)|exact aR hp|exact aD ha|exact hm _|sizeOf_list_dec)
  ·have e:ns=[]:=List.eq_nil_of_length_eq_zero (by omega);subst e;apply aP (st0:=[some (.any,.lst ([].map .int)),some (.loc,.int k),none]) rfl (.inr rfl) rfl;apply cD
   all_goals repeat' (first|exact hlt|sizeOf_list_dec)
   apply cD
   all_goals repeat' (first|exact hm _|sizeOf_list_dec)
noncomputable def mr:Fn:=⟨"_law_drawn",2,5,[.set 2 (.lst []),.set 3 (.bin .fdv (.var 0) (.cst (.int 2))),.for_ false [4] .rng1 [.var 1] [.ite (.cmp .eq (.bin .mod (.var 0) (.cst (.int 2))) (.cst (.int 0))) [.app 2 (.bin .mod (.var 3) (.cst (.int 64))),.set 3 (.bin .fdv (.var 3) (.cst (.int 64)))] [.app 2 (.bin .mod (.bin .fdv (.call "_law_mix" [.var 0,.var 4]) (.cst (.int 7))) (.cst (.int 4096)))]],.ret (.var 2)]⟩
theorem nL(x:Kd×U):itU .rng1 [x]=rG x:=rfl
theorem dS{k:Kd}{n:Nat}(h:n<2 ^ 62):itU .rng1 [(k,.int (n:Nat))]=some ((List.range n).map fun i:Nat=>(Kd.loc,U.int (0+(i:Int)))):=by
 rw[nL,rG,if_pos (by omega),Int.toNat_natCast]
noncomputable def eO(n:Nat)(xs:List (Kd×U)):Prop:=∃i,i<=n/\xs=((List.range n).drop i).map fun i:Nat=>(Kd.loc,U.int (0+(i:Int)))
theorem eO.cons{n:Nat}{x:Kd×U}{xs:List (Kd×U)}(h:eO n (x::xs)):∃i:Nat,i<n/\x=(.loc,.int (i:Nat))/\eO n xs/\i+xs.length+1=n:=by
 obtain⟨i,hi,e⟩:=h;by_cases hin:i<n
 ·rw[List.drop_eq_getElem_cons (by simpa using hin),List.map_cons]at e;cases e;refine⟨i,hin,by simp,⟨i+1,hin,rfl⟩,by simp;omega⟩
 ·rw[List.drop_eq_nil_of_le (by simp;omega)]at e;cases e
theorem eO.all(n:Nat):eO n ((List.range n).map fun i:Nat=>(Kd.loc,U.int (0+(i:Int)))):=⟨0,Nat.zero_le _,rfl⟩
theorem rT{Γ:Tab}(hΓ:uC Γ){c:Int}{n:Nat}(hn:n<1000):∃ds:List Int,ds.length=n/\(∀d∈ds,0<=d)/\bW Γ mr [.int c,.int n]=some (.ok (.own,.lst (ds.map .int))):=by
 have hsz:(1000:Nat)<=sizeLine:=by decide
 let I:List (Kd×U)->ag->Prop:=fun xs st=>∃(ds:List Int) (us:List U) (left:Int) (o:Option (Kd×U)),st=[some (.loc,.int c),some (.loc,.int n),some (.own,.lst us),some (.loc,.int left),o]/\us=ds.map .int/\(∀d∈ds,0<=d)/\ds.length+xs.length=n/\eO n xs;have loop:=qG (t:=false) (is:=[4]) (body:=execs Γ [.ite (.cmp .eq (.bin .mod (.var 0) (.cst (.int 2))) (.cst (.int 0)))
    [.app 2 (.bin .mod (.var 3) (.cst (.int 64))),
    .set 3 (.bin .fdv (.var 3) (.cst (.int 64)))]
    [.app 2 (.bin .mod (.bin .fdv (.call "_law_mix" [(.var 0),(.var 4)]) (.cst (.int 7))) (.cst (.int 4096)))]]) (rs:=[(.loc,.int n)]) I (fun _ _ _=>trivial) (fun x xs st hIx=>by
  obtain⟨ds,us,left,o,e,e2,h0,hl,hr⟩:=hIx;subst e;have hul:us.length=ds.length:=by rw[e2];simp
  obtain⟨i,hi,rfl,hr',hlen⟩:=hr.cons;have hm:Γ "_law_mix" [.int c,.int i]=some (.ok (.loc,.int (pC c i))):=hΓ c i (by omega) (by omega);rw[List.length_cons]at hl;by_cases hc:c % 2=0
  ·refine⟨[some (.loc,.int c),some (.loc,.int n),some (.own,.lst us),some (.loc,.int left),some (.loc,.int i)],[some (.loc,.int c),some (.loc,.int n),some (.own,.lst (us++[.int (left % 64)])),some (.loc,.int (left / 64)),some (.loc,.int i)],aC,?_,⟨ds++[left % 64],_,left / 64,_,rfl,by simp[e2],?_,by simp;omega,hr'⟩⟩
   ·apply fE
    all_goals repeat' (first|exact dh (by simp[hc])|exact(by rw[hul];omega)|sizeOf_list_dec)
   ·intro d hd;rcases List.mem_append.mp hd with z|z
    ·exact h0 d z
    ·rw[List.mem_singleton.mp z];omega
  ·refine⟨[some (.loc,.int c),some (.loc,.int n),some (.own,.lst us),some (.loc,.int left),some (.loc,.int i)],[some (.loc,.int c),some (.loc,.int n),some (.own,.lst (us++[.int (pC c i / 7 % 4096)])),some (.loc,.int left),some (.loc,.int i)],aC,?_,⟨ds++[pC c i / 7 % 4096],_,left,_,rfl,by simp[e2],?_,by simp;omega,hr'⟩⟩
   ·apply cD
    all_goals repeat' (first|exact dh (by simp[hc])|exact hm|exact(by rw[hul];omega)|sizeOf_list_dec)
   ·intro d hd;rcases List.mem_append.mp hd with z|z
    ·exact h0 d z
    ·rw[List.mem_singleton.mp z];omega)
 obtain⟨st',hrun,ds,us,left,o,e,e2,h0,hl,_⟩:=loop ((List.range n).map fun i:Nat=>(Kd.loc,U.int (0+(i:Int)))) [some (.loc,.int c),some (.loc,.int n),some (.own,.lst []),some (.loc,.int (c / 2)),none] ⟨[],[],c / 2,none,rfl,rfl,by simp,by simp,eO.all n⟩;subst e e2;refine⟨ds,by simpa using hl,h0,?_⟩;apply aP (st0:=[some (.loc,.int c),some (.loc,.int n),none,none,none]) rfl (.inl rfl) rfl
 repeat' sizeOf_list_dec
 have hit:=dS (k:=.loc) (n:=n) (by omega);refine' cf (rs:=[(.loc,.int n)]) (st1:=[some (.loc,.int c),some (.loc,.int n),some (.own,.lst []),some (.loc,.int (c / 2)),none]) _ trivial hit rfl hrun _
 all_goals repeat' sizeOf_list_dec
end TM
local macro_rules
 |`(tactic| sizeOf_list_dec)=>`(tactic| first|exact TM.aG|apply TM.ax|apply TM.kZ|apply TM.cW|exact TM.aq|exact TM.ae rfl|exact TM.aL rfl|exact TM.aI rfl|apply TM.aF|apply TM.h_|apply TM.aZ|apply TM.dQ|apply TM.bL|apply TM.uu|apply TM.b9|exact TM.aj|apply TM.af|apply TM.eN|apply TM.cc|exact TM.aJ|apply TM.aM|exact TM.aX|exact TM.uw|(first|exact trivial|exact⟨⟨_,rfl,rfl⟩,trivial⟩|exact⟨⟨_,rfl,rfl⟩,⟨_,rfl,rfl⟩,trivial⟩)|exact TM.bH|exact TM.iT|exact TM.aR (by first|omega|decide)|exact TM.mn (by first|omega|decide)|exact TM.iU (by first|omega|decide)|exact TM.lh (by decide)|exact TM.aC|exact TM.bM|exact TM.jK|exact TM.gr|exact TM.nG|exact TM.nI rfl|exact Nat.zero_le _|exact rfl|exact TM.qH)
namespace TM
open PySem L2 W01
theorem qJ{k:Kd}{z:Int}(h0:0<=z)(h:z<2 ^ 62):itU .rng1 [(k,.int z)]=some ((List.range z.toNat).map fun i:Nat=>(Kd.loc,U.int (0+(i:Int)))):=by
 rw[nL,rG,if_pos (by omega)]
theorem ja{k:Kd}{x:Str}{i:Int}{c:Nat}(hx:x.length<=sizeLine)(h:atI x.cps.toList i=some c):iA (k,.str x) (.int i)=some (.loc,.str (W01.one c)):=by
 simp only[iA];rw[if_pos hx,h];rfl
theorem jN:small.length<=sizeLine:=by decide
theorem bF{ds:List Int}{i:Nat}(h:i<ds.length):atI (ds.map U.int) (i:Int)=some (.int ((ds[i]?).getD 0)):=cq (by simp[h])
theorem eZ:∀(ss:List Str),strsOf (ss.map U.str)=some ss
 |[]=>rfl
 |s::ss=>by show(strsOf (ss.map U.str)).map (s::·)=_;rw[eZ ss];rfl
noncomputable def mw(md:E):Fn:=⟨"_law_name",2,6,[.set 2 (.cst (.str "abcdefghijklmnopqrstuvwxyz")),.set 3 (.mth .join (.cst (.str "")) [.comp 1 false .rng1 [.bin .add (.cst (.int 1)) (.bin .mod (.idx (.var 0) (.cst (.int 0))) (.cst (.int 8)))] [] (.idx (.var 3) (.bin .mod (.idx (.var 1) (.bin .add (.cst (.int 4)) (.var 0))) (.cst (.int 26))))]),.ite (.cmp .gt (.bi .len [.var 1]) (.cst (.int 0))) [.set 4 (.idx (.mth .split (.idx (.var 1) (.bin .mod (.idx (.var 0) (.cst (.int 1))) (.bi .len [.var 1]))) [.cst (.str "/")]) (.cst (.int 0))),.ite (.cmp .eq (.bin .mod (.idx (.var 0) (.cst (.int 2))) (.cst (.int 4))) (.cst (.int 1))) [.set 3 (.slc (.bin .add (.var 4) (.var 3)) [] [.cst (.int 8)])] [],.ite (.cmp .eq (.bin .mod (.idx (.var 0) (.cst (.int 2))) (.cst (.int 4))) (.cst (.int 2))) [.set 3 (.bin .add (.bin .add (.var 4) (.cst (.str "/"))) (.bi .str [.bin .add (.cst (.int 2)) (.bin .mod (.idx (.var 0) (.cst (.int 3))) md)]))] []] [],.set 5 (.bin .add (.lst [.var 3]) (.comp 1 false .rng1 [.cst (.int 40)] [] (.bin .add (.idx (.var 3) (.bin .fdv (.var 0) (.cst (.int 26)))) (.idx (.var 3) (.bin .mod (.var 0) (.cst (.int 26))))))),.ret (.idx (.comp 1 false .seq [.var 5] [.cmp .notin (.var 0) (.var 2)] (.var 0)) (.cst (.int 0)))]⟩
noncomputable def zi(md:E):Prop:=∀(Γ:Tab) (ds:List Int),ds.length=12->(∀d∈ds,0<=d)->∃m:Int,0<m/\m<=98/\∀o1 o2 o3 o4 o5,Run (ev Γ md) [some (.any,.lst (ds.map .int)),o1,o2,o3,o4,o5] (.loc,.int m) [some (.any,.lst (ds.map .int)),o1,o2,o3,o4,o5]
noncomputable abbrev AQ:E:=.cst (.int 98)
theorem wL:zi AQ:=fun _ _ _ _=>⟨98,by decide,by decide,fun _ _ _ _ _=>aq⟩
section
variable{Γ:Tab}{ds:List Int}
noncomputable def dd(ds:List Int)(i:Nat):Int:=(ds[i]?).getD 0
theorem cA(h0:∀d∈ds,0<=d)(i:Nat):0<=dd ds i:=by
 unfold dd;cases e:ds[i]? with
 |none=>simp
 |some d=>exact h0 d (List.mem_of_getElem? e)
theorem mz(hd:ds.length=12)(h0:∀d∈ds,0<=d){o1 o3 o4 o5:Option (Kd×U)}:∃cs:List Nat,(∀c∈cs,low c=true)/\1<=cs.length/\cs.length<=8 /\
  Run (ev Γ (.comp 1 false .rng1 [.bin .add (.cst (.int 1)) (.bin .mod (.idx (.var 0) (.cst (.int 0))) (.cst (.int 8)))] [] (.idx (.var 3) (.bin .mod (.idx (.var 1) (.bin .add (.cst (.int 4)) (.var 0))) (.cst (.int 26))))))
   [some (.any,.lst (ds.map .int)),o1,some (.loc,.str small),o3,o4,o5] (.own,.lst ((cs.map W01.one).map .str)) [some (.any,.lst (ds.map .int)),o1,some (.loc,.str small),o3,o4,o5]:=by
 have hz:=cA h0 0;let n:=(1+dd ds 0 % 8).toNat;have hn:n<=8/\1<=n:=by show(1+dd ds 0 % 8).toNat<=8/\1<=(1+dd ds 0 % 8).toNat;omega
 let f:Nat->Nat:=fun i=>97+(dd ds (4+i) % 26).toNat;refine⟨(List.range n).map f,?_,by simp;exact hn.2,by simp;exact hn.1,?_⟩
 ·intro c hc;obtain⟨i,_,rfl⟩:=List.mem_map.mp hc;have:=cA h0 (4+i);exact pk (by omega)
 ·have hx:Run (bg 1 false (aS Γ []) (ev Γ (.idx (.var 3) (.bin .mod (.idx (.var 1) (.bin .add (.cst (.int 4)) (.var 0))) (.cst (.int 26))))) [(.loc,.int (1+dd ds 0 % 8))] ((List.range n).map fun i:Nat=>(Kd.loc,U.int (0+(i:Int)))) [])
    [some (.any,.lst (ds.map .int)),o1,some (.loc,.str small),o3,o4,o5] ([]++((List.range n).map fun i:Nat=>(Kd.loc,U.int (0+(i:Int)))).map fun x=>match x.2 with|.int j=>.str (W01.one (97+(dd ds (4+j.toNat) % 26).toNat))|u=>u) [some (.any,.lst (ds.map .int)),o1,some (.loc,.str small),o3,o4,o5]:=by
   have h8:(8:Nat)<=sizeLine:=by decide
   refine uB (by exact trivial) _ (fun _=>.loc) _ _ (by simp;omega) (fun x hx=>?_) (fun x hx=>?_)
   ·obtain⟨i,_,rfl⟩:=List.mem_map.mp hx;exact .inl rfl
   ·obtain⟨i,hi,rfl⟩:=List.mem_map.mp hx;have hi':i<n:=by simpa using hi
    have ha:atI (ds.map U.int) (4+(0+(i:Int)))=some (.int (dd ds (4+i))):=by
     rw[show(4+(0+(i:Int)))=((4+i:Nat):Int) by omega];exact bF (by omega)
    have hnn:=cA h0 (4+i);have hs:=jI (k:=dd ds (4+i) % 26) (by omega) (by omega);refine⟨ic,?_,aX⟩;simp only[Int.zero_add,Int.toNat_natCast];rw[Int.zero_add]at ha
    repeat' (first|exact aD ha|exact ja jN hs|sizeOf_list_dec)
  have e:((List.range n).map f).map W01.one=(List.range n).map fun i=>W01.one (97+(dd ds (4+i) % 26).toNat):=by rw[List.map_map];rfl
  rw[e];have e2:([]++((List.range n).map fun i:Nat=>(Kd.loc,U.int (0+(i:Int)))).map fun x=>match x.2 with|.int j=>U.str (W01.one (97+(dd ds (4+j.toNat) % 26).toNat))|u=>u)=((List.range n).map fun i=>W01.one (97+(dd ds (4+i) % 26).toNat)).map U.str:=by
   rw[List.nil_append,List.map_map,List.map_map];apply List.map_congr_left;intro i _;simp
  rw[e2]at hx;refine cX (rs:=[(.loc,.int (1+dd ds 0 % 8))]) ?_ trivial (qJ (by omega) (by omega)) hx
  repeat' (first|exact aD (bF (i:=0) (by omega))|sizeOf_list_dec)
theorem gs{k k':Kd}{x y:Str}(h:x.length+y.length<=sizeLine):opU .add (k,.str x) (k',.str y)=some (.loc,.str (x++y)):=by
 simp only[opU,oK];rw[if_pos h]
theorem dy:∀(ss:List Str) (n:Nat),bI n (ss.map U.str)=true
 |[],n=>by simp[bI]
 |s::ss,n=>by simp only[List.map_cons,bI,dy ss n,Bool.and_true];cases n<;>rfl
theorem nM(x:Str):∀(ss:List Str),((ss.map U.str).any fun y=>aW y (.str x))=decide (x∈ss)
 |[]=>by simp
 |s::ss=>by
  rw[List.map_cons,List.any_cons,nM x ss];have:aW (.str s) (.str x)=decide (x=s):=by
   simp only[aW];by_cases h:x=s
   ·subst h;simp
   ·have h':s≠x:=fun z=>h z.symm;simp[h,h']
  rw[this,Bool.eq_iff_iff];simp
theorem wM(x:Str)(ss:List Str):inU (.str x) (ss.map U.str)=some (decide (x∈ss)):=by
 unfold inU;rw[if_pos ⟨by rfl,dy ss 50⟩,nM]
theorem nN{x:Str}{ss:List Str}:bz .notin (.str x) (.lst (ss.map U.str))=some (decide (x∉ss)):=by
 show(inU (.str x) (ss.map U.str)).map (!·)=_;rw[wM];simp
theorem nO{o0 o1 o3 o4 o5:Option (Kd×U)}:Run (ev Γ (.comp 1 false .rng1 [.cst (.int 40)] [] (.bin .add (.idx (.var 3) (.bin .fdv (.var 0) (.cst (.int 26)))) (.idx (.var 3) (.bin .mod (.var 0) (.cst (.int 26)))))))
   [o0,o1,some (.loc,.str small),o3,o4,o5] (.own,.lst (bC.map .str)) [o0,o1,some (.loc,.str small),o3,o4,o5]:=by
 have h8:(100:Nat)<=sizeLine:=by decide
 have hx:Run (bg 1 false (aS Γ []) (ev Γ (.bin .add (.idx (.var 3) (.bin .fdv (.var 0) (.cst (.int 26)))) (.idx (.var 3) (.bin .mod (.var 0) (.cst (.int 26)))))) [(.loc,.int 40)] ((List.range 40).map fun i:Nat=>(Kd.loc,U.int (0+(i:Int)))) [])
   [o0,o1,some (.loc,.str small),o3,o4,o5] ([]++((List.range 40).map fun i:Nat=>(Kd.loc,U.int (0+(i:Int)))).map fun x=>match x.2 with|.int j=>.str (kU j.toNat)|u=>u) [o0,o1,some (.loc,.str small),o3,o4,o5]:=by
  refine uB (by exact trivial) _ (fun _=>.loc) _ _ (by simp;omega) (fun x hx=>?_) (fun x hx=>?_)
  ·obtain⟨i,_,rfl⟩:=List.mem_map.mp hx;exact .inl rfl
  ·obtain⟨i,hi,rfl⟩:=List.mem_map.mp hx;have hi':i<40:=by simpa using hi
   refine⟨ic,?_,aX⟩;simp only[Int.zero_add,Int.toNat_natCast];have h1:=jI (k:=(i:Int) / 26) (by omega) (by omega);have h2:=jI (k:=(i:Int) % 26) (by omega) (by omega);have e1:((i:Int) / 26).toNat=i / 26:=by omega
   have e2:((i:Int) % 26).toNat=i % 26:=by omega
   rw[e1]at h1;rw[e2]at h2;have ad:opU .add (.loc,.str (W01.one (97+i / 26))) (.loc,.str (W01.one (97+i % 26)))=some (.loc,.str (kU i)):=by
    have:=gs (k:=.loc) (k':=.loc) (x:=W01.one (97+i / 26)) (y:=W01.one (97+i % 26)) (by show 1+1<=sizeLine;omega);rw[this];rfl
   repeat' (first|exact ja jN h1|exact ja jN h2|exact ad|sizeOf_list_dec)
 have e2:([]++((List.range 40).map fun i:Nat=>(Kd.loc,U.int (0+(i:Int)))).map fun x=>match x.2 with|.int j=>U.str (kU j.toNat)|u=>u)=bC.map U.str:=by
  rw[List.nil_append,List.map_map,bC,List.map_map];apply List.map_congr_left;intro i _;simp
 rw[e2]at hx;exact cX (rs:=[(.loc,.int 40)]) (by repeat' sizeOf_list_dec) trivial (qJ (by omega) (by omega)) hx
theorem rU{names ts:List Str}(hl:ts.length<=1000){o0 o2 o3 o4:Option (Kd×U)}:Run (ev Γ (.comp 1 false .seq [.var 5] [.cmp .notin (.var 0) (.var 2)] (.var 0)))
   [o0,some (.any,.lst (names.map .str)),o2,o3,o4,some (.own,.lst (ts.map .str))] (.own,.lst ((ts.filter fun x=>decide (x∉names)).map .str)) [o0,some (.any,.lst (names.map .str)),o2,o3,o4,some (.own,.lst (ts.map .str))]:=by
 have h8:(1000:Nat)<=sizeLine:=by decide
 have hx:=jM (cond:=aS Γ [.cmp .notin (.var 0) (.var 2)]) (elt:=ev Γ (.var 0)) (src:=[(.bor 5,.lst (ts.map .str))]) (st:=[o0,some (.any,.lst (names.map .str)),o2,o3,o4,some (.own,.lst (ts.map .str))]) ⟨⟨.own,rfl,rfl⟩,trivial⟩
  (fun x=>match x.2 with|.str y=>decide (y∉names)|_=>false) (fun x=>x.2) (fun _=>.loc) ((ts.map U.str).map fun u=>(kE (.bor 5),u)) [] (by simp;omega) (fun x hx=>by obtain⟨u,_,rfl⟩:=List.mem_map.mp hx;exact .inl rfl) (fun x hx=>by
   obtain⟨u,hu,rfl⟩:=List.mem_map.mp hx;obtain⟨y,_,rfl⟩:=List.mem_map.mp hu;refine⟨dR ?_,ae rfl,aX⟩
   repeat' (first|exact nN|sizeOf_list_dec))
 have e:([]++(((ts.map U.str).map fun u=>(kE (.bor 5),u)).filter fun x=>match x.2 with|.str y=>decide (y∉names)|_=>false).map fun x=>x.2)=(ts.filter fun x=>decide (x∉names)).map U.str:=by
  rw[List.nil_append,List.filter_map,List.filter_map,List.map_map,List.map_map];rfl
 rw[e]at hx;exact cX (rs:=[(.bor 5,.lst (ts.map .str))]) (by repeat' sizeOf_list_dec) ⟨⟨.own,rfl,rfl⟩,trivial⟩ rfl hx
end
end TM
namespace TM
open PySem L2 W01
section
variable{Γ:Tab}{ds:List Int}
theorem rV{names:List Str}(hn:names.length<40){x0:Str}(hx0:cz x0.cps.toList){o0 o4:Option (Kd×U)}:∃x st',cz x.cps.toList/\x∉names /\
  Run (execs Γ [.set 5 (.bin .add (.lst [.var 3]) (.comp 1 false .rng1 [.cst (.int 40)] [] (.bin .add (.idx (.var 3) (.bin .fdv (.var 0) (.cst (.int 26)))) (.idx (.var 3) (.bin .mod (.var 0) (.cst (.int 26))))))),
  .ret (.idx (.comp 1 false .seq [(.var 5)] [(.cmp .notin (.var 0) (.var 2))] (.var 0)) (.cst (.int 0)))]) [o0,some (.any,.lst (names.map .str)),some (.loc,.str small),some (.loc,.str x0),o4,none] (.rt .loc (.str x)) st':=by
 have h8:(1000:Nat)<=sizeLine:=by decide
 obtain⟨y,hy,hyn⟩:=pv names hn;have hne:(x0::bC).filter (fun x=>decide (x∉names))≠[]:=fun z=>by
  have:y∈(x0::bC).filter (fun x=>decide (x∉names)):=List.mem_filter.mpr ⟨List.mem_cons_of_mem _ hy,by simpa using hyn⟩;rw[z]at this;cases this
 cases e:(x0::bC).filter (fun x=>decide (x∉names)) with
 |nil=>exact absurd e hne
 |cons x rest =>
  have hx:x∈(x0::bC).filter (fun x=>decide (x∉names)):=by rw[e];simp
  obtain⟨hx1,hx2⟩:=List.mem_filter.mp hx;have fr:=rU (Γ:=Γ) (names:=names) (ts:=x0::bC) (by simp[bC]) (o0:=o0) (o2:=some (.loc,.str small)) (o3:=some (.loc,.str x0)) (o4:=o4);rw[e]at fr;have ad:opU .add (.own,.lst [.str x0]) (.own,.lst (bC.map U.str))=some (.own,.lst ((x0::bC).map U.str)):=by
   simp only[opU,oK];rw[if_pos ⟨by simp[bC];omega,rfl,rfl⟩];rfl
  refine⟨x,[o0,some (.any,.lst (names.map .str)),some (.loc,.str small),some (.loc,.str x0),o4,some (.own,.lst ((x0::bC).map .str))],?_,by simpa using hx2,?_⟩
  ·rcases List.mem_cons.mp hx1 with rfl|h
   ·exact hx0
   ·obtain⟨k,hk,rfl⟩:=List.mem_map.mp h;exact .inl (pq (by simpa using hk))
  ·refine ax (st2:=[o0,some (.any,.lst (names.map .str)),some (.loc,.str small),some (.loc,.str x0),o4,some (.own,.lst ((x0::bC).map .str))]) (aF (x:=(.own,.lst [.str x0])) (cc (af (ae rfl) aj) (by(first|exact trivial|exact⟨⟨_,rfl,rfl⟩,trivial⟩|exact⟨⟨_,rfl,rfl⟩,⟨_,rfl,rfl⟩,trivial⟩)) (aM aX aJ) (by show 1<=sizeLine;omega)) nO trivial ad) bM ?_;refine cW (aZ fr aq trivial (aD (by show atI _ ((0:Nat):Int)=_;exact cq rfl))) gr
theorem uF{md:E}(hmd:zi md)(hd:ds.length=12)(h0:∀d∈ds,0<=d){names:List Str}(hn:names.length<40)(hw:∀x∈names,cz x.cps.toList):
  ∃x,cz x.cps.toList/\x∉names/\bW Γ (mw md) [.lst (ds.map .int),.lst (names.map .str)]=some (.ok (.loc,.str x)):=by
 obtain⟨m,hm0,hm9,hmr⟩:=hmd Γ ds hd h0;have h8:(1000:Nat)<=sizeLine:=by decide
 obtain⟨cs,hlow,hc1,hc8,hcomp⟩:=mz (Γ:=Γ) hd h0 (o1:=some (.any,.lst (names.map .str))) (o3:=none) (o4:=none) (o5:=none);have hjoin:iC .join (.str "") [(.own,.lst ((cs.map W01.one).map U.str))]=some (.loc,.str (Txt.join Str.empty (cs.map W01.one))):=by
  show(strsOf ((cs.map W01.one).map U.str)).bind _=_;rw[eZ];show(if JoinOk Str.empty (cs.map W01.one)=true then _ else _)=_;rw[if_pos (nE cs (by omega))];rfl
 let x0:Str:=Txt.join Str.empty (cs.map W01.one);have hx0:x0.cps.toList=cs:=join_ones cs;have hs0:dZ x0.cps.toList=true:=by rw[hx0];exact hZ hlow hc1 hc8
 have hlen0:x0.length<=8:=by rw[len_list,hx0];exact hc8
 have head:∀{f:Fl} {st':ag} (ss:List S),Run (execs Γ ss) [some (.any,.lst (ds.map .int)),some (.any,.lst (names.map .str)),some (.loc,.str small),some (.loc,.str x0),none,none] f st' ->
   Run (execs Γ (.set 2 (.cst (.str "abcdefghijklmnopqrstuvwxyz"))::.set 3 (.mth .join (.cst (.str "")) [.comp 1 false .rng1 [.bin .add (.cst (.int 1)) (.bin .mod (.idx (.var 0) (.cst (.int 0))) (.cst (.int 8)))] [] (.idx (.var 3) (.bin .mod (.idx (.var 1) (.bin .add (.cst (.int 4)) (.var 0))) (.cst (.int 26))))])::ss))
    [some (.any,.lst (ds.map .int)),some (.any,.lst (names.map .str)),none,none,none,none] f st':=fun ss h=>ax (r:=(.loc,.str small)) aq aC (ax (uu aq (af hcomp aj) (by(first|exact trivial|exact⟨⟨_,rfl,rfl⟩,trivial⟩|exact⟨⟨_,rfl,rfl⟩,⟨_,rfl,rfl⟩,trivial⟩)) hjoin) aC h)
 have mid:∀(x1:Str) (o4:Option (Kd×U)),cz x1.cps.toList->∃x st',cz x.cps.toList/\x∉names/\Run (execs Γ [.set 5 (.bin .add (.lst [.var 3]) (.comp 1 false .rng1 [.cst (.int 40)] [] (.bin .add (.idx (.var 3) (.bin .fdv (.var 0) (.cst (.int 26)))) (.idx (.var 3) (.bin .mod (.var 0) (.cst (.int 26))))))),
  .ret (.idx (.comp 1 false .seq [(.var 5)] [(.cmp .notin (.var 0) (.var 2))] (.var 0)) (.cst (.int 0)))]) [some (.any,.lst (ds.map .int)),some (.any,.lst (names.map .str)),some (.loc,.str small),some (.loc,.str x1),o4,none] (.rt .loc (.str x)) st':=fun x1 o4 h1=>rV hn h1
 by_cases hz:0<names.length
 ·
  have hi:(dd ds 1).toNat % names.length<names.length:=Nat.mod_lt _ hz;let nm:=names[(dd ds 1).toNat % names.length]'hi;have hnm:cz nm.cps.toList:=hw _ (List.getElem_mem hi);obtain⟨y,r,hsp,hst⟩:=hnm.BA;have hyl:y.length<=8:=by rw[len_list];exact((cj _).mp hst).2.1
  have hnl:nm.length<=11:=by rw[len_list];exact hnm.len.2
  have hd1:=cA h0 1;have hat:atI (names.map U.str) (dd ds 1 % ((names.map U.str).length:Nat))=some (.str nm):=by
   rw[List.length_map,show dd ds 1 % (names.length:Nat)=(((dd ds 1).toNat % names.length:Nat):Int) by rw[Int.natCast_emod,Int.toNat_of_nonneg hd1]];exact cq (by simp[hi];rfl)
  have hsplit:iC .split (.str nm) [(.loc,.str "/")]=some (.own,.lst ((y::r).map U.str)):=by
   show(if (Str.length "/"==0)=false/\nm.length+2<=sizeLine then some (Kd.own,U.lst ((Txt.split nm "/").map .str)) else none)=_;rw[if_pos ⟨by decide,by omega⟩,show("/":Str)=xh from rfl,hsp]
  have hp:(0:Int)<((names.map U.str).length:Nat):=by simp;omega
  have hix:iA (.own,.lst ((y::r).map U.str)) (.int 0)=some (.loc,.str y):=aD (by show atI _ ((0:Nat):Int)=_;exact cq rfl);have hd2:=cA h0 2;have hd3:=cA h0 3;have i1:atI (ds.map U.int) 1=some (.int (dd ds 1)):=bF (i:=1) (by omega);have i2:atI (ds.map U.int) 2=some (.int (dd ds 2)):=bF (i:=2) (by omega);have i3:atI (ds.map U.int) 3=some (.int (dd ds 3)):=bF (i:=3) (by omega);have go:∀x1:Str,cz x1.cps.toList->Run (execs Γ [.ite (.cmp .eq (.bin .mod (.idx (.var 0) (.cst (.int 2))) (.cst (.int 4))) (.cst (.int 1)))
    [.set 3 (.slc (.bin .add (.var 4) (.var 3)) [] [.cst (.int 8)])]
    [],
   .ite (.cmp .eq (.bin .mod (.idx (.var 0) (.cst (.int 2))) (.cst (.int 4))) (.cst (.int 2)))
    [.set 3 (.bin .add (.bin .add (.var 4) (.cst (.str "/"))) (.bi .str [.bin .add (.cst (.int 2)) (.bin .mod (.idx (.var 0) (.cst (.int 3))) md)]))]
    []]) [some (.any,.lst (ds.map .int)),some (.any,.lst (names.map .str)),some (.loc,.str small),some (.loc,.str x0),some (.loc,.str y),none] .nx [some (.any,.lst (ds.map .int)),some (.any,.lst (names.map .str)),some (.loc,.str small),some (.loc,.str x1),some (.loc,.str y),none] ->
    ∃x,cz x.cps.toList/\x∉names/\bW Γ (mw md) [.lst (ds.map .int),.lst (names.map .str)]=some (.ok (.loc,.str x)):=fun x1 h1 hr=>by
   obtain⟨x,st',a1,a2,a3⟩:=mid x1 (some (.loc,.str y)) h1;refine⟨x,a1,a2,aP (st0:=[some (.any,.lst (ds.map .int)),some (.any,.lst (names.map .str)),none,none,none,none]) rfl (.inr rfl) rfl (head _ (fE (st1:=[some (.any,.lst (ds.map .int)),some (.any,.lst (names.map .str)),some (.loc,.str small),some (.loc,.str x0),none,none]) ?_ (ax (r:=(.loc,.str y)) (st1:=[some (.any,.lst (ds.map .int)),some (.any,.lst (names.map .str)),some (.loc,.str small),some (.loc,.str x0),none,none]) ?_ aC hr) a3))⟩
   ·repeat' (first|exact nK (by simp;omega)|sizeOf_list_dec)
   ·repeat' (first|exact aR hp|exact aD hat|exact aD i1|exact hsplit|exact hix|sizeOf_list_dec)
  have t1:∀{c:Bool} {o3 o4:Option (Kd×U)},(dd ds 2 % 4==1)=c->Run (tst Γ (.cmp .eq (.bin .mod (.idx (.var 0) (.cst (.int 2))) (.cst (.int 4))) (.cst (.int 1)))) [some (.any,.lst (ds.map .int)),some (.any,.lst (names.map .str)),some (.loc,.str small),o3,o4,none] c [some (.any,.lst (ds.map .int)),some (.any,.lst (names.map .str)),some (.loc,.str small),o3,o4,none]:=fun hc=>by
   repeat' (first|exact aD i2|exact dh hc|sizeOf_list_dec)
  have t2:∀{c:Bool} {o3 o4:Option (Kd×U)},(dd ds 2 % 4==2)=c->Run (tst Γ (.cmp .eq (.bin .mod (.idx (.var 0) (.cst (.int 2))) (.cst (.int 4))) (.cst (.int 2)))) [some (.any,.lst (ds.map .int)),some (.any,.lst (names.map .str)),some (.loc,.str small),o3,o4,none] c [some (.any,.lst (ds.map .int)),some (.any,.lst (names.map .str)),some (.loc,.str small),o3,o4,none]:=fun hc=>by
   repeat' (first|exact aD i2|exact dh hc|sizeOf_list_dec)
  by_cases hw1:dd ds 2 % 4=1
  ·have hyx:y.length+x0.length<=sizeLine:=by omega
   have hsl:iB (.loc,.str (y++x0)) none (some 8)=some (.loc,.str (PySem.StrLaws.sliceText (y++x0) none (some 8))):=by
    simp only[iB];rw[if_pos (by rw[len_list];show(y.cps++x0.cps).toList.length<=_;rw[Array.toList_append,List.length_append,<-len_list,<-len_list];omega)]
   refine go (PySem.StrLaws.sliceText (y++x0) none (some 8)) (.inl ?_) ?_
   ·have:=zf (y++x0) 8;rw[show((8:Nat):Int)=8 from rfl]at this;rw[this];show dZ ((y.cps++x0.cps).toList.take 8)=true;rw[Array.toList_append];exact rR hst (by rw[hx0];exact hlow)
   ·refine fE (t1 (by simp[hw1])) (ax (kY (aF (ae rfl) (ae rfl) trivial (gs hyx)) kW (kX aq) trivial hsl) aC aG) (cD (t2 (by simp[hw1])) aG aG)
  ·by_cases hw2:dd ds 2 % 4=2
   ·have hm1:=Int.emod_nonneg (dd ds 3) (show m≠0 by omega);have hm2:=Int.emod_lt_of_pos (dd ds 3) hm0;have hk0:0<=2+dd ds 3 % m:=by omega
    have hk9:2+dd ds 3 % m<=99:=by omega
    have hnl2:=gM hk0 hk9;have hstr:biU .str [(.loc,.int (2+dd ds 3 % m))]=some (.loc,.str (mV (2+dd ds 3 % m))):=by
     simp only[biU,fZ,tJ];rw[if_pos (by
      have:(2+dd ds 3 % m).natAbs<2 ^ 7:=by omega
      have h2:(2+dd ds 3 % m).natAbs≠0:=by omega
      have:=(Nat.log2_lt h2).mpr this;omega)]
     rfl
    have hsl1:(y++("/":Str)).length=y.length+1:=by rw[len_list,len_list];show(y.cps++_).toList.length=_;rw[Array.toList_append,List.length_append];rfl
    have hnum:Run (ev Γ (.bin .add (.cst (.int 2)) (.bin .mod (.idx (.var 0) (.cst (.int 3))) md))) [some (.any,.lst (ds.map .int)),some (.any,.lst (names.map .str)),some (.loc,.str small),some (.loc,.str x0),some (.loc,.str y),none] (.loc,.int (2+dd ds 3 % m)) [some (.any,.lst (ds.map .int)),some (.any,.lst (names.map .str)),some (.loc,.str small),some (.loc,.str x0),some (.loc,.str y),none]:=aF aq (aF (aZ (aL rfl) aq trivial (aD i3)) (hmr _ _ _ _ _) trivial (aR hm0)) trivial bH;refine go (y++"/"++mV (2+dd ds 3 % m)) (.inr ⟨y.cps.toList,(mV (2+dd ds 3 % m)).cps.toList,2+dd ds 3 % m,?_,hst,by omega,hk9,rfl⟩) ?_
    ·show((y.cps++#[47])++(mV _).cps).toList=_;simp
    ·refine cD (t1 (by simp[hw2])) aG (fE (t2 (by simp[hw2])) (ax (aF (aF (ae rfl) aq trivial (gs (by show y.length+1<=sizeLine;omega))) (dQ (af hnum aj) trivial hstr) trivial (gs (by rw[hsl1];omega))) aC aG) aG)
   ·refine go x0 (.inl hs0) ?_;exact cD (t1 (by simp[hw1])) aG (cD (t2 (by simp[hw2])) aG aG)
 ·obtain⟨x,st',a1,a2,a3⟩:=mid x0 none (.inl hs0);refine⟨x,a1,a2,aP (st0:=[some (.any,.lst (ds.map .int)),some (.any,.lst (names.map .str)),none,none,none,none]) rfl (.inr rfl) rfl (head _ (cD (st1:=[some (.any,.lst (ds.map .int)),some (.any,.lst (names.map .str)),some (.loc,.str small),some (.loc,.str x0),none,none]) ?_ aG a3))⟩
  repeat' (first|exact nK (decide_eq_false (by simp only[List.length_map];omega))|sizeOf_list_dec)
end
end TM
namespace TM
open PySem L2 W01
noncomputable def jO(Γ:Tab):Prop:=∀(ns:List Int) (k:Nat),k<2 ^ 62->∃z,Γ "_law_cell" [.lst (ns.map .int),.int (k:Nat)]=some (.ok (.loc,.int z))
noncomputable def gu(Γ:Tab):Prop:=∀(c:Int) (n:Nat),n<1000->∃ds:List Int,ds.length=n/\(∀d∈ds,0<=d)/\Γ "_law_drawn" [.int c,.int (n:Nat)]=some (.ok (.own,.lst (ds.map .int)))
noncomputable def uG(Γ:Tab):Prop:=∀(ds:List Int) (names:List Str),ds.length=12->(∀d∈ds,0<=d)->names.length<40->(∀x∈names,cz x.cps.toList)->∃x,cz x.cps.toList/\x∉names/\Γ "_law_name" [.lst (ds.map .int),.lst (names.map .str)]=some (.ok (.loc,.str x))
noncomputable def fNames:Fn:=⟨"_law_names",3,5,[.set 3 (.lst []),.for_ false [4] .rng1 [.var 2] [.app 3 (.call "_law_name" [.call "_law_drawn" [.call "_law_cell" [.var 0,.bin .add (.var 1) (.var 4)],.cst (.int 12)],.var 3])],.ret (.var 3)]⟩
theorem rW{Γ:Tab}(hc:jO Γ)(hd:gu Γ)(hn:uG Γ){ns:List Int}{b m:Nat}(hb:b<1000)(hm:m<40):
    ∃names:List Str,names.length=m/\names.Nodup/\(∀x∈names,cz x.cps.toList)/\bW Γ fNames [.lst (ns.map .int),.int (b:Nat),.int (m:Nat)]=some (.ok (.own,.lst (names.map .str))):=by
  have hsz:(1000:Nat)<=sizeLine:=by decide
  let I:List (Kd×U)->ag->Prop:=fun xs st=>∃(names:List Str) (us:List U) (o:Option (Kd×U)),st=[some (.any,.lst (ns.map .int)),some (.loc,.int (b:Nat)),some (.loc,.int (m:Nat)),some (.own,.lst us),o]/\us=names.map .str/\names.Nodup/\(∀x∈names,cz x.cps.toList)/\names.length+xs.length=m/\eO m xs;have loop:=qG (t:=false) (is:=[4]) (body:=execs Γ [.app 3 (.call "_law_name" [.call "_law_drawn" [.call "_law_cell" [.var 0,.bin .add (.var 1) (.var 4)],.cst (.int 12)],.var 3])]) (rs:=[(.loc,.int (m:Nat))]) I (fun _ _ _=>trivial) (fun x xs st hIx=>by
    obtain⟨names,us,o,e,e2,hnd,hw,hl,hr⟩:=hIx;subst e;obtain⟨i,hi,rfl,hr',hlen⟩:=hr.cons;rw[List.length_cons]at hl;obtain⟨z,hz⟩:=hc ns (b+i) (by omega);rw[Int.natCast_add]at hz;obtain⟨ds,d1,d2,d3⟩:=hd z 12 (by omega);obtain⟨x,x1,x2,x3⟩:=hn ds names d1 d2 (by omega) hw;rw[<-e2]at x3;refine⟨[some (.any,.lst (ns.map .int)),some (.loc,.int (b:Nat)),some (.loc,.int (m:Nat)),some (.own,.lst us),some (.loc,.int (i:Nat))],[some (.any,.lst (ns.map .int)),some (.loc,.int (b:Nat)),some (.loc,.int (m:Nat)),some (.own,.lst (us++[.str x])),some (.loc,.int (i:Nat))],aC,?_,⟨names++[x],_,_,rfl,by simp[e2],?_,?_,by simp;omega,hr'⟩⟩
    · repeat' (first|exact hz|exact d3|exact x3|exact(by rw[e2,List.length_map];omega)|sizeOf_list_dec)
    · rw[List.nodup_append]
      exact ⟨hnd, by simp, fun y hy w hw' => by have : w = x := by simpa using hw'
                                                subst this;rintro rfl;exact x2 hy⟩
    · intro y hy
      rcases List.mem_append.mp hy with h|h
      · exact hw y h
      · rw[List.mem_singleton.mp h];exact x1)
  obtain⟨st',hrun,names,us,o,e,e2,hnd,hw,hl,_⟩:=loop ((List.range m).map fun i:Nat=>(Kd.loc,U.int (0+(i:Int)))) [some (.any,.lst (ns.map .int)),some (.loc,.int (b:Nat)),some (.loc,.int (m:Nat)),some (.own,.lst []),none] ⟨[],[],none,rfl,rfl,by simp,by simp,by simp,eO.all m⟩;subst e e2;refine⟨names,by simpa using hl,hnd,hw,?_⟩;apply aP (st0:=[some (.any,.lst (ns.map .int)),some (.loc,.int (b:Nat)),some (.loc,.int (m:Nat)),none,none]) rfl (.inl rfl) rfl
  repeat' sizeOf_list_dec
  have hit:=dS (k:=.loc) (n:=m) (by omega);refine' cf (rs:=[(.loc,.int (m:Nat))]) (st1:=[some (.any,.lst (ns.map .int)),some (.loc,.int (b:Nat)),some (.loc,.int (m:Nat)),some (.own,.lst []),none]) _ trivial hit rfl hrun _
  all_goals repeat' sizeOf_list_dec
noncomputable def ie:Fn:=⟨"_law_told",2,6,[.set 2 (.bi .len [.var 1]),.ite (.and [.cmp .gt (.bin .mod (.idx (.var 0) (.cst (.int 2))) (.cst (.int 3))) (.cst (.int 0)),.cmp .gt (.bin .mod (.idx (.var 0) (.cst (.int 0))) (.bi .len [.var 1])) (.cst (.int 0))]) [.set 2 (.bin .mod (.idx (.var 0) (.cst (.int 0))) (.bi .len [.var 1]))] [],.set 3 (.lst []),.for_ false [4] .rng1 [.idx (.lst [.cst (.int 0),.cst (.int 0),.cst (.int 1),.cst (.int 1),.cst (.int 1),.cst (.int 2),.cst (.int 2),.cst (.int 2),.cst (.int 3),.cst (.int 8)]) (.bin .mod (.idx (.var 0) (.cst (.int 1))) (.cst (.int 10)))] [.set 5 (.idx (.var 1) (.bin .mod (.idx (.var 0) (.bin .add (.cst (.int 3)) (.var 4))) (.var 2))),.ite (.cmp .notin (.var 5) (.var 3)) [.app 3 (.var 5)] []],.ret (.bi .tuple [.var 3])]⟩
end TM
namespace TM
open PySem L2 W01
theorem BB:∀j:Nat,j<10->∃q:Nat,q<=8/\atI [U.int 0,.int 0,.int 1,.int 1,.int 1,.int 2,.int 2,.int 2,.int 3,.int 8] (j:Int)=some (.int (q:Nat))
 |0,_=>⟨0,by omega,rfl⟩|1,_=>⟨0,by omega,rfl⟩|2,_=>⟨1,by omega,rfl⟩|3,_=>⟨1,by omega,rfl⟩|4,_=>⟨1,by omega,rfl⟩
 |5,_=>⟨2,by omega,rfl⟩|6,_=>⟨2,by omega,rfl⟩|7,_=>⟨2,by omega,rfl⟩|8,_=>⟨3,by omega,rfl⟩|9,_=>⟨8,by omega,rfl⟩
 |n+10,h=>absurd h (by omega)
theorem zj{α:Type}{xs:List α}{z t:Int}(hz:0<=z)(ht:0<t)(hl:t<=xs.length):∃x∈xs,atI xs (z % t)=some x:=by
 have h1:=Int.emod_nonneg z (by omega:t≠0);have h2:=Int.emod_lt_of_pos z ht;obtain⟨j,hj⟩:=Int.eq_ofNat_of_zero_le h1;have hjl:j<xs.length:=by omega
 refine⟨xs[j]'hjl,List.getElem_mem hjl,?_⟩;rw[hj];exact cq (by simp[hjl])
theorem iJ{xs:List Str}{z t:Int}(hz:0<=z)(ht:0<t)(hl:t<=xs.length):∃x∈xs,atI (xs.map U.str) (z % t)=some (.str x):=by
 obtain⟨u,hu,e⟩:=zj (xs:=xs.map U.str) hz ht (by simpa using hl);obtain⟨x,hx,rfl⟩:=List.mem_map.mp hu;exact⟨x,hx,e⟩
theorem uH{Γ:Tab}{ds:List Int}{names:List Str}(hd:11<=ds.length)(h0:∀d∈ds,0<=d)(hn:0<names.length):
    ∃told:List Str,told.length<=8/\told.Nodup/\(∀x∈told,x∈names)/\bW Γ ie [.lst (ds.map .int),.lst (names.map .str)]=some (.ok (.loc,.tup (told.map .str))):=by
  have hsz:(1000:Nat)<=sizeLine:=by decide
  have i0:atI (ds.map U.int) 0=some (.int (dd ds 0)):=bF (i:=0) (by omega);have i1:atI (ds.map U.int) 1=some (.int (dd ds 1)):=bF (i:=1) (by omega);have i2:atI (ds.map U.int) 2=some (.int (dd ds 2)):=bF (i:=2) (by omega);have n0:=cA h0 0;have n1:=cA h0 1;have n2:=cA h0 2;have hp:(0:Int)<((names.map U.str).length:Nat):=by simp;omega
  have hL:((names.map U.str).length:Int)=names.length:=by simp
  have hm0:=Int.emod_lt_of_pos (dd ds 0) hp;have hm1:=Int.emod_nonneg (dd ds 0) (by omega:((names.map U.str).length:Int)≠0);let B:=fun(t:Int) (us:List U) (o4 o5:Option (Kd×U))=>([some (.any,.lst (ds.map .int)),some (.any,.lst (names.map .str)),some (.loc,.int t),some (.own,.lst us),o4,o5]:ag)
  have hj:(dd ds 1 % 10).toNat<10:=by omega
  obtain⟨q,hq,hat⟩:=BB _ hj;rw[Int.toNat_of_nonneg (by omega)]at hat;have main:∀t:Int,0<t->t<=names.length->∃told:List Str,told.length<=8/\told.Nodup/\(∀x∈told,x∈names)/\∃st',Run (execs Γ (ie.body.drop 2)) [some (.any,.lst (ds.map .int)),some (.any,.lst (names.map .str)),some (.loc,.int t),none,none,none] (.rt .loc (.tup (told.map .str))) st':=fun t ht htl=>by
    let I:List (Kd×U)->ag->Prop:=fun xs st=>∃(told:List Str) (us:List U) (o4 o5:Option (Kd×U)),st=B t us o4 o5/\us=told.map .str/\told.Nodup/\(∀x∈told,x∈names)/\told.length+xs.length<=q/\eO q xs;have loop:=qG (t:=false) (is:=[4]) (body:=execs Γ [.set 5 (.idx (.var 1) (.bin .mod (.idx (.var 0) (.bin .add (.cst (.int 3)) (.var 4))) (.var 2))),
      .ite (.cmp .notin (.var 5) (.var 3))
        [.app 3 (.var 5)]
        []]) (rs:=[(.loc,.int (q:Nat))]) I (fun _ _ _=>trivial) (fun x xs st hIx=>by
      obtain⟨told,us,o4,o5,e,e2,hnd,hw,hl,hr⟩:=hIx;subst e;obtain⟨i,hi,rfl,hr',hlen⟩:=hr.cons;rw[List.length_cons]at hl;have ik:atI (ds.map U.int) (3+(i:Int))=some (.int (dd ds (3+i))):=by
        rw[show(3+(i:Int))=((3+i:Nat):Int) by omega];exact bF (by omega)
      obtain⟨x,hx,hxa⟩:=iJ (xs:=names) (cA h0 (3+i)) ht htl;have hni:bz .notin (.str x) (.lst us)=some (decide (x∉told)):=by rw[e2];exact nN
      by_cases hin:x∈told
      · refine⟨B t us (some (.loc,.int (i:Nat))) o5,B t us (some (.loc,.int (i:Nat))) (some (.any,.str x)),aC,?_,⟨told,us,_,_,rfl,e2,hnd,hw,by omega,hr'⟩⟩
        refine ax (r:=(.any,.str x)) (st1:=B t us (some (.loc,.int (i:Nat))) o5) ?_ jK (cD (st1:=B t us (some (.loc,.int (i:Nat))) (some (.any,.str x))) ?_ aG aG)
        · repeat' (first|exact aD ik|exact aR ht|exact aD hxa|sizeOf_list_dec)
        · have:bz .notin (.str x) (.lst us)=some false:=by rw[hni];simp[hin]
          repeat' (first|exact this|sizeOf_list_dec)
      · refine⟨B t us (some (.loc,.int (i:Nat))) o5,B t (us++[.str x]) (some (.loc,.int (i:Nat))) (some (.any,.str x)),aC,?_,⟨told++[x],_,_,_,rfl,by simp[e2],?_,?_,by simp;omega,hr'⟩⟩
        · refine ax (r:=(.any,.str x)) (st1:=B t us (some (.loc,.int (i:Nat))) o5) ?_ jK (fE (st1:=B t us (some (.loc,.int (i:Nat))) (some (.any,.str x))) (st2:=B t (us++[.str x]) (some (.loc,.int (i:Nat))) (some (.any,.str x))) ?_ ?_ aG)
          · repeat' (first|exact aD ik|exact aR ht|exact aD hxa|sizeOf_list_dec)
          · have:bz .notin (.str x) (.lst us)=some true:=by rw[hni];simp[hin]
            repeat' (first|exact this|sizeOf_list_dec)
          · repeat' (first|exact jJ rfl|exact(by rw[e2,List.length_map];omega)|sizeOf_list_dec)
        · rw[List.nodup_append]
          exact ⟨hnd, by simp, fun y hy w hw' => by have : w = x := by simpa using hw'
                                                    subst this;rintro rfl;exact hin hy⟩
        · intro y hy
          rcases List.mem_append.mp hy with h|h
          · exact hw y h
          · rw[List.mem_singleton.mp h];exact hx)
    obtain⟨st',hrun,told,us,o4,o5,e,e2,hnd,hw,hl,_⟩:=loop ((List.range q).map fun i:Nat=>(Kd.loc,U.int (0+(i:Int)))) (B t [] none none) ⟨[],[],none,none,rfl,rfl,by simp,by simp,by simp,eO.all q⟩;subst e e2;refine⟨told,by simp at hl;omega,hnd,hw,?_⟩;have hit:=dS (k:=.loc) (n:=q) (by omega);refine⟨B t (told.map .str) o4 o5,ax (r:=(.own,.lst [])) (cc aj trivial aJ (Nat.zero_le _)) bM (cf (rs:=[(.loc,.int (q:Nat))]) (st1:=B t [] none none) ?_ trivial hit rfl hrun ?_)⟩
    · refine af (aZ (x:=(.own,.lst [U.int 0,.int 0,.int 1,.int 1,.int 1,.int 2,.int 2,.int 2,.int 3,.int 8])) (y:=(.loc,.int (dd ds 1 % 10))) (st1:=B t [] none none) ?_ ?_ trivial (aD hat)) aj
      · repeat' (first|exact(by decide:(10:Nat)<=sizeLine)|sizeOf_list_dec)
      · repeat' (first|exact aD i1|sizeOf_list_dec)
    · repeat' sizeOf_list_dec
  have fin:∀t:Int,0<t->t<=names.length->(∀{f:Fl} {st':ag},Run (execs Γ (ie.body.drop 2)) [some (.any,.lst (ds.map .int)),some (.any,.lst (names.map .str)),some (.loc,.int t),none,none,none] f st'->Run (execs Γ ie.body) [some (.any,.lst (ds.map .int)),some (.any,.lst (names.map .str)),none,none,none,none] f st') ->
      ∃told:List Str,told.length<=8/\told.Nodup/\(∀x∈told,x∈names)/\bW Γ ie [.lst (ds.map .int),.lst (names.map .str)]=some (.ok (.loc,.tup (told.map .str))):=fun t ht htl hh=>by
    obtain⟨told,a1,a2,a3,st',a4⟩:=main t ht htl;exact⟨told,a1,a2,a3,aP (st0:=[some (.any,.lst (ds.map .int)),some (.any,.lst (names.map .str)),none,none,none,none]) rfl (.inr rfl) rfl (hh a4)⟩
  let S0:ag:=[some (.any,.lst (ds.map .int)),some (.any,.lst (names.map .str)),some (.loc,.int ((names.map U.str).length:Nat)),none,none,none]
  have q1:∀{c:Bool},decide (0<dd ds 2 % 3)=c->Run (tst Γ (.cmp .gt (.bin .mod (.idx (.var 0) (.cst (.int 2))) (.cst (.int 3))) (.cst (.int 0)))) S0 c S0:=fun h=>by repeat' (first|exact aD i2|exact nK h|sizeOf_list_dec)
  have q2:∀{c:Bool},decide (0<dd ds 0 % ((names.map U.str).length:Nat))=c->Run (tst Γ (.cmp .gt (.bin .mod (.idx (.var 0) (.cst (.int 0))) (.bi .len [.var 1])) (.cst (.int 0)))) S0 c S0:=fun h=>by repeat' (first|exact aD i0|exact aR hp|exact nK h|sizeOf_list_dec)
  have s2:Run (ev Γ (.bi .len [.var 1])) [some (.any,.lst (ds.map .int)),some (.any,.lst (names.map .str)),none,none,none,none] (.loc,.int ((names.map U.str).length:Nat)) [some (.any,.lst (ds.map .int)),some (.any,.lst (names.map .str)),none,none,none,none]:=by repeat' sizeOf_list_dec
  have s3:Run (ev Γ (.bin .mod (.idx (.var 0) (.cst (.int 0))) (.bi .len [.var 1]))) S0 (.loc,.int (dd ds 0 % ((names.map U.str).length:Nat))) S0:=by repeat' (first|exact aD i0|exact aR hp|sizeOf_list_dec)
  by_cases c1:0<dd ds 2 % 3
  · by_cases c2:0<dd ds 0 % ((names.map U.str).length:Nat)
    · exact fin (dd ds 0 % ((names.map U.str).length:Nat)) c2 (by omega) fun h=>ax s2 aC (fE (ib (mf (q1 (decide_eq_true c1)) (dR (q2 (decide_eq_true c2))))) (ax s3 aC aG) h)
    · exact fin ((names.map U.str).length:Nat) hp (by omega) fun h=>ax s2 aC (cD (ib (mf (q1 (decide_eq_true c1)) (dR (q2 (decide_eq_false c2))))) aG h)
  · exact fin ((names.map U.str).length:Nat) hp (by omega) fun h=>ax s2 aC (cD (ib (pz (q1 (decide_eq_false c1)))) aG h)
end TM
namespace TM
open PySem L2 W01
theorem uI{Γ:Tab}{st st1 st2 st3 st4:ag}{i:Nat}{ke ve:E}{ss:List S}{rv rk:Kd×U}{k k':Kd}{uv uk u' u0 u1:U}{f:Fl}(h1:Run (ev Γ ve) st rv st1)(h2:st1[i]?=some (some (k',u')))(h3:Run (ev Γ ke) st1 rk st2)(h4:Run (cw [rv,rk]) st2 [uv,uk] st3)(h5:st3[i]?=some (some (k,u0)))(hk:k.root=true)(h6:du uk uv u0=some u1)
  (h7:Run (execs Γ ss) (st3.set i (some (k,u1))) f st4) (hn:k'≠.ownD:=by intro z;cases z):Run (execs Γ (.put i ke ve::ss)) st f st4:=by
 refine fe (aa h1 (aa (fq h2 hn) (aa h3 (aa h4 (aa (a:=()) (st1:=st3.set i (some (k,u1))) ?_ aU))))) h7;show modS i (qh [uv,uk]) st3=_;unfold modS;rw[h5];simp only[hk,if_true];show(match du uk uv u0 with|some u'=>_|none=>none)=_;rw[h6]
noncomputable abbrev Row:=Str×List Str
noncomputable def rwU(r:Row):U:=.tup [.str r.1,.tup (r.2.map .str)]
theorem sorted_strs{k:Kd}{ss:List Str}(h:ss.length<64):biU .sorted [(k,.tup (ss.map .str))]=some (.own,.lst ((aH ss).map .str)):=by
 show(strsOf (ss.map U.str)).bind _=_;rw[eZ];show(if ss.length<64 then _ else _)=_;rw[if_pos h]
noncomputable def pD(Γ:Tab):Prop:=∀(ds:List Int) (names:List Str),11<=ds.length->(∀d∈ds,0<=d)->0<names.length ->
 ∃told:List Str,told.length<=8/\told.Nodup/\(∀x∈told,x∈names)/\Γ "_law_told" [.lst (ds.map .int),.lst (names.map .str)]=some (.ok (.loc,.tup (told.map .str)))
structure bj(names:List Str)(r:Row):Prop where
 word:r.1∈names
 few:r.2.length<=8
 once:r.2.Nodup
 told:∀x∈r.2,x∈names
end TM
namespace TM
open PySem L2 W01
section
variable{Pg:List Fn}{d:Nat}
noncomputable def Has(Pg:List Fn)(f:Str)(fn:Fn):Prop:=(Pg.find? fun g=>decide (g.name=f))=some fn
theorem aQ{fn:Fn}{f:Str}(h:Has Pg f fn)(us:List U):sem Pg (d+1) f us=bW (sem Pg d) fn us:=by
 show(match Pg.find? fun g=>decide (g.name=f) with|some fn=>bW (sem Pg d) fn us|none=>none)=_;rw[show _=some fn from h]
theorem xw(h:Has Pg "_law_mix" rS):uC (sem Pg (d+1)):=fun c k h0 h1=>by rw[aQ h];exact wK h0 h1
theorem zk(h:Has Pg "_law_mix" rS)(h2:Has Pg "_law_cell" qI):jO (sem Pg (d+2)):=fun ns k hk=>⟨_,by rw[aQ h2];exact uE (xw h) hk⟩
theorem drawnOk(h:Has Pg "_law_mix" rS)(h2:Has Pg "_law_drawn" mr):gu (sem Pg (d+2)):=fun c n hn=>by
 obtain⟨ds,a,b,e⟩:=rT (xw (d:=d) h) (c:=c) hn;exact⟨ds,a,b,by rw[aQ h2];exact e⟩
theorem zl{md:E}(hmd:zi md)(h:Has Pg "_law_name" (mw md)):uG (sem Pg (d+1)):=fun ds names a b c e=>by
 obtain⟨x,p,q,r⟩:=uF (Γ:=sem Pg d) hmd a b c e;exact⟨x,p,q,by rw[aQ h];exact r⟩
theorem zm(h:Has Pg "_law_told" ie):pD (sem Pg (d+1)):=fun ds names a b c=>by
 obtain⟨x,p,q,r,s⟩:=uH (Γ:=sem Pg d) a b c;exact⟨x,p,q,r,by rw[aQ h];exact s⟩
end
end TM
namespace TM
open PySem L2 W01
section
variable{Γ:Tab}{st st1 st2 st3 st4:ag}
theorem k7{a ss:List S}{f:Fl}(h:Run (execs Γ (a++ss)) st f st2):(∃s1,Run (execs Γ a) st .nx s1/\Run (execs Γ ss) s1 f st2)\/(Run (execs Γ a) st f st2/\f≠.nx):=by
 induction a generalizing st with
 |nil=>exact .inl ⟨st,aG,h⟩
 |cons s a ih =>
  have h':M.bind (exec Γ s) (fun f=>match f with|.nx=>execs Γ (a++ss)|f=>pure f) st=some (.ok f,st2):=h;unfold M.bind at h';cases e:exec Γ s st with
  |none=>rw[e]at h';cases h'
  |some p =>
   obtain⟨x,s1⟩:=p;rw[e]at h';cases x with
   |exc c=>cases h'
   |ok g =>
    cases g with
    |nx =>
     rcases ih h' with⟨s2,h1,h2⟩|⟨h1,h2⟩
     ·exact .inl ⟨s2,fe e h1,h2⟩
     ·exact .inr ⟨fe e h1,h2⟩
    |rt k u=>cases h';exact .inr ⟨wJ e,fun z=>nomatch z⟩
    |bk=>cases h';exact .inr ⟨aa (show Run (exec Γ s) st Fl.bk _ from e) aU,fun z=>nomatch z⟩
    |ct=>cases h';exact .inr ⟨aa (show Run (exec Γ s) st Fl.ct _ from e) aU,fun z=>nomatch z⟩
theorem AR{s:S}{ss:List S}{f:Fl}(h1:Run (exec Γ s) st f st1)(hf:f≠.nx):Run (execs Γ (s::ss)) st f st1:=by
 cases f with
 |nx=>exact absurd rfl hf
 |rt k u=>exact wJ h1
 |bk=>exact aa h1 aU
 |ct=>exact aa h1 aU
theorem bY{c:E}{a b ss:List S}{p:Bool}{f:Fl}(h1:Run (tst Γ c) st p st1)(hT:p=true->Run (execs Γ (a++ss)) st1 f st2)(hF:p=false->Run (execs Γ (b++ss)) st1 f st2):Run (execs Γ (.ite c a b::ss)) st f st2:=by
 cases p with
 |true =>
  rcases k7 (hT rfl) with⟨s1,h2,h3⟩|⟨h2,h3⟩
  ·exact fe (mj h1 h2) h3
  ·exact AR (mj h1 h2) h3
 |false =>
  rcases k7 (hF rfl) with⟨s1,h2,h3⟩|⟨h2,h3⟩
  ·exact fe (pA h1 h2) h3
  ·exact AR (pA h1 h2) h3
theorem pE{e e2:E}{es:List E}{p q:Bool}(h:Run (tst Γ e) st p st)(h2:p=true->Run (aS Γ (e2::es)) st q st):Run (aS Γ (e::e2::es)) st (p&&q) st:=by
 cases p with
 |true=>exact mf h (h2 rfl)
 |false=>exact pz h
theorem fF{α:Type}{cond:M Bool}{elt:M (Kd×U)}{src:List (Kd×U)}(h:ba src st)(k:Kd)(hk:k=.loc\/k=.any)(enc g:α->U)(kd:Kd)(hc:∀y,Run cond (some (k,enc y)::st) true (some (k,enc y)::st)):∀(ys:List α) (acc:List U),acc.length+ys.length<=sizeLine ->
  (∀y∈ys,Run elt (some (k,enc y)::st) (kd,g y) (some (k,enc y)::st)/\Run (lift (kd,g y)) (some (k,enc y)::st) (g y) (some (k,enc y)::st))->Run (bg 1 false cond elt src (ys.map fun y=>(k,enc y)) acc) st (acc++ys.map g) st
 |[],acc,_,_=>by rw[List.map_nil,List.map_nil,List.append_nil];exact nJ h
 |y::ys,acc,hl,hx=>by
  obtain⟨h2,h3⟩:=hx y (by simp);rw[List.length_cons]at hl;refine jL (s1:=some (k,enc y)::st) (s2:=some (k,enc y)::st) (s3:=some (k,enc y)::st) (s4:=some (k,enc y)::st) h ?_ (hc y) h2 h3 (by omega) ?_
  ·rcases hk with rfl|rfl
   ·exact bR aC
   ·exact bR jK
  ·have:=fF h k hk enc g kd hc ys (acc++[g y]) (by simp;omega) fun z hz=>hx z (by simp[hz]);rw[List.map_cons];simpa using this
theorem pF{α:Type}{cond:M Bool}{elt:M (Kd×U)}{src:List (Kd×U)}(h:ba src st)(k:Kd)(hk:k=.loc\/k=.any)(enc g:α->U)(p:α->Bool)(kd:Kd):∀(ys:List α) (acc:List U),acc.length+ys.length<=sizeLine ->
  (∀y∈ys,Run cond (some (k,enc y)::st) (p y) (some (k,enc y)::st)/\(p y=true->Run elt (some (k,enc y)::st) (kd,g y) (some (k,enc y)::st)/\Run (lift (kd,g y)) (some (k,enc y)::st) (g y) (some (k,enc y)::st)))->Run (bg 1 false cond elt src (ys.map fun y=>(k,enc y)) acc) st (acc++(ys.filter p).map g) st
 |[],acc,_,_=>by rw[List.map_nil,List.filter_nil,List.map_nil,List.append_nil];exact nJ h
 |y::ys,acc,hl,hx=>by
  obtain⟨h1,h23⟩:=hx y (by simp);rw[List.length_cons]at hl;have ht:Run (cC false (List.range 1) (k,enc y)) (List.replicate 1 none++st) () (some (k,enc y)::st):=by
   rcases hk with rfl|rfl
   ·exact bR aC
   ·exact bR jK
  cases hp:p y with
  |true =>
   rw[hp]at h1;obtain⟨h2,h3⟩:=h23 hp;refine jL (s1:=some (k,enc y)::st) (s2:=some (k,enc y)::st) (s3:=some (k,enc y)::st) (s4:=some (k,enc y)::st) h ht h1 h2 h3 (by omega) ?_;have:=pF h k hk enc g p kd ys (acc++[g y]) (by simp;omega) fun z hz=>hx z (by simp[hz]);rw[List.filter_cons,if_pos hp,List.map_cons];simpa using this
  |false =>
   rw[hp]at h1;refine pB (s1:=some (k,enc y)::st) (s2:=some (k,enc y)::st) h ht h1 ?_;have:=pF h k hk enc g p kd ys acc (by omega) fun z hz=>hx z (by simp[hz]);rw[List.filter_cons,if_neg (by simp[hp])];exact this
theorem bZ{α:Type}{t:Bool}{is:List Nat}{body:M Fl}{rs:List (Kd×U)}(it:α->Kd×U)(I:List α->List α->ag->Prop)(hs:∀d r st,I d r st->ba rs st)
  (step:∀d y r st,I d (y::r) st->∃st1 st2,Run (cC t is (it y)) st () st1/\Run body st1 .nx st2/\I (d++[y]) r st2):∀(r d:List α) (st:ag),I d r st->∃st',Run (forM t is body rs (r.map it)) st .nx st'/\I (d++r) [] st'
 |[],d,st,h=>⟨st,xu (hs _ _ _ h),by rw[List.append_nil];exact h⟩
 |y::r,d,st,h=>by
  obtain⟨s1,s2,h1,h2,h3⟩:=step d y r st h;obtain⟨s3,h4,h5⟩:=bZ it I hs step r (d++[y]) s2 h3;exact⟨s3,AO (hs _ _ _ h) h1 h2 h4,by simpa using h5⟩
theorem jP{f:Str}{es:List E}{rs:List (Kd×U)}{r:Kd×U}{b:Bool}(h1:Run (bA Γ es) st rs st1)(h2:ba rs st1)(h3:Γ f (rs.map (·.2))=some (.ok r))(h4:ka r.2=some b)(hr:isAny r.1=false:=by exact rfl):Run (tst Γ (.call f es)) st b st1:=aa h1 (aa (a5 h2) (aa (qE h3 hr) (cE h4)))
theorem zo{f:Bf}{es:List E}{k:Kd}{b:Bool}(h:Run (ev Γ (.bi f es)) st (k,.bl b) st1):Run (tst Γ (.bi f es)) st b st1:=by
 have h':(bA Γ es >>= fun rs=>au rs >>= fun _=>M.ofO (biU f rs)) st=some (.ok (k,.bl b),st1):=h;obtain⟨rs,s1,e1,e2,s2,e3,r,s3,e4,e5⟩:∃rs s1,bA Γ es st=some (.ok rs,s1)/\∃(a:Unit) (s2:ag),au rs s1=some (.ok a,s2)/\∃r s3,M.ofO (biU f rs) s2=some (.ok r,s3)/\(r,s3)=((k,U.bl b),st1):=by
  have w:W (bA Γ es >>= fun rs=>au rs >>= fun _=>M.ofO (biU f rs)) st fun r s=>(r,s)=((k,U.bl b),st1):=⟨_,_,h',rfl⟩
  rw[ab]at w;obtain⟨rs,s1,e1,w⟩:=w;rw[ab]at w;obtain⟨a,s2,e2,w⟩:=w;obtain⟨r,s3,e3,w⟩:=w;exact⟨rs,s1,e1,a,s2,e2,r,s3,e3,w⟩
 cases e5;exact aa e1 (aa (a:=e2) e3 (aa e4 (cE rfl)))
theorem xx{i:Nat}{e:E}{ss:List S}{k k':Kd}{r:Kd×U}{us us' zs:List U}{f:Fl}(h0:st[i]?=some (some (k',.lst us')))(h1:Run (ev Γ e) st r st1)(h3:st1[i]?=some (some (k,.lst us)))(hk:k.root=true)(hr:kb r (.lst us)=some (.lst zs))
  (h4:Run (execs Γ ss) (st1.set i (some (k,.lst zs))) f st3) (hn:k'≠.ownD:=by intro z;cases z):Run (execs Γ (.ext i e::ss)) st f st3:=by
 refine fe (aa (fq h0 hn) (aa (a:=()) (st1:=st) rfl (aa h1 (aa (a:=()) (st1:=st1.set i (some (k,.lst zs))) ?_ aU)))) h4;show modS i (kb r) st1=_;unfold modS;rw[h3];simp only[hk,if_true];rw[hr]
end
theorem qK{k:Kd}{xs ys:List U}(h:xs.length+ys.length<=sizeLine)(hs:jt k ys=true):kb (k,.lst ys) (.lst xs)=some (.lst (xs++ys)):=by
 show(if xs.length+ys.length<=sizeLine/\jt k ys=true then _ else _)=_;rw[if_pos ⟨h,hs⟩]
end TM
namespace TM
open PySem L2 W01
theorem k8:∀ss:List Str,fY (ss.map U.str)=true
 |[]=>by simp[fY]
 |s::ss=>by simp[fY,imm,k8 ss]
theorem mB(r:Row):imm (rwU r)=true:=by simp[rwU,imm,fY,k8]
theorem bO:∀rs:List Row,fY (rs.map rwU)=true
 |[]=>by simp[fY]
 |r::rs=>by simp[fY,mB,bO rs]
theorem fG:∀(a b:List Str),bx (a.map U.str) (b.map U.str)=decide (a=b)
 |[],[]=>by simp[bx]
 |[],_::_=>by simp[bx]
 |_::_,[]=>by simp[bx]
 |x::a,y::b=>by
  rw[List.map_cons,List.map_cons,bx,fG a b];simp only[aW];by_cases h:x=y
  ·subst h;simp
  ·simp[h]
theorem rX(a b:Row):aW (rwU a) (rwU b)=decide (a=b):=by
 obtain⟨a1,a2⟩:=a;obtain⟨b1,b2⟩:=b;simp only[rwU,aW,bx,Bool.and_true,fG];by_cases h:a1=b1
 ·subst h;simp
 ·simp[h]
theorem qL(r:Row):eqD 50 (rwU r)=true:=by
 simp[rwU,eqD,bI,dy]
theorem wN{op:Bool}{a b:Row}:bz .eq (rwU a) (rwU b)=some (decide (a=b)):=by
 simp only[bz];rw[if_pos ⟨qL a,qL b⟩,rX]
theorem dU(ss:List Str)(n:Nat):eqD (n+1) (.lst (ss.map U.str))=true:=by simp[eqD,dy]
theorem nP{a b:List Str}:bz .eq (.lst (a.map U.str)) (.lst (b.map U.str))=some (decide (a=b)):=by
 simp only[bz];rw[if_pos ⟨dU a 49,dU b 49⟩];simp only[aW,fG]
theorem wO{a b:Str}:bz .eq (.str a) (.str b)=some (decide (a=b)):=by
 simp only[bz];rw[if_pos ⟨rfl,rfl⟩];simp only[aW];by_cases h:a=b
 ·subst h;simp
 ·simp[h]
theorem gv{α β:Type}(f:α->β)(xs:List α)(lo hi:Option Int):cut (xs.map f) lo hi=(cut xs lo hi).map f:=by simp[cut,List.map_take,List.map_drop]
theorem wQ{α:Type}{xs:List α}{lo hi:Option Int}{x:α}(h:x∈cut xs lo hi):x∈xs:=List.mem_of_mem_drop (List.mem_of_mem_take h)
end TM
namespace TM
open PySem L2 W01
theorem ig{α β:Type}{f:α->β}:∀{l:List α},(∀x∈l,∀y∈l,f x=f y->x=y)->l.Nodup->(l.map f).Nodup
 |[],_,_=>List.nodup_nil
 |a::l,h,n=>by
  rw[List.nodup_cons]at n;rw[List.map_cons,List.nodup_cons];refine⟨fun z=>?_,ig (fun x hx y hy=>h x (by simp[hx]) y (by simp[hy])) n.2⟩;obtain⟨b,hb,e⟩:=List.mem_map.mp z;exact n.1 (h b (by simp[hb]) a (by simp) e▸hb)
section
variable{Γ:Tab}
theorem rY{st:ag}{rows:List Row}{i:Nat}(hl:rows.length<=1000)(h:st[i]?=some (some (.loc,.tup (rows.map rwU)))):Run (ev Γ (.comp 1 false .seq [.var i] [] (.idx (.var 0) (.cst (.int 0))))) st (.own,.lst ((rows.map (·.1)).map .str)) st:=by
 have hsz:(1000:Nat)<=sizeLine:=by decide
 have hx:=fF (cond:=aS Γ []) (elt:=ev Γ (.idx (.var 0) (.cst (.int 0)))) (src:=[(.loc,.tup (rows.map rwU))]) (st:=st) trivial .loc (.inl rfl) rwU (fun r=>.str r.1) .loc (fun _=>ic) rows [] (by simp;omega)
  (fun r _=>⟨aZ (x:=(.loc,rwU r)) (ae rfl) aq trivial rfl,aX⟩)
 rw[List.nil_append]at hx;have e:(rows.map rwU).map (fun u=>(kE .loc,u))=rows.map fun r=>(Kd.loc,rwU r):=by rw[List.map_map];rfl
 rw[List.map_map];exact cX (rs:=[(.loc,.tup (rows.map rwU))]) (af (ae h) aj) trivial (by show some _=_;rw[e]) hx
end
end TM
namespace TM
open PySem L2 W01
section
variable{Γ:Tab}{st st1 st2:ag}
theorem uJ{a:E}{T:Ty5}{x:Kd×U}{b:Bool}(h1:Run (ev Γ a) st x st1)(h2:oN x.2 T=some b):Run (tst Γ (.isi a T)) st b st1:=aa h1 (cE h2)
end
theorem nQ{k k':Kd}{xs ys:List U}(h:xs.length+ys.length<=sizeLine)(h1:jt k xs=true)(h2:jt k' ys=true):opU .add (k,.lst xs) (k',.lst ys)=some (.own,.lst (xs++ys)):=by
 simp only[opU,oK];rw[if_pos ⟨h,h1,h2⟩]
theorem wR{ks:List Str}{us:List U}{x:Str}{u:U}(h:ks.length<1000):du (.str x) u (.dic ks us)=some (.dic (dput ks us x u).1 (dput ks us x u).2):=by
 have hsz:(1000:Nat)<=sizeLine:=by decide
 show(if ks.length<sizeLine then _ else _)=_;rw[if_pos (by omega)]
end TM
namespace Od
section
variable{W:Type}[DecidableEq W]{rows:List (W×List W)}
noncomputable def b7(rows:List (W×List W))(C:W->Prop):Prop:=∀r∈rows,(∀x∈r.2,C x)->C r.1
noncomputable def Snd(rows:List (W×List W))(K:List W):Prop:=∀C:W->Prop,b7 rows C->∀x∈K,C x
theorem same{K L:List W}(hK:K.Nodup)(hL:L.Nodup)(sK:Snd rows K)(sL:Snd rows L)(cK:b7 rows (·∈K))(cL:b7 rows (·∈L)):K.Perm L :=
 (List.perm_ext_iff_of_nodup hK hL).mpr fun x=>⟨fun h=>sK _ cL x h,fun h=>sL _ cK x h⟩
noncomputable def told(rows:List (W×List W))(p:Nat):List W:=match rows[p]? with
 |some r=>r.2
 |none=>[]
theorem iK{p:Nat}{r:W×List W}(h:rows[p]?=some r):told rows p=r.2:=by unfold told;rw[h]
noncomputable def pG(K l:List W):Nat:=(l.filter fun x=>decide (x∉K)).length
noncomputable def cnt(rows:List (W×List W))(K:List W)(p:Nat):Nat:=pG K (told rows p)
theorem rZ{K l:List W}:pG K l=0↔∀x∈l,x∈K:=by
 unfold pG;rw[List.length_eq_zero_iff,List.filter_eq_nil_iff];constructor
 ·intro h x hx;have:=h x hx;simpa using this
 ·intro h x hx;simpa using h x hx
theorem nR{K:List W}{w:W}(hw:w∉K):∀{l:List W},l.Nodup->pG (K++[w]) l+(if w∈l then 1 else 0)=pG K l
 |[],_=>rfl
 |x::l,h=>by
  obtain⟨h1,h2⟩:=List.nodup_cons.mp h;have ih:=nR hw h2;unfold pG at ih ⊢;by_cases e:x=w
  ·subst e;have a1:decide (x∉K++[x])≠true:=by simp
   have a2:decide (x∉K)=true:=decide_eq_true hw;rw[List.filter_cons_of_neg (p:=fun y=>decide (y∉K++[x])) a1,List.filter_cons_of_pos (p:=fun y=>decide (y∉K)) a2,List.length_cons,if_pos (List.mem_cons_self ..)];rw[if_neg h1]at ih;omega
  ·have e':w≠x:=fun z=>e z.symm;have e1:(if w∈x::l then 1 else 0)=if w∈l then 1 else 0:=by simp[e']
   rw[e1];by_cases hx:x∈K
   ·have a1:decide (x∉K++[w])≠true:=by simp[hx]
    have a2:decide (x∉K)≠true:=by simp[hx]
    rw[List.filter_cons_of_neg (p:=fun y=>decide (y∉K++[w])) a1,List.filter_cons_of_neg (p:=fun y=>decide (y∉K)) a2];exact ih
   ·have a1:decide (x∉K++[w])=true:=by simp[hx,e]
    have a2:decide (x∉K)=true:=by simp[hx]
    rw[List.filter_cons_of_pos (p:=fun y=>decide (y∉K++[w])) a1,List.filter_cons_of_pos (p:=fun y=>decide (y∉K)) a2,List.length_cons,List.length_cons];omega
noncomputable def Once(rows:List (W×List W)):Prop:=∀r∈rows,r.2.Nodup
theorem Once.told(h:Once rows)(p:Nat):(told rows p).Nodup:=by
 unfold Od.told;split
 ·rename_i r e;exact h r (List.mem_of_getElem? e)
 ·exact .nil
theorem nS{K:List W}{p:Nat}:cnt rows K p=0↔∀x∈told rows p,x∈K:=rZ
theorem mC(h:Once rows){K:List W}{w:W}(hw:w∉K)(p:Nat):cnt rows (K++[w]) p+(if w∈told rows p then 1 else 0)=cnt rows K p:=nR hw (h.told p)
noncomputable def tel(rows:List (W×List W))(n:Nat)(w:W):List Nat:=(List.range n).filter fun p=>decide (w∈told rows p)
theorem r6(n:Nat)(w:W):(tel rows n w).Nodup:=List.Nodup.sublist List.filter_sublist List.nodup_range
theorem gw{n p:Nat}{w:W}:p∈tel rows n w↔p<n/\w∈told rows p:=by simp[tel]
noncomputable def ay(ps:List (W×Nat))(w:W):List Nat:=(ps.filter fun p=>decide (p.1=w)).map (·.2)
theorem nU{n:Nat}{w:W}:∀{l:List W},l.Nodup->ay (l.map fun x=>(x,n)) w=if w∈l then [n] else []
 |[],_=>rfl
 |x::l,h=>by
  obtain⟨h1,h2⟩:=List.nodup_cons.mp h;have ih:=nU (n:=n) (w:=w) h2;unfold ay at ih ⊢;rw[List.map_cons,List.filter_cons];by_cases e:x=w
  ·subst e;rw[if_neg h1]at ih;rw[if_pos (by simp),List.map_cons,ih,if_pos (by simp)]
  ·rw[if_neg (by simpa using e),ih];have e':w≠x:=fun z=>e z.symm;simp[e']
theorem nV(a b:List (W×Nat))(w:W):ay (a++b) w=ay a w++ay b w:=by simp[ay]
theorem r9(h:Once rows){ps:List (W×Nat)}{n:Nat}{r:W×List W}(hr:rows[n]?=some r)(hp:∀w,ay ps w=tel rows n w)(w:W):ay (ps++r.2.map fun x=>(x,n)) w=tel rows (n+1) w:=by
 rw[nV,hp w,nU (h r (List.mem_of_getElem? hr))];unfold tel;rw[List.range_succ,List.filter_append];congr 1
 rw[List.filter_cons,List.filter_nil,iK hr];by_cases e:w∈r.2<;>simp[e]
structure RI(rows:List (W×List W))(K0 K:List W)(R:List Nat):Prop where
 rdy:∀t∈R,t<rows.length/\cnt rows K t=0
 all:∀t,t<rows.length->cnt rows K t=0->cnt rows K0 t=0\/t∈R
theorem RI.start(K:List W):RI rows K K []:=⟨by simp,fun t _ h=>.inl h⟩
theorem RI.step(h:Once rows){K0 K:List W}{R:List Nat}(x:RI rows K0 K R){w:W}(hw:w∉K):RI rows K0 (K++[w]) (R++(tel rows rows.length w).filter fun t=>decide (cnt rows K t=1)):=by
 refine⟨fun t ht=>?_,fun t ht h0=>?_⟩
 ·have ha:=mC h hw t;rcases List.mem_append.mp ht with ht|ht
  ·obtain⟨q1,q2⟩:=x.rdy t ht;exact⟨q1,by omega⟩
  ·obtain⟨q1,q2⟩:=List.mem_filter.mp ht;obtain⟨q3,q4⟩:=gw.mp q1;rw[if_pos q4]at ha;have:cnt rows K t=1:=by simpa using q2
   exact⟨q3,by omega⟩
 ·have ha:=mC h hw t;by_cases hm:w∈told rows t
  ·rw[if_pos hm]at ha;exact .inr (List.mem_append.mpr (.inr (List.mem_filter.mpr ⟨gw.mpr ⟨ht,hm⟩,by simp;omega⟩)))
  ·rw[if_neg hm]at ha;rcases x.all t ht (by omega) with z|z
   ·exact .inl z
   ·exact .inr (List.mem_append.mpr (.inl z))
structure NS(rows:List (W×List W))(K:List W)(d:List Nat)(ps:List (W×Nat)):Prop where
 ok:∀s∈ps,s.2∈d/\s.1∉K/\∃r,rows[s.2]?=some r/\r.1=s.1
 once:(ps.map (·.1)).Nodup
 all:∀p∈d,∀r,rows[p]?=some r->r.1∈K\/r.1∈ps.map (·.1)
theorem NS.start(K:List W):NS rows K [] []:=⟨by simp,by simp,by simp⟩
theorem NS.skip{K:List W}{d:List Nat}{ps:List (W×Nat)}(x:NS rows K d ps){p:Nat}{r:W×List W}(hr:rows[p]?=some r)(h:r.1∈K\/r.1∈ps.map (·.1)):NS rows K (d++[p]) ps :=
 ⟨fun s hs=>let ⟨a,b,c⟩:=x.ok s hs;⟨by simp[a],b,c⟩,x.once,fun q hq r' hr'=>by
  rcases List.mem_append.mp hq with hq|hq
  ·exact x.all q hq r' hr'
  ·have:q=p:=by simpa using hq
   subst this;rw[hr]at hr';cases hr';exact h⟩
theorem NS.take{K:List W}{d:List Nat}{ps:List (W×Nat)}(x:NS rows K d ps){p:Nat}{r:W×List W}(hr:rows[p]?=some r)(h1:r.1∉K)(h2:r.1∉ps.map (·.1)):NS rows K (d++[p]) (ps++[(r.1,p)]):=by
 refine⟨fun s hs=>?_,?_,fun q hq r' hr'=>?_⟩
 ·rcases List.mem_append.mp hs with hs|hs
  ·obtain⟨a,b,c⟩:=x.ok s hs;exact⟨by simp[a],b,c⟩
  ·have:s=(r.1,p):=by simpa using hs
   subst this;exact⟨by simp,h1,r,hr,rfl⟩
 ·rw[List.map_append,List.nodup_append];refine⟨x.once,by simp,fun a ha b hb e=>?_⟩;have:b=r.1:=by simpa using hb
  subst this;exact h2 (e▸ha)
 ·rcases List.mem_append.mp hq with hq|hq
  ·rcases x.all q hq r' hr' with z|z
   ·exact .inl z
   ·exact .inr (by simp only[List.map_append,List.mem_append];exact .inl z)
  ·have:q=p:=by simpa using hq
   subst this;rw[hr]at hr';cases hr';exact .inr (by simp)
theorem NS.perm{K:List W}{d:List Nat}{ps qs:List (W×Nat)}(x:NS rows K d ps)(h:qs.Perm ps):NS rows K d qs :=
 ⟨fun s hs=>x.ok s (h.mem_iff.mp hs),(h.map _).nodup_iff.mpr x.once,fun p hp r hr=>(x.all p hp r hr).imp id fun z=>(h.map _).mem_iff.mpr z⟩
noncomputable def vS(rows:List (W×List W)):List W->List (W×Nat)->Prop
 |_,[]=>True
 |K,s::ss=>(s.1∉K/\∃r,rows[s.2]?=some r/\r.1=s.1/\∀x∈r.2,x∈K)/\vS rows (K++[s.1]) ss
theorem uK:∀{a b:List (W×Nat)}{K:List W},vS rows K a->vS rows (K++a.map (·.1)) b->vS rows K (a++b)
 |[],b,K,_,h=>by simpa using h
 |s::a,b,K,h1,h2=>⟨h1.1,uK h1.2 (by simpa using h2)⟩
theorem uL:∀{ss:List (W×Nat)}{K:List W},(∀s∈ss,s.1∉K/\∃r,rows[s.2]?=some r/\r.1=s.1/\∀x∈r.2,x∈K)->(ss.map (·.1)).Nodup->vS rows K ss
 |[],K,_,_=>trivial
 |s::ss,K,h,hn=>by
  have hn':s.1∉ss.map (·.1)/\(ss.map (·.1)).Nodup:=by
   rw[List.map_cons]at hn;exact List.nodup_cons.mp hn
  refine⟨h s (by simp),uL (fun t ht=>?_) hn'.2⟩;obtain⟨q1,r,q2,q3,q4⟩:=h t (by simp[ht]);refine⟨fun z=>?_,r,q2,q3,fun x hx=>by simp[q4 x hx]⟩;rcases List.mem_append.mp z with z|z
  ·exact q1 z
  ·have:t.1=s.1:=by simpa using z
   exact hn'.1 (this▸List.mem_map.mpr ⟨t,ht,rfl⟩)
theorem eQ:∀{ss:List (W×Nat)}{K:List W},vS rows K ss->K.Nodup->(K++ss.map (·.1)).Nodup
 |[],K,_,h=>by simpa using h
 |s::ss,K,h,hn=>by
  have:(K++[s.1]).Nodup:=by
   rw[List.nodup_append];refine⟨hn,by simp,fun a ha b hb e=>?_⟩;have:b=s.1:=by simpa using hb
   subst this;exact h.1.1 (e▸ha)
  have:=eQ h.2 this;simpa using this
theorem gx:∀{ss:List (W×Nat)}{K:List W},vS rows K ss->∀x∈ss.map (·.1),x∈rows.map (·.1)
 |[],K,_,x,hx=>by simp at hx
 |s::ss,K,h,x,hx=>by
  rw[List.map_cons]at hx;rcases List.mem_cons.mp hx with rfl|hx
  ·obtain⟨_,r,q1,q2,q3⟩:=h.1;exact List.mem_map.mpr ⟨r,List.mem_of_getElem? q1,q2⟩
  ·exact gx h.2 x hx
structure LI(rows:List (W×List W))(sts:List (W×Nat))(R:List Nat):Prop where
 ok:vS rows [] sts
 rdy:∀t∈R,t<rows.length/\cnt rows (sts.map (·.1)) t=0
 all:∀t r,rows[t]?=some r->cnt rows (sts.map (·.1)) t=0->t∈R\/r.1∈sts.map (·.1)
theorem LI.step{sts st:List (W×Nat)}{R R':List Nat}(x:LI rows sts R)(n:NS rows (sts.map (·.1)) R st)(y:RI rows (sts.map (·.1)) (sts.map (·.1)++st.map (·.1)) R'):LI rows (sts++st) R':=by
 have em:(sts++st).map (·.1)=sts.map (·.1)++st.map (·.1):=List.map_append;refine⟨uK x.ok (uL (fun s hs=>?_) n.once),fun t ht=>by rw[em];exact y.rdy t ht,fun t r hr h0=>?_⟩
 ·obtain⟨q1,q2,r,q3,q4⟩:=n.ok s hs;have hz:=(x.rdy _ q1).2;rw[nS,iK q3]at hz;exact⟨by simpa using q2,r,q3,q4,by simpa using hz⟩
 ·rw[em]at h0 ⊢;rcases y.all t (List.getElem?_eq_some_iff.mp hr).1 h0 with z|z
  ·rcases x.all t r hr z with z|z
   ·rcases n.all t z r hr with z|z
    ·exact .inr (List.mem_append.mpr (.inl z))
    ·exact .inr (List.mem_append.mpr (.inr z))
   ·exact .inr (List.mem_append.mpr (.inl z))
  ·exact .inl z
theorem LI.closed{sts:List (W×Nat)}(x:LI rows sts []):b7 rows (·∈sts.map (·.1)):=fun r hr h=>by
 obtain⟨t,ht⟩:=List.mem_iff_getElem?.mp hr;rcases x.all t r ht (by rw[nS,iK ht];exact h) with z|z
 ·cases z
 ·exact z
theorem jQ{K L:List W}(h:K.Nodup)(s:∀x∈K,x∈L):K.length<=L.length:=by
 induction K generalizing L with
 |nil=>simp
 |cons a K ih =>
  obtain⟨h1,h2⟩:=List.nodup_cons.mp h;have ha:a∈L:=s a (by simp);have:=ih (L:=L.erase a) h2 fun x hx=>by
   have hne:x≠a:=fun e=>h1 (e▸hx);exact(List.mem_erase_of_ne hne).mpr (s x (by simp[hx]))
  rw[List.length_erase_of_mem ha]at this;have:0<L.length:=List.length_pos_of_mem ha;rw[List.length_cons];omega
end
end Od
namespace TM
open PySem L2 W01
section
variable{Γ:Tab}{st st1 st2 st3 st4 st5:ag}
theorem AS{j:Nat}{u u0:U}(h:st[j]?=some (some (.own,u))):Run (lift (.bor j,u0)) st u (st.set j (some (.loc,u))):=by
 show(match st[j]? with|some (some (.own,u))=>some (Ex.ok u,st.set j (some (.loc,u)))|_=>none)=_;rw[h]
theorem xy{c:M Bool}{body:M Fl}{n:Nat}(h:Run c st false st1):Run (fD c body (n+1)) st .nx st1:=aa h aU
theorem wU{c:M Bool}{body:M Fl}{n:Nat}{f:Fl}(h:Run c st true st1)(h2:Run body st1 .nx st2)(h3:Run (fD c body n) st2 f st3):Run (fD c body (n+1)) st f st3:=aa h (aa h2 h3)
theorem xA{c:E}{body ss:List S}{f:Fl}(h:Run (fD (tst Γ c) (execs Γ body) fuel) st .nx st1)(h2:Run (execs Γ ss) st1 f st2):Run (execs Γ (.whl c body::ss)) st f st2:=fe h h2
theorem nW{i j:Nat}{k:Kd}{a b:U}(hk:k=.loc\/k=.any):Run (cC true [i,j] (k,.tup [a,b])) st () ((st.set i (some (k,a))).set j (some (k,b))):=by
 rcases hk with rfl|rfl<;>rfl
theorem zp{i:Nat}{ss:List S}{f:Fl}(h:Run (execs Γ ss) (st.set i (some (.ownD,.dic [] []))) f st1):Run (execs Γ (.newD i::ss)) st f st1:=fe (aa (a:=()) (st1:=st.set i (some (.ownD,.dic [] []))) rfl aU) h
theorem mD{i:Nat}{ks:List Str}{us:List U}(h:st[i]?=some (some (.ownD,.dic ks us))):Run (fb i) st (ks,us) st:=by
 show fb i st=_;unfold fb;rw[h]
theorem pH{k:Kd}{y:Str}:Run (f7 (k,.str y)) st y st:=rfl
theorem wV{i:Nat}{y:Str}{ks:List Str}{us xs:List U}(h2:st[i]?=some (some (.ownD,.dic ks us)))(h4:y∉ks)(h5:ks.length<sizeLine):Run (jw i y (.own,.lst xs)) st () (st.set i (some (.ownD,.dic (ks++[y]) (us++[.lst xs])))):=by
 show jw i y (.own,.lst xs) st=_;unfold jw
 dsimp only
 rw[h2]
 dsimp only
 rw[if_pos ⟨h4,h5⟩]
theorem wW{i:Nat}{y:Str}{u:U}{ks:List Str}{us xs:List U}(h0:st[i]?=some (some (.ownD,.dic ks us)))(h5:cU ks us y=some (.lst xs))(h6:xs.length<sizeLine):Run (jx i y u) st () (st.set i (some (.ownD,.dic ks (iD ks us y (.lst (xs++[u])))))):=by
 show jx i y u st=_;unfold jx;rw[h0]
 dsimp only
 rw[h5]
 dsimp only
 rw[if_pos h6]
theorem AU{neg:Bool}{a:E}{i:Nat}{k:Kd}{y:Str}{ks:List Str}{us:List U}(h1:Run (ev Γ a) st (k,.str y) st1)(h2:st1[i]?=some (some (.ownD,.dic ks us))):Run (tst Γ (.inD neg a i)) st (inB neg y ks) st1 :=
 aa h1 (aa pH (aa (mD h2) aU))
theorem zq{i:Nat}{ke ve:E}{k:Kd}{y:Str}{ks:List Str}{us xs:List U}{ss:List S}{f:Fl}(h1:Run (ev Γ ve) st (.own,.lst xs) st1)(h2:st1[i]?=some (some (.ownD,.dic ks us)))(h3:Run (ev Γ ke) st1 (k,.str y) st1)(h4:y∉ks)(h5:ks.length<sizeLine)
  (h6:Run (execs Γ ss) (st1.set i (some (.ownD,.dic (ks++[y]) (us++[.lst xs])))) f st3):Run (execs Γ (.putD i ke ve::ss)) st f st3:=by
 refine fe ?_ h6;exact aa h1 (aa (mD h2) (aa h3 (aa pH (aa (wV h2 h4 h5) aU))))
theorem zr{i:Nat}{ke ve:E}{k:Kd}{y:Str}{ks:List Str}{us xs:List U}{r:Kd×U}{u:U}{ss:List S}{f:Fl}(h0:st[i]?=some (some (.ownD,.dic ks us)))(h1:Run (ev Γ ke) st (k,.str y) st)(h2:y∈ks)(h3:Run (ev Γ ve) st r st)(h4:Run (lift r) st u st)(h5:cU ks us y=some (.lst xs))(h6:xs.length<sizeLine)
  (h7:Run (execs Γ ss) (st.set i (some (.ownD,.dic ks (iD ks us y (.lst (xs++[u])))))) f st3):Run (execs Γ (.appD i ke ve::ss)) st f st3:=by
 refine fe ?_ h7;refine aa (mD h0) (aa h1 (aa pH (aa (mD h0) ?_)));rw[if_pos h2];exact aa h3 (aa h4 (aa (wW h0 h5 h6) aU))
theorem AV{i:Nat}{u:U}(h:st[i]?=some (some (.ownD,u))):Run (ev Γ (.pub i)) st (.bor i,u) (st.set i (some (.own,u))):=by
 show tM i st=_;unfold tM;rw[h]
theorem zt{i:Nat}{a b:E}{k:Kd}{y:Str}{ks:List Str}{us:List U}{z:Kd×U}{u:U}{r:Kd×U}(h0:st[i]?=some (some (.own,.dic ks us)))(h1:Run (ev Γ a) st (k,.str y) st)(h2:Run (ev Γ b) st z st)(h3:Run (lift z) st u st)(h4:(match cU ks us y with|some v=>(Kd.loc,v)|none=>(.loc,u))=r):
  Run (ev Γ (.get2 i a b)) st r st:=by
 refine aa (fq h0) (aa (a:=()) (st1:=st) rfl (aa h1 (aa (a:=y) (st1:=st) rfl (aa h2 (aa h3 (aa (fq h0) (cE ?_)))))));subst h4;rfl
theorem AW{i:Nat}{ke ve:E}{us:List U}{k1 k2:Kd}{j:Nat}{o w:Int}{ss:List S}{f:Fl}(h0:st[i]?=some (some (.own,.lst us)))(h1:Run (ev Γ ke) st (k1,.int (j:Nat)) st)(h2:us[j]?=some (.int o))(h3:Run (ev Γ ve) st (k2,.int w) st)
  (h4:Run (execs Γ ss) (st.set i (some (.own,.lst (us.set j (.int (o - w)))))) f st3):Run (execs Γ (.aug true i ke ve::ss)) st f st3:=by
 have hl:nj i st=some (.ok us,st):=by unfold nj;rw[h0];rfl
 have hj:j<us.length:=(List.getElem?_eq_some_iff.mp h2).1;have hi:nq us (j:Nat)=some o:=by
  unfold nq;rw[if_pos (by omega),Int.toNat_natCast,h2]
 have hx:ixN us.length (j:Nat)=some j:=by
  unfold ixN;rw[if_pos (by omega)]
  first|(rw[if_pos (by omega)];simp)|simp[hj]
 refine fe (aa (a:=us) (st1:=st) hl (aa h1 (aa (a:=(j:Int)) (st1:=st) rfl (aa (a:=us) (st1:=st) hl (aa (cE hi) (aa h3 (aa (a:=w) (st1:=st) rfl (aa (a:=()) (st1:=st.set i (some (.own,.lst (us.set j (.int (o - w)))))) ?_ aU)))))))) h4;show modS i (du (.int (j:Nat)) (.int (rK true o w))) st=_;unfold modS;rw[h0];simp only[Kd.root,if_true,du];rw[hx];rfl
theorem AX{i:Nat}{u:U}{r:Kd×U}(h0:st[i]?=some (some (.own,u)))(h1:tL u=some r):Run (ev Γ (.sit i)) st r st:=aa (fq h0) (cE h1)
end
theorem jR(f:Str->U)(y:Str):∀ks:List Str,cU ks (ks.map f) y=if y∈ks then some (f y) else none
 |[]=>rfl
 |k::ks=>by
  rw[List.map_cons];show(if k=y then some (f k) else cU ks (ks.map f) y)=_;by_cases e:k=y
  ·subst e;rw[if_pos rfl,if_pos (by simp)]
  ·rw[if_neg e,jR f y ks];have:(y∈k::ks)↔y∈ks:=by simp[Ne.symm e]
   by_cases h:y∈ks
   ·rw[if_pos h,if_pos (this.mpr h)]
   ·rw[if_neg h,if_neg fun z=>h (this.mp z)]
theorem nX(f:Str->U)(y:Str)(u:U):∀ks:List Str,ks.Nodup->iD ks (ks.map f) y u=ks.map fun k=>if k=y then u else f k
 |[],_=>rfl
 |k::ks,h=>by
  obtain⟨h1,h2⟩:=List.nodup_cons.mp h;rw[List.map_cons,List.map_cons];show(if k=y then u::ks.map f else f k::iD ks (ks.map f) y u)=_;by_cases e:k=y
  ·subst e;rw[if_pos rfl,if_pos rfl];congr 1
   refine List.map_congr_left fun z hz=>?_;have hzk:z≠k:=fun q=>h1 (by rw[<-q];exact hz);rw[if_neg hzk]
  ·rw[if_neg e,if_neg e,nX f y u ks h2]
noncomputable def stN(s:Str×Nat):U:=.tup [.str s.1,.int (s.2:Nat)]
theorem gN{α:Type}(f:α->Int):∀(ns:List α),intsOf (ns.map fun a=>U.int (f a))=some (ns.map f)
 |[]=>rfl
 |n::ns=>by show(intsOf (ns.map fun a=>U.int (f a))).map _=_;rw[gN f ns];rfl
theorem wX{ps:List (Str×Nat)}(h:ps.length<64)(hn:(ps.map (·.1)).Nodup):∃qs:List (Str×Nat),qs.Perm ps/\tL (.dic (ps.map (·.1)) (ps.map fun p=>.int (p.2:Nat)))=some (.own,.lst (qs.map stN)):=by
 have hi:=gN (fun p:Str×Nat=>((p.2:Nat):Int)) ps;have hz:(ps.map (·.1)).zip (ps.map fun p:Str×Nat=>((p.2:Nat):Int))=ps.map fun p=>(p.1,((p.2:Nat):Int)):=by
  rw[List.zip_map']
 let P:=iw ((ps.map fun p=>(p.1,((p.2:Nat):Int))).map (·.1));have hP:P.Perm (List.range ps.length):=by
  have:=eV ((ps.map fun p=>(p.1,((p.2:Nat):Int))).map (·.1));simpa[P] using this
 refine⟨P.map fun i=>ps.getD i (Str.empty,0),?_,?_⟩
 ·refine(hP.map _).trans ?_;have:(List.range ps.length).map (fun i=>ps.getD i (Str.empty,0))=ps:=by
   apply List.ext_getElem
   ·simp
   ·intro i h1 h2;simp[List.getD,h2]
  rw[this]
 ·show(intsOf (ps.map fun p=>U.int (p.2:Nat))).bind _=_;rw[hi];show(if (ps.map (·.1)).length<64/\(ps.map (·.1)).Nodup/\(ps.map (·.1)).length=(ps.map fun p:Str×Nat=>((p.2:Nat):Int)).length then _ else _)=_;rw[if_pos ⟨by simpa using h,hn,by simp⟩,hz];congr 3
  show(vQ _).map rH=_;show(P.map fun i=>(ps.map fun p=>(p.1,((p.2:Nat):Int))).getD i (Str.empty,0)).map rH=_;rw[List.map_map,List.map_map];refine List.map_congr_left fun i hi'=>?_;have hlt:i<ps.length:=List.mem_range.mp (hP.mem_iff.mp hi');simp[List.getD,hlt,rH,stN]
theorem zu{x:Str}{ks:List Str}{vs:List U}:bz .isin (.str x) (.dic ks vs)=some (decide (x∈ks)):=rfl
theorem gO{x:Str}{ks:List Str}{vs:List U}:bz .notin (.str x) (.dic ks vs)=some (!decide (x∈ks)):=rfl
theorem wY{k:Kd}(bs:List Bool):biU .all [(k,.lst (bs.map .bl))]=some (.loc,.bl (bs.all id)):=by
 show(ju (bs.map U.bl)).map _=_;have:∀bs:List Bool,ju (bs.map U.bl)=some bs:=fun bs=>by
  induction bs with
  |nil=>rfl
  |cons b bs ih=>show(ju (bs.map U.bl)).map _=_;rw[ih];rfl
 rw[this];rfl
mutual
theorem gP:∀(n:Nat) (u:U),eqD n u=true->aW u u=true
 |_,.non,_=>rfl
 |_,.bl b,_=>by simp[aW]
 |_,.int i,_=>by simp[aW]
 |_,.str x,_=>by simp[aW]
 |0,.tup xs,h=>by simp[eqD]at h
 |0,.lst xs,h=>by simp[eqD]at h
 |n+1,.tup xs,h=>by rw[aW];exact fH n xs (by simpa[eqD] using h)
 |n+1,.lst xs,h=>by rw[aW];exact fH n xs (by simpa[eqD] using h)
 |_,.dic _ _,h=>by simp[eqD]at h
 |_,.rdc _,h=>by simp[eqD]at h
theorem fH:∀(n:Nat) (us:List U),bI n us=true->bx us us=true
 |_,[],_=>rfl
 |n,u::us,h=>by
  have h':eqD n u=true/\bI n us=true:=by simpa[bI] using h
  rw[bx,gP n u h'.1,fH n us h'.2];rfl
end
theorem gQ{u:U}(h:eqD 50 u=true):bz .ne u u=some false:=by
 simp only[bz];rw[if_pos ⟨h,h⟩,gP 50 u h];rfl
section
variable{Γ:Tab}
theorem r_{st:ag}{src:E}{j:Nat}{told known:List Str}{k:Kd}{w:U}(hk:k=.loc\/k=.any)(hl:told.length<=1000)(hs:Run (ev Γ src) st (.loc,.tup (told.map .str)) st)(hj:st[j]?=some (some (k,w))\/st[j]?=some (some (.own,w)))(hw:∀x:Str,bz .isin (.str x) w=some (decide (x∈known))):
  Run (ev Γ (.bi .all [.comp 1 false .seq [src] [] (.cmp .isin (.var 0) (.var (j+1)))])) st (.loc,.bl (told.all fun x=>decide (x∈known))) st:=by
 have hsz:(1000:Nat)<=sizeLine:=by decide
 have hx:=fF (cond:=aS Γ []) (elt:=ev Γ (.cmp .isin (.var 0) (.var (j+1)))) (src:=[(.loc,.tup (told.map .str))]) (st:=st) trivial .loc (.inl rfl) U.str (fun x=>.bl (decide (x∈known))) .loc (fun _=>ic) told [] (by simp;omega)
  (fun y _=>⟨by
   rcases hj with hj|hj
   ·rcases hk with rfl|rfl
    ·exact h_ (ae rfl) (ae (by simpa using hj)) trivial (hw y)
    ·exact h_ (ae rfl) (aL (by simpa using hj)) trivial (hw y)
   ·exact h_ (ae rfl) (aI (by simpa using hj)) ⟨⟨.own,rfl,by simpa using hj⟩,trivial⟩ (hw y),aX⟩)
 rw[List.nil_append]at hx;have e:(told.map U.str).map (fun u=>(kE .loc,u))=told.map fun r=>(Kd.loc,U.str r):=by rw[List.map_map];rfl
 have e2:(told.map fun x=>U.bl (decide (x∈known)))=(told.map fun x=>decide (x∈known)).map U.bl:=by rw[List.map_map];rfl
 rw[e2]at hx;have e3:(told.all fun x=>decide (x∈known))=((told.map fun x=>decide (x∈known)).all id):=by rw[List.all_map];rfl
 rw[e3];exact dQ (af (cX (rs:=[(.loc,.tup (told.map .str))]) (af hs aj) trivial (by show some _=_;rw[e]) hx) aj) trivial (wY _)
end
theorem mE{ks:List Str}{us:List U}{x:Str}{u:U}(h:ks.length<1000)(hx:x∉ks):du (.str x) u (.dic ks us)=some (.dic (ks++[x]) (us++[u])):=by
 rw[wR h];unfold dput;rw[if_neg hx]
theorem jS{us:List U}(h:eqD 50 (.lst us)=true):bz .ne (.lst us) (.lst [])=some (!us.isEmpty):=by
 simp only[bz];rw[if_pos ⟨h,by simp[eqD,bI]⟩];cases us with
 |nil=>simp[aW,bx]
 |cons u us=>simp[aW,bx]
theorem k9{α:Type}(f:α->Int):∀(l:List α) (n:Nat),bI n (l.map fun a=>U.int (f a))=true
 |[],n=>by simp[bI]
 |a::l,n=>by rw[List.map_cons,bI,k9 f l n];simp[eqD]
theorem nY:∀(ss:List (Str×Nat)) (n:Nat),bI (n+1) (ss.map stN)=true
 |[],n=>by simp[bI]
 |s::ss,n=>by rw[List.map_cons,bI,nY ss n];simp[stN,eqD,bI]
theorem pI{α:Type}{st:ag}{cond:M Bool}{elt:M (Kd×U)}{src:List (Kd×U)}(h:ba src st)(a b g:α->U)(p:α->Bool):∀(ys:List α) (acc:List U),acc.length+ys.length<=sizeLine ->
  (∀y∈ys,Run cond (some (.loc,a y)::some (.loc,b y)::st) (p y) (some (.loc,a y)::some (.loc,b y)::st)/\Run elt (some (.loc,a y)::some (.loc,b y)::st) (.loc,g y) (some (.loc,a y)::some (.loc,b y)::st)) ->
  Run (bg 2 true cond elt src (ys.map fun y=>(Kd.loc,U.tup [a y,b y])) acc) st (acc++(ys.filter p).map g) st
 |[],acc,_,_=>by rw[List.map_nil,List.filter_nil,List.map_nil,List.append_nil];exact nJ h
 |y::ys,acc,hl,hx=>by
  obtain⟨h1,h2⟩:=hx y (by simp);rw[List.length_cons]at hl;have ht:Run (cC true (List.range 2) (.loc,.tup [a y,b y])) (List.replicate 2 none++st) () (some (.loc,a y)::some (.loc,b y)::st):=nW (.inl rfl);cases hp:p y with
  |true =>
   rw[hp]at h1;refine jL (s1:=some (.loc,a y)::some (.loc,b y)::st) (s2:=some (.loc,a y)::some (.loc,b y)::st) (s3:=some (.loc,a y)::some (.loc,b y)::st) (s4:=some (.loc,a y)::some (.loc,b y)::st) h ht h1 h2 aX (by omega) ?_;have:=pI h a b g p ys (acc++[g y]) (by simp;omega) fun z hz=>hx z (by simp[hz]);rw[List.filter_cons,if_pos hp,List.map_cons];simpa using this
  |false =>
   rw[hp]at h1;refine pB (s1:=some (.loc,a y)::some (.loc,b y)::st) (s2:=some (.loc,a y)::some (.loc,b y)::st) h ht h1 ?_;have:=pI h a b g p ys acc (by omega) fun z hz=>hx z (by simp[hz]);rw[List.filter_cons,if_neg (by simp[hp])];exact this
theorem set_range{α:Type}(n:Nat)(f:Nat->α)(t:Nat)(v:α):((List.range n).map f).set t v=(List.range n).map fun p=>if p=t then v else f p:=by
 apply List.ext_getElem
 ·simp
 ·intro i h1 h2;simp only[List.getElem_set,List.getElem_map,List.getElem_range];by_cases e:t=i
  ·subst e;simp
  ·rw[if_neg e,if_neg (Ne.symm e)]
theorem mF{rows:List Row}{t:Nat}{r:Row}(h:rows[t]?=some r):atI (rows.map rwU) (t:Int)=some (rwU r):=cq (by simp[h])
end TM
namespace K
open PySem L2 TM
noncomputable def top(i:Nat):Stmt:=PySem.Challenge.pw_primer_k64_trimmed.main.body.getD i (.Pass ⟨0,0,0,0⟩)
noncomputable def dW:Fn:=⟨"gathered",1,4,[.newD 1,.for_ true [2,3] .seq [.var 0] [.ite (.inD true (.var 2) 1) [.putD 1 (.var 2) (.lst [])] [],.appD 1 (.var 2) (.var 3)],.ret (.pub 1)]⟩
noncomputable def bw:Fn:=⟨"places_that_tell",1,4,[.set 1 (.lst []),.for_ true [2,3] .enm [.var 0] [.ext 1 (.comp 1 false .seq [.idx (.var 3) (.cst (.int 1))] [] (.tup [.var 0,.var 3]))],.ret (.call "gathered" [.var 1])]⟩
noncomputable def c_:Fn:=⟨"new_steps",3,6,[.set 3 (.dnew false),.for_ false [4] .seq [.var 1] [.set 5 (.idx (.idx (.var 0) (.var 4)) (.cst (.int 0))),.ite (.and [.cmp .notin (.var 5) (.var 2),.cmp .notin (.var 5) (.var 3)]) [.put 3 (.var 5) (.var 4)] []],.ret (.sit 3)]⟩
noncomputable def bG:Fn:=⟨"steps_in_rounds",1,10,[.set 1 (.call "places_that_tell" [.var 0]),.set 2 (.comp 1 false .seq [.var 0] [] (.bi .len [.idx (.var 0) (.cst (.int 1))])),.set 3 (.dnew false),.set 4 (.lst []),.set 5 (.comp 2 true .enm [.var 2] [.cmp .eq (.var 1) (.cst (.int 0))] (.var 0)),.whl (.cmp .ne (.var 5) (.lst [])) [.set 6 (.call "new_steps" [.var 0,.var 5,.var 3]),.set 5 (.lst []),.for_ true [7,8] .seq [.var 6] [.put 3 (.var 7) (.cst (.bl true)),.for_ false [9] .seq [.get2 1 (.var 7) (.lst [])] [.aug true 2 (.var 9) (.cst (.int 1)),.ite (.cmp .eq (.idx (.var 2) (.var 9)) (.cst (.int 0))) [.app 5 (.var 9)] []]],.ite (.cmp .ne (.var 6) (.lst [])) [.app 4 (.var 6)] []],.ret (.var 4)]⟩
noncomputable def gy:Fn:=⟨"order",1,3,[.set 1 (.lst []),.for_ false [2] .seq [.call "steps_in_rounds" [.var 0]] [.ext 1 (.var 2)],.ret (.var 1)]⟩
noncomputable def e_:Fn:=⟨"trimmed",1,2,[.set 1 (.bi .sorted [.comp 1 false .seq [.call "order" [.var 0]] [] (.idx (.var 0) (.cst (.int 1)))]),.ret (.bi .tuple [.comp 1 false .seq [.var 1] [] (.idx (.var 1) (.var 0))])]⟩
noncomputable def k_:Fn:=TM.rS
noncomputable def jT:Fn:=TM.qI
noncomputable def ij:Fn:=TM.mr
noncomputable def jU:Fn:=⟨"_law_name",2,6,[.set 2 (.cst (.str "abcdefghijklmnopqrstuvwxyz")),.set 3 (.mth .join (.cst (.str "")) [.comp 1 false .rng1 [.bin .add (.cst (.int 1)) (.bin .mod (.idx (.var 0) (.cst (.int 0))) (.cst (.int 8)))] [] (.idx (.var 3) (.bin .mod (.idx (.var 1) (.bin .add (.cst (.int 4)) (.var 0))) (.cst (.int 26))))]),.ite (.cmp .gt (.bi .len [.var 1]) (.cst (.int 0))) [.set 4 (.idx (.mth .split (.idx (.var 1) (.bin .mod (.idx (.var 0) (.cst (.int 1))) (.bi .len [.var 1]))) [.cst (.str "/")]) (.cst (.int 0))),.ite (.cmp .eq (.bin .mod (.idx (.var 0) (.cst (.int 2))) (.cst (.int 4))) (.cst (.int 1))) [.set 3 (.slc (.bin .add (.var 4) (.var 3)) [] [.cst (.int 8)])] [],.ite (.cmp .eq (.bin .mod (.idx (.var 0) (.cst (.int 2))) (.cst (.int 4))) (.cst (.int 2))) [.set 3 (.bin .add (.bin .add (.var 4) (.cst (.str "/"))) (.bi .str [.bin .add (.cst (.int 2)) (.bin .mod (.idx (.var 0) (.cst (.int 3))) (.cst (.int 98)))]))] []] [],.set 5 (.bin .add (.lst [.var 3]) (.comp 1 false .rng1 [.cst (.int 40)] [] (.bin .add (.idx (.var 3) (.bin .fdv (.var 0) (.cst (.int 26)))) (.idx (.var 3) (.bin .mod (.var 0) (.cst (.int 26))))))),.ret (.idx (.comp 1 false .seq [.var 5] [.cmp .notin (.var 0) (.var 2)] (.var 0)) (.cst (.int 0)))]⟩
noncomputable def il:Fn:=TM.fNames
noncomputable def jV:Fn:=TM.ie
noncomputable def cJ:Fn:=⟨"_law_stands",2,2,[.ret (.cmp .ne (.comp 1 false .seq [.var 0] [.and [.cmp .eq (.idx (.var 0) (.cst (.int 0))) (.idx (.var 2) (.cst (.int 0))),.cmp .eq (.bi .sorted [.idx (.var 0) (.cst (.int 1))]) (.bi .sorted [.idx (.var 2) (.cst (.int 1))])]] (.var 0)) (.lst []))]⟩
noncomputable def dX:Fn:=⟨"_law_made",3,10,[.set 3 (.lst []),.for_ false [4] .rng1 [.bin .mod (.idx (.var 1) (.cst (.int 1))) (.cst (.int 31))] [.set 5 (.call "_law_drawn" [.call "_law_cell" [.var 0,.bin .add (.cst (.int 20)) (.var 4)],.cst (.int 12)]),.set 6 (.tup [.idx (.var 2) (.bin .mod (.idx (.var 5) (.cst (.int 0))) (.bi .len [.var 2])),.call "_law_told" [.var 5,.var 2]]),.ite (.not (.call "_law_stands" [.var 3,.var 6])) [.app 3 (.var 6)] []],.ite (.cmp .eq (.bin .mod (.idx (.var 1) (.cst (.int 2))) (.cst (.int 2))) (.cst (.int 1))) [.for_ false [4] .rng1 [.bin .mod (.bin .fdv (.idx (.var 1) (.cst (.int 2))) (.cst (.int 2))) (.cst (.int 7))] [.set 6 (.tup [.idx (.var 2) (.bin .mod (.idx (.var 1) (.bin .add (.cst (.int 3)) (.var 4))) (.bi .len [.var 2])),.tup []]),.set 7 (.bin .mod (.idx (.var 1) (.bin .add (.cst (.int 3)) (.var 4))) (.bin .add (.bi .len [.var 3]) (.cst (.int 1)))),.ite (.not (.call "_law_stands" [.var 3,.var 6])) [.set 3 (.bin .add (.bin .add (.slc (.var 3) [] [.var 7]) (.lst [.var 6])) (.slc (.var 3) [.var 7] []))] []]] [],.ite (.cmp .eq (.bin .mod (.idx (.var 1) (.cst (.int 9))) (.cst (.int 6))) (.cst (.int 1))) [.set 3 (.slc (.var 3) [] [.cst (.int 20)]),.set 8 (.idx (.lst [.cst (.int 40),.cst (.int 24)]) (.bin .mod (.idx (.var 1) (.cst (.int 7))) (.cst (.int 2)))),.for_ false [4] .rng1 [.var 8] [.set 9 (.idx (.lst [.idx (.var 2) (.bin .mod (.var 4) (.bi .len [.var 2])),.bin .add (.cst (.str "wide/")) (.bi .str [.bin .add (.cst (.int 2)) (.bin .mod (.bin .add (.bin .mul (.cst (.int 7)) (.var 4)) (.idx (.var 1) (.cst (.int 8)))) (.cst (.int 40)))])]) (.bin .mod (.var 4) (.cst (.int 2)))),.ite (.cmp .eq (.var 8) (.cst (.int 24))) [.set 9 (.bin .add (.cst (.str "wide/")) (.bi .str [.bin .add (.cst (.int 2)) (.bin .mod (.bin .add (.var 4) (.cst (.int 1))) (.cst (.int 24)))]))] [],.set 6 (.tup [.bin .add (.cst (.str "wide/")) (.bi .str [.bin .add (.cst (.int 2)) (.var 4)]),.tup [.var 9]]),.ite (.not (.call "_law_stands" [.var 3,.var 6])) [.app 3 (.var 6)] []],.for_ false [4] .rng1 [.bin .mod (.bin .fdv (.idx (.var 1) (.cst (.int 8))) (.cst (.int 2))) (.bin .add (.var 8) (.cst (.int 1)))] [.ite (.not (.call "_law_stands" [.var 3,.tup [.bin .add (.cst (.str "wide/")) (.bi .str [.bin .sub (.bin .add (.var 8) (.cst (.int 1))) (.var 4)]),.tup []]])) [.app 3 (.tup [.bin .add (.cst (.str "wide/")) (.bi .str [.bin .sub (.bin .add (.var 8) (.cst (.int 1))) (.var 4)]),.tup []])] []]] [],.ret (.bi .tuple [.var 3])]⟩
noncomputable def cM:Fn:=⟨"_law_learnt",1,5,[.set 1 (.dnew false),.set 2 (.cst (.bl true)),.whl (.var 2) [.set 2 (.cst (.bl false)),.for_ true [3,4] .seq [.var 0] [.ite (.and [.cmp .notin (.var 3) (.var 1),.bi .all [.comp 1 false .seq [.var 4] [] (.cmp .isin (.var 0) (.var 2))]]) [.put 1 (.var 3) (.cst (.bl true)),.set 2 (.cst (.bl true))] []]],.ret (.bi .sorted [.var 1])]⟩
noncomputable def cN:Fn:=⟨"_law_within",2,4,[.set 2 (.cst (.int 0)),.for_ false [3] .seq [.var 1] [.ite (.and [.cmp .lt (.var 2) (.bi .len [.var 0]),.cmp .eq (.idx (.var 0) (.var 2)) (.var 3)]) [.set 2 (.bin .add (.var 2) (.cst (.int 1)))] []],.ret (.cmp .eq (.var 2) (.bi .len [.var 0]))]⟩
noncomputable def cO:Fn:=⟨"_law_tuples",1,2,[.ite (.not (.isi (.var 0) .tuple)) [.ret (.cst (.bl false))] [],.for_ false [1] .seq [.var 0] [.ite (.or [.not (.isi (.var 1) .tuple),.not (.isi (.idx (.var 1) (.cst (.int 1))) .tuple)]) [.ret (.cst (.bl false))] []],.ret (.cst (.bl true))]⟩
noncomputable def qM:Fn:=⟨"law",1,6,[.set 1 (.call "_law_drawn" [.call "_law_cell" [.var 0,.cst (.int 0)],.cst (.int 10)]),.set 2 (.call "_law_made" [.var 0,.var 1,.call "_law_names" [.var 0,.cst (.int 1),.bin .add (.cst (.int 1)) (.bin .mod (.idx (.var 1) (.cst (.int 0))) (.cst (.int 14)))]]),.set 3 (.call "trimmed" [.var 2]),.set 4 (.call "_law_learnt" [.var 2]),.ite (.or [.not (.call "_law_tuples" [.var 3]),.not (.call "_law_within" [.var 3,.var 2]),.cmp .ne (.call "_law_learnt" [.var 3]) (.var 4)]) [.ret (.cst (.bl false))] [],.for_ false [5] .rng1 [.bi .len [.var 3]] [.ite (.cmp .eq (.call "_law_learnt" [.bin .add (.slc (.var 3) [] [.var 5]) (.slc (.var 3) [.bin .add (.var 5) (.cst (.int 1))] [])]) (.var 4)) [.ret (.cst (.bl false))] []],.ite (.or [.cmp .ne (.bi .sorted [.comp 1 false .seq [.var 3] [] (.idx (.var 0) (.cst (.int 0)))]) (.var 4),.cmp .ne (.call "trimmed" [.tup []]) (.tup [])]) [.ret (.cst (.bl false))] [],.ret (.cmp .eq (.call "trimmed" [.var 3]) (.var 3))]⟩
noncomputable def prog:List Fn:=[dW,bw,c_,bG,gy,e_,k_,jT,ij,jU,il,jV,cJ,dX,cM,cN,cO,qM]
noncomputable def ck:Ck:=⟨prog.map (·.name),[]⟩
end K
namespace K
open PySem L2 TM W01 Od
noncomputable def bS(f:Str->List Nat)(k:Str):U:=.lst ((f k).map fun t:Nat=>U.int (t:Nat))
theorem gR(d:List (Str×Nat))(y:Str×Nat)(k:Str):ay (d++[y]) k=if y.1=k then ay d k++[y.2] else ay d k:=by
 rw[nV];by_cases e:y.1=k
 ·rw[if_pos e];simp[ay,e]
 ·rw[if_neg e];simp[ay,e]
theorem uM(d:List (Str×Nat))(k:Str):(ay d k).length<=d.length:=by
 unfold ay;rw[List.length_map];exact List.length_filter_le _ _
section
variable{Γ:Tab}{rows:List Row}
theorem mG{ps:List (Str×Nat)}(hl:ps.length<=1000):∃ks:List Str,(∀w,w∉ks->ay ps w=[])/\bW Γ dW [.lst (ps.map stN)]=some (.ok (.own,.dic ks (ks.map (bS (ay ps))))):=by
 have hsz:(2000:Nat)<=sizeLine:=by decide
 have hst:TM.start [.lst (ps.map stN)] 4=[some (.any,.lst (ps.map stN)),none,none,none]:=rfl;let S:=fun(ks:List Str) (us:List U) (o2 o3:Option (Kd×U))=>([some (.any,.lst (ps.map stN)),some (.ownD,.dic ks us),o2,o3]:ag)
 let body:List TM.S:=[.ite (.inD true (.var 2) 1)
    [.putD 1 (.var 2) (.lst [])]
    [],
   .appD 1 (.var 2) (.var 3)]
 obtain⟨st',hrun,hdr,ks,o2,o3,e,hn,hk,hkl⟩:=bZ (t:=true) (is:=[2,3]) (body:=execs Γ body) (rs:=[(.any,.lst (ps.map stN))]) (fun p:Str×Nat=>(Kd.any,stN p))
  (fun d r st=>d++r=ps/\∃(ks:List Str) (o2 o3:Option (Kd×U)),st=S ks (ks.map (bS (ay d))) o2 o3/\ks.Nodup/\(∀w,w∉ks->ay d w=[])/\ks.length<=d.length) (fun _ _ _ _=>trivial) (fun d y r st hIx=>by
   obtain⟨hdr,ks,o2,o3,e,hn,hk,hkl⟩:=hIx;subst e;have hdl:d.length<1000:=by have:=congrArg List.length hdr;simp at this;omega
   let i2:Option (Kd×U):=some (.any,.str y.1);let i3:Option (Kd×U):=some (.any,.int (y.2:Nat));have htl:=uM d y.1;have app:∀(ks:List Str),ks.Nodup->y.1∈ks->Run (execs Γ [.appD 1 (.var 2) (.var 3)]) (S ks (ks.map (bS (ay d))) i2 i3) .nx (S ks (ks.map (bS (ay (d++[y])))) i2 i3):=fun ks hn hy=>by
    have hg:cU ks (ks.map (bS (ay d))) y.1=some (.lst ((ay d y.1).map fun t:Nat=>U.int (t:Nat))):=by rw[jR,if_pos hy];rfl
    have hs:iD ks (ks.map (bS (ay d))) y.1 (.lst ((ay d y.1).map (fun t:Nat=>U.int (t:Nat))++[.int (y.2:Nat)]))=ks.map (bS (ay (d++[y]))):=by
     rw[nX _ _ _ _ hn];refine List.map_congr_left fun k hk=>?_;unfold bS;rw[gR];by_cases e:y.1=k
     ·subst e;rw[if_pos rfl,if_pos rfl];simp
     ·rw[if_neg e,if_neg (Ne.symm e)]
    rw[<-hs];exact zr (k:=.any) (r:=(.any,.int (y.2:Nat))) rfl (aL rfl) hy (aL rfl) (jJ rfl) hg (by rw[List.length_map];omega) aG
   have tc:Run (tst Γ (.inD true (.var 2) 1)) (S ks (ks.map (bS (ay d))) i2 i3) (!decide (y.1∈ks)) (S ks (ks.map (bS (ay d))) i2 i3):=AU (neg:=true) (k:=.any) (aL rfl) rfl;have htg:Run (cC true [2,3] (.any,stN y)) (S ks (ks.map (bS (ay d))) o2 o3) () (S ks (ks.map (bS (ay d))) i2 i3):=nW (.inr rfl);by_cases hy:y.1∈ks
   ·rw[decide_eq_true hy]at tc;refine⟨_,_,htg,bY tc (fun h=>by cases h) fun _=>app ks hn hy,by rw[<-hdr];simp,ks,_,_,rfl,hn,fun w hw=>?_,by simp;omega⟩;have hyw:y.1≠w:=fun z=>hw (by rw[<-z];exact hy);rw[gR,if_neg hyw];exact hk w hw
   ·rw[decide_eq_false hy]at tc;have hn':(ks++[y.1]).Nodup:=by
     rw[List.nodup_append];refine⟨hn,by simp,fun a ha b hb e=>?_⟩;have:b=y.1:=by simpa using hb
     subst this;exact hy (e▸ha)
    have em:ks.map (bS (ay d))++[.lst []]=(ks++[y.1]).map (bS (ay d)):=by
     rw[List.map_append];congr 1
     show _=[bS (ay d) y.1]
     unfold bS;rw[hk y.1 hy];rfl
    have happ:=app (ks++[y.1]) hn' (by simp);rw[<-em]at happ;refine⟨_,_,htg,bY tc (fun _=>zq (k:=.any) (xs:=[]) (cc aj trivial aJ (Nat.zero_le _)) rfl (aL rfl) hy (by omega) happ) fun h=>(by cases h),by rw[<-hdr];simp,ks++[y.1],_,_,rfl,hn',fun w hw=>?_,by simp;omega⟩;have hw':w∉ks/\w≠y.1:=by simpa using hw
    rw[gR,if_neg (Ne.symm hw'.2)];exact hk w hw'.1) ps [] (S [] [] none none) ⟨rfl,[],none,none,rfl,.nil,fun _ _=>rfl,Nat.le_refl _⟩
 subst e;rw[List.nil_append]at *;refine⟨ks,hk,?_⟩;have e:(ps.map stN).map (fun u=>(kE .any,u))=ps.map fun p=>(Kd.any,stN p):=by rw[List.map_map];rfl
 exact aP rfl (.inl rfl) hst (zp (cf (rs:=[(.any,.lst (ps.map stN))]) (st1:=S [] [] none none) (af (aL rfl) aj) trivial rfl rfl (by rw[e];exact hrun) (cW (AV rfl) (nI rfl))))
noncomputable def xB(Γ:Tab):Prop:=∀ps:List (Str×Nat),ps.length<=1000->∃ks:List Str,(∀w,w∉ks->ay ps w=[])/\Γ "gathered" [.lst (ps.map stN)]=some (.ok (.own,.dic ks (ks.map (bS (ay ps)))))
theorem pJ(hg:xB Γ)(hO:Once rows)(h8:∀r∈rows,r.2.length<=8)(hr:rows.length<=100):
  ∃ks:List Str,(∀w,w∉ks->tel rows rows.length w=[])/\bW Γ bw [.tup (rows.map rwU)]=some (.ok (.own,.dic ks (ks.map (bS (tel rows rows.length))))):=by
 have hsz:(2000:Nat)<=sizeLine:=by decide
 have hst:TM.start [.tup (rows.map rwU)] 4=[some (.loc,.tup (rows.map rwU)),none,none,none]:=by simp[TM.start,imm,bO]
 let S:=fun(ps:List (Str×Nat)) (o2 o3:Option (Kd×U))=>([some (.loc,.tup (rows.map rwU)),some (.own,.lst (ps.map stN)),o2,o3]:ag)
 let body:List TM.S:=[.ext 1 (.comp 1 false .seq [.idx (.var 3) (.cst (.int 1))] [] (.tup [.var 0,.var 3]))]
 obtain⟨st',hrun,hdr,ps,o2,o3,e,hp,hpl⟩:=bZ (t:=true) (is:=[2,3]) (body:=execs Γ body) (rs:=[(.loc,.tup (rows.map rwU))]) (fun p:Row×Nat=>(Kd.loc,U.tup [.int (p.2:Nat),rwU p.1]))
  (fun d r st=>d++r=rows.zipIdx/\∃(ps:List (Str×Nat)) (o2 o3:Option (Kd×U)),st=S ps o2 o3/\(∀w,ay ps w=tel rows d.length w)/\ps.length<=8 * d.length) (fun _ _ _ _=>trivial) (fun d y r st hIx=>by
   obtain⟨hdr,ps,o2,o3,e,hp,hpl⟩:=hIx;subst e;obtain⟨row,i⟩:=y;have hy:(rows.zipIdx)[d.length]?=some (row,i):=by rw[<-hdr];simp
   rw[List.getElem?_zipIdx,Option.map_eq_some_iff]at hy;obtain⟨row',hrow,e⟩:=hy;have e1:row'=row:=congrArg Prod.fst e;have e2:0+d.length=i:=congrArg Prod.snd e;rw[Nat.zero_add]at e2;subst e1 e2;have hdl:d.length<100:=by have:=congrArg List.length hdr;simp at this;omega
   have h8':=h8 row' (List.mem_of_getElem? hrow);let i2:Option (Kd×U):=some (.loc,.int (d.length:Nat));let i3:Option (Kd×U):=some (.loc,rwU row');have hx:=fF (cond:=aS Γ []) (elt:=ev Γ (.tup [.var 0,.var 3])) (src:=[(.loc,.tup (row'.2.map .str))]) (st:=S ps i2 i3) trivial .loc (.inl rfl) U.str (fun x=>stN (x,d.length)) .loc (fun _=>ic) row'.2 [] (by simp;omega)
    (fun y _=>⟨eN (af (ae rfl) (af (ae rfl) aj)) trivial (aM aX (aM aX aJ)) (by show 2<=sizeLine;omega),aX⟩)
   rw[List.nil_append]at hx;have e:(row'.2.map U.str).map (fun u=>(kE .loc,u))=row'.2.map fun r=>(Kd.loc,U.str r):=by rw[List.map_map];rfl
   have hc:Run (ev Γ (.comp 1 false .seq [.idx (.var 3) (.cst (.int 1))] [] (.tup [.var 0,.var 3]))) (S ps i2 i3) (.own,.lst (row'.2.map fun x=>stN (x,d.length))) (S ps i2 i3) :=
    cX (rs:=[(.loc,.tup (row'.2.map .str))]) (af (aZ (x:=(.loc,rwU row')) (ae rfl) aq trivial rfl) aj) trivial (by show some _=_;rw[e]) hx
   have em:ps.map stN++(row'.2.map fun x=>stN (x,d.length))=(ps++row'.2.map fun x=>(x,d.length)).map stN:=by simp
   refine⟨S ps i2 i3,S (ps++row'.2.map fun x=>(x,d.length)) i2 i3,nW (.inl rfl),?_,by rw[<-hdr];simp,_,_,_,rfl,fun w=>?_,by simp;omega⟩
   ·show Run _ _ _ [some (.loc,.tup (rows.map rwU)),some (.own,.lst ((ps++row'.2.map fun x=>(x,d.length)).map stN)),i2,i3];rw[<-em];exact xx (k:=.own) (k':=.own) rfl hc rfl rfl (qK (by rw[List.length_map,List.length_map];omega) rfl) aG
   ·rw[List.length_append];exact r9 hO hrow hp w) rows.zipIdx [] (S [] none none) ⟨rfl,[],none,none,rfl,fun w=>by simp[ay,tel],by simp⟩
 subst e;rw[List.nil_append,List.length_zipIdx]at hp hpl;have hit:itU .enm [(.loc,.tup (rows.map rwU))]=some (rows.zipIdx.map fun p:Row×Nat=>(Kd.loc,U.tup [.int (p.2:Nat),rwU p.1])):=by
  show some ((rows.map rwU).zipIdx.map fun p=>(kE .loc,U.tup [.int p.2,p.1]))=_;rw[List.zipIdx_map,List.map_map];rfl
 obtain⟨ks,k1,k2⟩:=hg ps (by omega);have ef:ay ps=tel rows rows.length:=funext hp;rw[ef]at k1 k2;refine⟨ks,k1,?_⟩;exact aP rfl (.inl rfl) hst (ax (r:=(.own,.lst [])) (cc aj trivial aJ (Nat.zero_le _)) bM (cf (rs:=[(.loc,.tup (rows.map rwU))]) (st1:=S [] none none) (af (ae rfl) aj) trivial hit rfl hrun
  (cW (bL (af (aI rfl) aj) ⟨⟨.own,rfl,rfl⟩,trivial⟩ k2) nG)))
theorem kf{names:List Str}(hnm:∀r∈rows,r.1∈names)(hnl:names.length<64){R:List Nat}(hR:∀t∈R,t<rows.length){K0:List Str}{vs:List U}:
  ∃st:List (Str×Nat),NS rows K0 R st/\bW Γ c_ [.tup (rows.map rwU),.lst (R.map fun t:Nat=>.int (t:Nat)),.dic K0 vs]=some (.ok (.own,.lst (st.map stN))):=by
 have hsz:(2000:Nat)<=sizeLine:=by decide
 have hst:TM.start [.tup (rows.map rwU),.lst (R.map fun t:Nat=>.int (t:Nat)),.dic K0 vs] 6=[some (.loc,.tup (rows.map rwU)),some (.any,.lst (R.map fun t:Nat=>.int (t:Nat))),some (.any,.dic K0 vs),none,none,none]:=by simp[TM.start,imm,bO]
 let S:=fun(ps:List (Str×Nat)) (o4 o5:Option (Kd×U))=>([some (.loc,.tup (rows.map rwU)),some (.any,.lst (R.map fun t:Nat=>.int (t:Nat))),some (.any,.dic K0 vs),some (.own,.dic (ps.map (·.1)) (ps.map fun p=>.int (p.2:Nat))),o4,o5]:ag)
 let body:List TM.S:=[.set 5 (.idx (.idx (.var 0) (.var 4)) (.cst (.int 0))),
   .ite (.and [.cmp .notin (.var 5) (.var 2),.cmp .notin (.var 5) (.var 3)])
    [.put 3 (.var 5) (.var 4)]
    []]
 have few:∀{d:List Nat} {ps:List (Str×Nat)},NS rows K0 d ps->ps.length<=names.length:=fun {d ps} x=>by
  have:=jQ x.once (L:=names) fun w hw=>by
   obtain⟨s,hs,rfl⟩:=List.mem_map.mp hw;obtain⟨_,_,r,h1,h2⟩:=x.ok s hs;rw[<-h2];exact hnm r (List.mem_of_getElem? h1)
  simpa using this
 obtain⟨st',hrun,hdr,ps,o4,o5,e,x⟩:=bZ (t:=false) (is:=[4]) (body:=execs Γ body) (rs:=[(.any,.lst (R.map fun t:Nat=>.int (t:Nat)))]) (fun t:Nat=>(Kd.any,U.int (t:Nat)))
  (fun d r st=>d++r=R/\∃(ps:List (Str×Nat)) (o4 o5:Option (Kd×U)),st=S ps o4 o5/\NS rows K0 d ps) (fun _ _ _ _=>trivial) (fun d t r st hIx=>by
   obtain⟨hdr,ps,o4,o5,e,x⟩:=hIx;subst e;have ht:t<rows.length:=hR t (by rw[<-hdr];simp);have hrow:rows[t]?=some rows[t]:=by simp[ht]
   generalize rows[t]=row at hrow;let i4:Option (Kd×U):=some (.any,.int (t:Nat));let i5:Option (Kd×U):=some (.loc,.str row.1);have hfew:=few x;have tc:Run (tst Γ (.and [.cmp .notin (.var 5) (.var 2),.cmp .notin (.var 5) (.var 3)])) (S ps i4 i5) (!decide (row.1∈K0)&&!decide (row.1∈ps.map (·.1))) (S ps i4 i5) :=
    ib (pE (b9 (ae rfl) (aL rfl) trivial gO) fun _=>dR (b9 (ae rfl) (aI rfl) ⟨⟨.own,rfl,rfl⟩,trivial⟩ gO))
   have pre:∀{st'':ag},Run (execs Γ [.ite (.and [.cmp .notin (.var 5) (.var 2),.cmp .notin (.var 5) (.var 3)])
    [.put 3 (.var 5) (.var 4)]
    []]) (S ps i4 i5) .nx st''->Run (execs Γ body) (S ps i4 o5) .nx st'':=fun h =>
    ax (r:=(.loc,.str row.1)) (aZ (x:=(.loc,rwU row)) (aZ (ae rfl) (aL rfl) trivial (i_ (mF hrow))) aq trivial rfl) aC h
   have htg:Run (cC false [4] (.any,.int (t:Nat))) (S ps o4 o5) () (S ps i4 o5):=bR jK;by_cases h1:row.1∈K0
   ·rw[decide_eq_true h1]at tc;exact⟨_,_,htg,pre (bY tc (fun h=>by cases h) fun _=>aG),by rw[<-hdr];simp,ps,_,_,rfl,x.skip hrow (.inl h1)⟩
   ·by_cases h2:row.1∈ps.map (·.1)
    ·rw[decide_eq_false h1,decide_eq_true h2]at tc;exact⟨_,_,htg,pre (bY tc (fun h=>by cases h) fun _=>aG),by rw[<-hdr];simp,ps,_,_,rfl,x.skip hrow (.inr h2)⟩
    ·rw[decide_eq_false h1,decide_eq_false h2]at tc;refine⟨_,S (ps++[(row.1,t)]) i4 i5,htg,pre (bY tc (fun _=>?_) fun h=>by cases h),by rw[<-hdr];simp,_,_,_,rfl,x.take hrow h1 h2⟩;have e1:(ps++[(row.1,t)]).map (·.1)=ps.map (·.1)++[row.1]:=by simp
     have e2:((ps++[(row.1,t)]).map fun p=>U.int (p.2:Nat))=(ps.map fun p=>U.int (p.2:Nat))++[.int (t:Nat)]:=by simp
     show Run _ _ _ [some (.loc,.tup (rows.map rwU)),some (.any,.lst (R.map fun t:Nat=>.int (t:Nat))),some (.any,.dic K0 vs),some (.own,.dic ((ps++[(row.1,t)]).map (·.1)) ((ps++[(row.1,t)]).map fun p=>.int (p.2:Nat))),i4,i5];rw[e1,e2];exact uI (k:=.own) (rv:=(.any,.int (t:Nat))) (rk:=(.loc,.str row.1)) (aL rfl) rfl (ae rfl) (aM (jJ rfl) (aM aX aJ)) rfl rfl (mE (by rw[List.length_map];omega) h2) aG) R [] (S [] none none) ⟨rfl,[],none,none,rfl,NS.start K0⟩
 subst e;rw[List.nil_append]at x;have hfew:=few x;obtain⟨qs,q1,q2⟩:=wX (ps:=ps) (by omega) x.once;refine⟨qs,x.perm q1,?_⟩;have e:(R.map fun t:Nat=>U.int (t:Nat)).map (fun u=>(kE .any,u))=R.map fun t=>(Kd.any,U.int (t:Nat)):=by rw[List.map_map];rfl
 exact aP rfl (.inl rfl) hst (ax (r:=(.own,.dic [] [])) pw bM (cf (rs:=[(.any,.lst (R.map fun t:Nat=>.int (t:Nat)))]) (st1:=S [] none none) (af (aL rfl) aj) trivial rfl rfl (by rw[e];exact hrun) (cW (AX rfl q2) nG)))
end
end K
namespace K
open PySem L2 TM W01 Od
noncomputable def mi(rows:List Row)(K0:List Str)(d:List Nat)(p:Nat):Int:=(cnt rows K0 p:Int) - (if p∈d then 1 else 0)
noncomputable def bf(rows:List Row)(f:Nat->Int):List U:=(List.range rows.length).map fun p=>U.int (f p)
noncomputable def dY(R:List Nat):List U:=R.map fun t:Nat=>U.int (t:Nat)
theorem wZ(rows:List Row)(K0:List Str):bf rows (mi rows K0 [])=bf rows fun p=>(cnt rows K0 p:Int):=by
 unfold bf mi;refine List.map_congr_left fun p _=>?_;simp
theorem w9{rows:List Row}(hO:Once rows){K0:List Str}{w:Str}(hw:w∉K0):bf rows (mi rows K0 (tel rows rows.length w))=bf rows fun p=>(cnt rows (K0++[w]) p:Int):=by
 unfold bf mi;refine List.map_congr_left fun p hp=>?_;have hpl:=List.mem_range.mp hp;have ha:=mC hO hw p;by_cases h:w∈told rows p
 ·rw[if_pos (gw.mpr ⟨hpl,h⟩)];rw[if_pos h]at ha;show U.int ((cnt rows K0 p:Int) - 1)=U.int (cnt rows (K0++[w]) p:Int);congr 1
  omega
 ·rw[if_neg fun z=>h (gw.mp z).2];rw[if_neg h]at ha;show U.int ((cnt rows K0 p:Int) - 0)=U.int (cnt rows (K0++[w]) p:Int);congr 1
  omega
theorem uN{rows:List Row}{K0:List Str}{d:List Nat}{t:Nat}(hd:t∉d):(bf rows (mi rows K0 d)).set t (.int (mi rows K0 d t - 1))=bf rows (mi rows K0 (d++[t])):=by
 unfold bf;rw[set_range];refine List.map_congr_left fun p _=>?_;unfold mi;by_cases e:p=t
 ·subst e;rw[if_pos rfl,if_neg hd,if_pos (by simp)];rw[show((cnt rows K0 p:Int) - 0 - 1)=(cnt rows K0 p:Int) - 1 by omega]
 ·rw[if_neg e];have:(p∈d++[t])↔p∈d:=by simp[e]
  simp only[this]
theorem uO{rows:List Row}{f:Nat->Int}{t:Nat}(h:t<rows.length):(bf rows f)[t]?=some (.int (f t)):=by simp[bf,h]
section
variable{Γ:Tab}{rows:List Row}
noncomputable def qN:List TM.S:=[.aug true 2 (.var 9) (.cst (.int 1)),.ite (.cmp .eq (.idx (.var 2) (.var 9)) (.cst (.int 0))) [.app 5 (.var 9)] []]
theorem nZ(hO:Once rows)(hr:rows.length<=100){K0:List Str}{w:Str}(hw:w∉K0){R:List Nat}(hRl:R.length<=10000){b0 b1 b3 b4 o6 o7 o8:Option (Kd×U)}(o9:Option (Kd×U)){src:List (Kd×U)}(hsrc:∀st,ba src st):∃o9':Option (Kd×U),
  Run (forM false [9] (execs Γ qN) src ((tel rows rows.length w).map fun t:Nat=>(Kd.loc,U.int (t:Nat))))
   [b0,b1,some (.own,.lst (bf rows fun p=>(cnt rows K0 p:Int))),b3,b4,some (.own,.lst (dY R)),o6,o7,o8,o9] .nx
   [b0,b1,some (.own,.lst (bf rows fun p=>(cnt rows (K0++[w]) p:Int))),b3,b4,some (.own,.lst (dY (R++(tel rows rows.length w).filter fun t=>decide (cnt rows K0 t=1)))),o6,o7,o8,o9']:=by
 have hsz:(20000:Nat)<=sizeLine:=by decide
 let S:=fun(ms:List U) (R:List Nat) (o9:Option (Kd×U))=>([b0,b1,some (.own,.lst ms),b3,b4,some (.own,.lst (dY R)),o6,o7,o8,o9]:ag)
 obtain⟨st',hrun,hdr,o9',e⟩:=bZ (t:=false) (is:=[9]) (body:=execs Γ qN) (rs:=src) (fun t:Nat=>(Kd.loc,U.int (t:Nat)))
  (fun d r st=>d++r=tel rows rows.length w/\∃o9:Option (Kd×U),st=S (bf rows (mi rows K0 d)) (R++d.filter fun t=>decide (cnt rows K0 t=1)) o9) (fun _ _ st _=>hsrc st) (fun d t r st hIx=>by
   obtain⟨hdr,o9,e⟩:=hIx;subst e;have hmem:t∈tel rows rows.length w:=by rw[<-hdr];simp
   have ht:t<rows.length:=(gw.mp hmem).1;have hnd:=r6 (rows:=rows) rows.length w;have htd:t∉d:=fun z=>by
    rw[<-hdr,List.nodup_append]at hnd;exact hnd.2.2 t z t (by simp) rfl
   have hdl:d.length<=100:=by
    have h1:=congrArg List.length hdr;have h2:(tel rows rows.length w).length<=(List.range rows.length).length:=List.length_filter_le _ _;simp at h1 h2;omega
   let i9:Option (Kd×U):=some (.loc,.int (t:Nat));let R1:=R++d.filter fun t=>decide (cnt rows K0 t=1);have hR1:R1.length<=10100:=by
    have:(d.filter fun t=>decide (cnt rows K0 t=1)).length<=d.length:=List.length_filter_le _ _;show(R++_).length<=_;rw[List.length_append];omega
   have hat:atI (bf rows (mi rows K0 (d++[t]))) (t:Int)=some (.int (mi rows K0 (d++[t]) t)):=cq (uO ht);have hv:mi rows K0 (d++[t]) t=(cnt rows K0 t:Int) - 1:=by unfold mi;rw[if_pos (by simp)]
   have tc:Run (tst Γ (.cmp .eq (.idx (.var 2) (.var 9)) (.cst (.int 0)))) (S (bf rows (mi rows K0 (d++[t]))) R1 i9) (decide (cnt rows K0 t=1)) (S (bf rows (mi rows K0 (d++[t]))) R1 i9) :=
    b9 (aZ (x:=(.bor 2,.lst (bf rows (mi rows K0 (d++[t]))))) (aI rfl) (ae rfl) ⟨⟨.own,rfl,rfl⟩,trivial⟩ (aD hat)) aq trivial (dh (by
     rw[hv,Bool.eq_iff_iff];simp;omega))
   have pre:∀{st'':ag},Run (execs Γ [.ite (.cmp .eq (.idx (.var 2) (.var 9)) (.cst (.int 0)))
      [.app 5 (.var 9)]
      []]) (S (bf rows (mi rows K0 (d++[t]))) R1 i9) .nx st''->Run (execs Γ qN) (S (bf rows (mi rows K0 d)) R1 i9) .nx st'':=fun h=>by
    refine AW (us:=bf rows (mi rows K0 d)) (k1:=.loc) (k2:=.loc) (j:=t) (w:=1) rfl (ae rfl) (uO ht) aq ?_;rw[uN htd];exact h
   have htg:Run (cC false [9] (.loc,.int (t:Nat))) (S (bf rows (mi rows K0 d)) R1 o9) () (S (bf rows (mi rows K0 d)) R1 i9):=bR aC;cases hc:decide (cnt rows K0 t=1) with
   |false =>
    rw[hc]at tc;refine⟨_,_,htg,pre (bY tc (fun h=>by cases h) fun _=>aG),by rw[<-hdr];simp,i9,?_⟩;rw[List.filter_append,List.filter_cons,hc];simp[S,R1]
   |true =>
    rw[hc]at tc;refine⟨_,S (bf rows (mi rows K0 (d++[t]))) (R1++[t]) i9,htg,pre (bY tc (fun _=>?_) fun h=>by cases h),by rw[<-hdr];simp,i9,?_⟩
    ·have em:dY (R1++[t])=dY R1++[.int (t:Nat)]:=by simp[dY]
     show Run _ _ _ [b0,b1,some (.own,.lst (bf rows (mi rows K0 (d++[t])))),b3,b4,some (.own,.lst (dY (R1++[t]))),o6,o7,o8,i9];rw[em];exact kZ (k:=.own) (k':=.own) (r:=(.loc,.int (t:Nat))) rfl (ae rfl) aX rfl rfl (by unfold dY;rw[List.length_map];omega) aG
    ·rw[List.filter_append,List.filter_cons,hc];simp[S,R1]) (tel rows rows.length w) [] (S (bf rows (mi rows K0 [])) R o9) ⟨rfl,o9,by simp⟩
 subst e;rw[List.nil_append]at hrun;rw[wZ,w9 hO hw]at hrun;exact⟨o9',hrun⟩
noncomputable def uP:List TM.S:=[.put 3 (.var 7) (.cst (.bl true)),.for_ false [9] .seq [.get2 1 (.var 7) (.lst [])] qN]
theorem sd(hO:Once rows)(hr:rows.length<=100){ks:List Str}(hks:∀w,w∉ks->tel rows rows.length w=[]){K0:List Str}{st:List (Str×Nat)}(hnd:(K0++st.map (·.1)).Nodup)(hl:K0.length+st.length<=100){b0 b4:Option (Kd×U)}(vs:List U)(o7 o8 o9:Option (Kd×U)):∃(vs':List U) (R:List Nat) (o7' o8' o9':Option (Kd×U)),
  RI rows K0 (K0++st.map (·.1)) R/\(st=[]->R=[])/\Run (forM true [7,8] (execs Γ uP) [(.bor 6,.lst (st.map stN))] (st.map fun s=>(Kd.loc,stN s)))
   [b0,some (.own,.dic ks (ks.map (bS (tel rows rows.length)))),some (.own,.lst (bf rows fun p=>(cnt rows K0 p:Int))),some (.own,.dic K0 vs),b4,some (.own,.lst []),some (.own,.lst (st.map stN)),o7,o8,o9] .nx
   [b0,some (.own,.dic ks (ks.map (bS (tel rows rows.length)))),some (.own,.lst (bf rows fun p=>(cnt rows (K0++st.map (·.1)) p:Int))),some (.own,.dic (K0++st.map (·.1)) vs'),b4,some (.own,.lst (dY R)),some (.own,.lst (st.map stN)),o7',o8',o9']:=by
 let S:=fun(K:List Str) (vs:List U) (R:List Nat) (o7 o8 o9:Option (Kd×U))=>([b0,some (.own,.dic ks (ks.map (bS (tel rows rows.length)))),some (.own,.lst (bf rows fun p=>(cnt rows K p:Int))),some (.own,.dic K vs),b4,some (.own,.lst (dY R)),some (.own,.lst (st.map stN)),o7,o8,o9]:ag)
 obtain⟨st',hrun,hdr,vs',R,o7',o8',o9',e,x,hRl,hR0⟩:=bZ (t:=true) (is:=[7,8]) (body:=execs Γ uP) (rs:=[(.bor 6,.lst (st.map stN))]) (fun s:Str×Nat=>(Kd.loc,stN s))
  (fun d r stt=>d++r=st/\∃(vs:List U) (R:List Nat) (o7 o8 o9:Option (Kd×U)),stt=S (K0++d.map (·.1)) vs R o7 o8 o9/\RI rows K0 (K0++d.map (·.1)) R/\R.length<=100 * d.length/\(d=[]->R=[])) (fun _ _ stt ⟨_,vs,R,o7,o8,o9,e,_⟩=>by subst e;exact⟨⟨.own,rfl,rfl⟩,trivial⟩) (fun d s r stt hIx=>by
   obtain⟨hdr,vs,R,o7,o8,o9,e,x,hRl,hR0⟩:=hIx;subst e;obtain⟨w,p⟩:=s;have hdl:d.length<st.length:=by have:=congrArg List.length hdr;simp at this;omega
   have hw:w∉K0++d.map (·.1):=fun z=>by
    rw[<-hdr,List.map_append,<-List.append_assoc,List.nodup_append]at hnd;exact hnd.2.2 w z w (by simp) rfl
   let i7:Option (Kd×U):=some (.loc,.str w);let i8:Option (Kd×U):=some (.loc,.int (p:Nat));obtain⟨o9',hin⟩:=nZ (Γ:=Γ) hO hr hw (R:=R) (by omega) (b0:=b0) (b1:=some (.own,.dic ks (ks.map (bS (tel rows rows.length))))) (b3:=some (.own,.dic (K0++d.map (·.1)++[w]) (vs++[.bl true]))) (b4:=b4) (o6:=some (.own,.lst (st.map stN))) (o7:=i7) (o8:=i8) o9 (src:=[(.loc,bS (tel rows rows.length) w)]) (fun _=>trivial);have em:K0++(d++[(w,p)]).map (·.1)=K0++d.map (·.1)++[w]:=by simp
   have hkl:(K0++d.map (·.1)).length<1000:=by rw[List.length_append,List.length_map];omega
   have hg:(match cU ks (ks.map (bS (tel rows rows.length))) w with|some v=>(Kd.loc,v)|none=>(.loc,U.lst []))=(.loc,bS (tel rows rows.length) w):=by
    rw[jR];by_cases h:w∈ks
    ·rw[if_pos h]
    ·rw[if_neg h];unfold bS;rw[hks w h];rfl
   have e2:((tel rows rows.length w).map fun t:Nat=>U.int (t:Nat)).map (fun u=>(kE .loc,u))=(tel rows rows.length w).map fun t=>(Kd.loc,U.int (t:Nat)):=by rw[List.map_map];rfl
   refine⟨S (K0++d.map (·.1)) vs R i7 i8 o9,S (K0++d.map (·.1)++[w]) (vs++[.bl true]) (R++(tel rows rows.length w).filter fun t=>decide (cnt rows (K0++d.map (·.1)) t=1)) i7 i8 o9',nW (.inl rfl),?_,by rw[<-hdr];simp,vs++[.bl true],_,i7,i8,o9',by rw[em],?_,?_,fun z=>by simp at z⟩
   ·refine uI (k:=.own) (rv:=(.loc,.bl true)) (rk:=(.loc,.str w)) aq rfl (ae rfl) (aM aX (aM aX aJ)) rfl rfl (mE hkl hw) ?_;exact cf (rs:=[(.loc,bS (tel rows rows.length) w)]) (af (zt (k:=.loc) (z:=(.own,.lst [])) (u:=.lst []) rfl (ae rfl) (cc aj trivial aJ (Nat.zero_le _)) uw hg) aj) trivial (by show some (List.map (fun u=>(kE .loc,u)) _)=_;rw[e2]) rfl hin aG
   ·rw[em];exact x.step hO hw
   ·have:((tel rows rows.length w).filter fun t=>decide (cnt rows (K0++d.map (·.1)) t=1)).length<=100:=by
     refine Nat.le_trans (List.length_filter_le _ _) ?_;have h2:(tel rows rows.length w).length<=(List.range rows.length).length:=List.length_filter_le _ _;simp at h2;omega
    rw[List.length_append,List.length_append,List.length_singleton];omega) st [] (S K0 vs [] o7 o8 o9) ⟨rfl,vs,[],o7,o8,o9,by simp[S],by simpa using RI.start K0,by simp,fun _=>rfl⟩
 subst e;exact⟨vs',R,o7',o8',o9',by simpa using x,fun z=>hR0 (by simpa using z),by simpa[S,dY] using hrun⟩
noncomputable def ff(fnd:List (List (Str×Nat))):List U:=fnd.map fun l=>U.lst (l.map stN)
noncomputable def uQ:List TM.S:=[.set 6 (.call "new_steps" [.var 0,.var 5,.var 3]),.set 5 (.lst []),.for_ true [7,8] .seq [.var 6] uP,.ite (.cmp .ne (.var 6) (.lst [])) [.app 4 (.var 6)] []]
noncomputable def uR(Γ:Tab)(rows:List Row):Prop:=∀(R:List Nat) (K0:List Str) (vs:List U),(∀t∈R,t<rows.length)->∃st:List (Str×Nat),NS rows K0 R st/\Γ "new_steps" [.tup (rows.map rwU),.lst (dY R),.dic K0 vs]=some (.ok (.own,.lst (st.map stN)))
theorem gS(hO:Once rows)(hr:rows.length<=100)(hN:uR Γ rows){ks:List Str}(hks:∀w,w∉ks->tel rows rows.length w=[]):∀(f:Nat) (sts:List (Str×Nat)) (fnd:List (List (Str×Nat))) (R:List Nat) (vs:List U) (o6 o7 o8 o9:Option (Kd×U)),
  LI rows sts R->fnd.flatten=sts->fnd.length<=sts.length->(rows.length - sts.length)+(if R=[] then 1 else 2)<=f ->
  ∃(sts':List (Str×Nat)) (fnd':List (List (Str×Nat))) (st':ag),LI rows sts' []/\fnd'.flatten=sts'/\fnd'.length<=100/\st'[4]?=some (some (.own,.lst (ff fnd'))) /\
   Run (fD (tst Γ (.cmp .ne (.var 5) (.lst []))) (execs Γ uQ) f) [some (.loc,.tup (rows.map rwU)),some (.own,.dic ks (ks.map (bS (tel rows rows.length)))),some (.own,.lst (bf rows fun p=>(cnt rows (sts.map (·.1)) p:Int))),some (.own,.dic (sts.map (·.1)) vs),some (.own,.lst (ff fnd)),some (.own,.lst (dY R)),o6,o7,o8,o9] .nx st'
 |0,sts,fnd,R,vs,o6,o7,o8,o9,_,_,_,h=>by split at h<;>omega
 |f+1,sts,fnd,R,vs,o6,o7,o8,o9,x,hf,hfl,h=>by
  have hsz:(20000:Nat)<=sizeLine:=by decide
  have few:∀{s:List (Str×Nat)} {R':List Nat},LI rows s R'->s.length<=rows.length:=fun {s R'} x=>by
   have h1:=eQ x.ok .nil;rw[List.nil_append]at h1;have:=jQ h1 (gx x.ok);simpa using this
  have hfew:=few x;let S:=fun(K:List Str) (vs:List U) (fnd:List (List (Str×Nat))) (R:List Nat) (o6 o7 o8 o9:Option (Kd×U))=>([some (.loc,.tup (rows.map rwU)),some (.own,.dic ks (ks.map (bS (tel rows rows.length)))),some (.own,.lst (bf rows fun p=>(cnt rows K p:Int))),some (.own,.dic K vs),some (.own,.lst (ff fnd)),some (.own,.lst (dY R)),o6,o7,o8,o9]:ag)
  have eqR:∀R:List Nat,eqD 50 (.lst (dY R))=true:=fun R=>by show bI 49 _=true;exact k9 (fun t:Nat=>((t:Nat):Int)) R 49
  have tc:Run (tst Γ (.cmp .ne (.var 5) (.lst []))) (S (sts.map (·.1)) vs fnd R o6 o7 o8 o9) (!(dY R).isEmpty) (S (sts.map (·.1)) vs fnd R o6 o7 o8 o9) :=
   b9 (aI rfl) (cc aj trivial aJ (Nat.zero_le _)) ⟨⟨.own,rfl,rfl⟩,trivial⟩ (jS (eqR R))
  by_cases hR:R=[]
  ·subst hR;exact⟨sts,fnd,_,x,hf,by omega,rfl,xy tc⟩
  ·rw[if_neg hR]at h;have htr:(!(dY R).isEmpty)=true:=by
    cases R with
    |nil=>exact absurd rfl hR
    |cons a l=>rfl
   rw[htr]at tc;obtain⟨st,n,hst⟩:=hN R (sts.map (·.1)) vs fun t ht=>(x.rdy t ht).1;have hnd:(sts.map (·.1)++st.map (·.1)).Nodup:=by
    have h1:=eQ x.ok .nil;rw[List.nil_append]at h1;rw[List.nodup_append];refine⟨h1,n.once,fun a ha b hb e=>?_⟩;obtain⟨s,hs,rfl⟩:=List.mem_map.mp hb;exact(n.ok s hs).2.1 (e▸ha)
   have hlen:sts.length+st.length<=rows.length:=by
    have:=jQ hnd (L:=rows.map (·.1)) fun y hy=>by
     rcases List.mem_append.mp hy with hy|hy
     ·exact gx x.ok y hy
     ·obtain⟨s,hs,rfl⟩:=List.mem_map.mp hy;obtain⟨_,_,r,q1,q2⟩:=n.ok s hs;exact List.mem_map.mpr ⟨r,List.mem_of_getElem? q1,q2⟩
    simpa using this
   let i6:Option (Kd×U):=some (.own,.lst (st.map stN));obtain⟨vs',R',o7',o8',o9',y,hy0,hmid⟩:=sd (Γ:=Γ) hO hr hks hnd (by rw[List.length_map];omega) (b0:=some (.loc,.tup (rows.map rwU))) (b4:=some (.own,.lst (ff fnd))) vs o7 o8 o9;have x':=x.step n y;have em:(sts++st).map (·.1)=sts.map (·.1)++st.map (·.1):=List.map_append;have eqS:eqD 50 (.lst (st.map stN))=true:=by show bI 49 _=true;exact nY st 48
   have tc2:Run (tst Γ (.cmp .ne (.var 6) (.lst []))) (S (sts.map (·.1)++st.map (·.1)) vs' fnd R' i6 o7' o8' o9') (!(st.map stN).isEmpty) (S (sts.map (·.1)++st.map (·.1)) vs' fnd R' i6 o7' o8' o9') :=
    b9 (aI rfl) (cc aj trivial aJ (Nat.zero_le _)) ⟨⟨.own,rfl,rfl⟩,trivial⟩ (jS eqS)
   have e1:(st.map stN).map (fun u=>(kE (.bor 6),u))=st.map fun s=>(Kd.loc,stN s):=by rw[List.map_map];rfl
   have pre:∀{st'':ag},Run (execs Γ [.ite (.cmp .ne (.var 6) (.lst []))
    [.app 4 (.var 6)]
    []]) (S (sts.map (·.1)++st.map (·.1)) vs' fnd R' i6 o7' o8' o9') .nx st''->Run (execs Γ uQ) (S (sts.map (·.1)) vs fnd R o6 o7 o8 o9) .nx st'':=fun h=>by
    refine ax (r:=(.own,.lst (st.map stN))) (bL (af (ae rfl) (af (aI rfl) (af (aI rfl) aj))) ⟨⟨.own,rfl,rfl⟩,⟨.own,rfl,rfl⟩,trivial⟩ hst) bM ?_;refine ax (r:=(.own,.lst [])) (cc aj trivial aJ (Nat.zero_le _)) bM ?_;exact cf (rs:=[(.bor 6,.lst (st.map stN))]) (af (aI rfl) aj) ⟨⟨.own,rfl,rfl⟩,trivial⟩ (by show some (List.map (fun u=>(kE (.bor 6),u)) _)=_;rw[e1]) rfl hmid h
   by_cases hs0:st=[]
   ·have hR':=hy0 hs0;subst hs0;rw[show(!(([]:List (Str×Nat)).map stN).isEmpty)=false from rfl]at tc2;have ee:sts++[]=sts:=List.append_nil _;rw[ee]at x';have hb:=pre (bY tc2 (fun h=>by cases h) fun _=>aG);obtain⟨sts2,fnd2,st2,z1,z2,z3,z4,z5⟩:=gS hO hr hN hks f sts fnd R' vs' i6 o7' o8' o9' x' hf hfl (by rw[if_pos hR'];omega);refine⟨sts2,fnd2,st2,z1,z2,z3,z4,wU tc hb ?_⟩;have e3:sts.map (·.1)++([]:List (Str×Nat)).map (·.1)=sts.map (·.1):=by simp
    show Run _ (S (sts.map (·.1)++([]:List (Str×Nat)).map (·.1)) vs' fnd R' i6 o7' o8' o9') _ _;rw[e3];exact z5
   ·have htr2:(!(st.map stN).isEmpty)=true:=by
     cases st with
     |nil=>exact absurd rfl hs0
     |cons a l=>rfl
    rw[htr2]at tc2;have hpos:0<st.length:=List.length_pos_iff.mpr hs0;have ef:ff (fnd++[st])=ff fnd++[.lst (st.map stN)]:=by simp[ff]
    have hb:Run (execs Γ uQ) (S (sts.map (·.1)) vs fnd R o6 o7 o8 o9) .nx (S (sts.map (·.1)++st.map (·.1)) vs' (fnd++[st]) R' (some (.loc,.lst (st.map stN))) o7' o8' o9'):=by
     refine pre (bY tc2 (fun _=>?_) fun h=>by cases h);show Run _ _ _ [some (.loc,.tup (rows.map rwU)),some (.own,.dic ks (ks.map (bS (tel rows rows.length)))),some (.own,.lst (bf rows fun p=>(cnt rows (sts.map (·.1)++st.map (·.1)) p:Int))),some (.own,.dic (sts.map (·.1)++st.map (·.1)) vs'),some (.own,.lst (ff (fnd++[st]))),some (.own,.lst (dY R')),some (.loc,.lst (st.map stN)),o7',o8',o9'];rw[ef];exact kZ (k:=.own) (k':=.own) (r:=(.bor 6,.lst (st.map stN))) (u:=.lst (st.map stN)) rfl (aI rfl) (AS rfl) rfl rfl (by unfold ff;rw[List.length_map];omega) aG
    obtain⟨sts2,fnd2,st2,z1,z2,z3,z4,z5⟩:=gS hO hr hN hks f (sts++st) (fnd++[st]) R' vs' (some (.loc,.lst (st.map stN))) o7' o8' o9' x' (by rw[List.flatten_append,hf];simp) (by rw[List.length_append,List.length_append,List.length_singleton];omega) (by rw[List.length_append];split<;>omega);refine⟨sts2,fnd2,st2,z1,z2,z3,z4,wU tc hb ?_⟩;rw[em]at z5;exact z5
noncomputable def xC(Γ:Tab)(rows:List Row):Prop:=∃ks:List Str,(∀w,w∉ks->tel rows rows.length w=[])/\Γ "places_that_tell" [.tup (rows.map rwU)]=some (.ok (.own,.dic ks (ks.map (bS (tel rows rows.length)))))
theorem fg(hO:Once rows)(hr:rows.length<=100)(hP:xC Γ rows)(hN:uR Γ rows):∃(sts:List (Str×Nat)) (fnd:List (List (Str×Nat))),LI rows sts []/\fnd.flatten=sts/\fnd.length<=100/\bW Γ bG [.tup (rows.map rwU)]=some (.ok (.own,.lst (ff fnd))):=by
 have hsz:(20000:Nat)<=sizeLine:=by decide
 obtain⟨ks,hks,hpl⟩:=hP;have hst:TM.start [.tup (rows.map rwU)] 10=[some (.loc,.tup (rows.map rwU)),none,none,none,none,none,none,none,none,none]:=by simp[TM.start,imm,bO]
 let i0:Option (Kd×U):=some (.loc,.tup (rows.map rwU));let i1:Option (Kd×U):=some (.own,.dic ks (ks.map (bS (tel rows rows.length))));let i2:Option (Kd×U):=some (.own,.lst (bf rows fun p=>(cnt rows [] p:Int)));have g2:Run (ev Γ (.comp 1 false .seq [.var 0] [] (.bi .len [.idx (.var 0) (.cst (.int 1))]))) [i0,i1,none,none,none,none,none,none,none,none] (.own,.lst (bf rows fun p=>(cnt rows [] p:Int))) [i0,i1,none,none,none,none,none,none,none,none]:=by
  have hx:=fF (cond:=aS Γ []) (elt:=ev Γ (.bi .len [.idx (.var 0) (.cst (.int 1))])) (src:=[(.loc,.tup (rows.map rwU))]) (st:=[i0,i1,none,none,none,none,none,none,none,none]) trivial .loc (.inl rfl) rwU (fun r=>.int (r.2.length:Nat)) .loc (fun _=>ic) rows [] (by simp;omega)
   (fun y _=>⟨dQ (af (aZ (x:=(.loc,rwU y)) (ae rfl) aq trivial rfl) aj) trivial (by rw[iI,List.length_map]),aX⟩)
  rw[List.nil_append]at hx;have e:(rows.map rwU).map (fun u=>(kE .loc,u))=rows.map fun r=>(Kd.loc,rwU r):=by rw[List.map_map];rfl
  have e2:(rows.map fun r=>U.int (r.2.length:Nat))=bf rows fun p=>(cnt rows [] p:Int):=by
   unfold bf;apply List.ext_getElem
   ·simp
   ·intro i h1 h2;have hi:i<rows.length:=by simpa using h1
    have ht:told rows i=rows[i].2:=iK (by simp[hi]);have hc:cnt rows [] i=rows[i].2.length:=by unfold cnt pG;rw[ht];simp
    simp[hc]
  rw[e2]at hx;exact cX (rs:=[(.loc,.tup (rows.map rwU))]) (af (ae rfl) aj) trivial (by show some _=_;rw[e]) hx
 let R0:=(List.range rows.length).filter fun p=>decide (cnt rows [] p=0);let st5:ag:=[i0,i1,i2,some (.own,.dic [] []),some (.own,.lst []),none,none,none,none,none]
 have g5:Run (ev Γ (.comp 2 true .enm [.var 2] [.cmp .eq (.var 1) (.cst (.int 0))] (.var 0))) st5 (.own,.lst (dY R0)) st5:=by
  have hx:=pI (st:=st5) (cond:=aS Γ [.cmp .eq (.var 1) (.cst (.int 0))]) (elt:=ev Γ (.var 0)) (src:=[(.bor 2,.lst (bf rows fun p=>(cnt rows [] p:Int)))]) ⟨⟨.own,rfl,rfl⟩,trivial⟩ (fun p:Nat=>U.int (p:Nat)) (fun p:Nat=>U.int (cnt rows [] p:Int)) (fun p:Nat=>U.int (p:Nat)) (fun p=>decide (cnt rows [] p=0)) (List.range rows.length) [] (by simp;omega)
   (fun y _=>⟨dR (b9 (ae rfl) aq trivial (dh (by rw[Bool.eq_iff_iff];simp))),ae rfl⟩)
  rw[List.nil_append]at hx;have e:((bf rows fun p=>(cnt rows [] p:Int)).zipIdx.map fun p=>(kE (.bor 2),U.tup [.int p.2,p.1]))=(List.range rows.length).map fun p:Nat=>(Kd.loc,U.tup [.int (p:Nat),.int (cnt rows [] p:Int)]):=by
   unfold bf;apply List.ext_getElem
   ·simp
   ·intro i h1 h2;simp[kE]
  exact cX (rs:=[(.bor 2,.lst (bf rows fun p=>(cnt rows [] p:Int)))]) (af (aI rfl) aj) ⟨⟨.own,rfl,rfl⟩,trivial⟩ (by show some _=_;rw[e]) hx
 have x0:LI rows [] R0:=⟨trivial,fun t ht=>by
  obtain⟨a,b⟩:=List.mem_filter.mp ht;exact⟨List.mem_range.mp a,by simpa using b⟩,fun t r h1 h2=>.inl (List.mem_filter.mpr ⟨List.mem_range.mpr (List.getElem?_eq_some_iff.mp h1).1,by simpa using h2⟩)⟩
 obtain⟨sts,fnd,st',z1,z2,z3,z4,z5⟩:=gS hO hr hN hks fuel [] [] R0 [] none none none none x0 rfl (Nat.le_refl _) (by unfold fuel;split<;>simp<;>omega);refine⟨sts,fnd,z1,z2,z3,?_⟩;exact aP rfl (.inl rfl) hst (ax (r:=(.own,.dic ks (ks.map (bS (tel rows rows.length))))) (bL (af (ae rfl) aj) trivial hpl) bM (ax g2 bM (ax (r:=(.own,.dic [] [])) pw bM (ax (r:=(.own,.lst [])) (cc aj trivial aJ (Nat.zero_le _)) bM (ax g5 bM (xA z5 (cW (aI z4) (nI z4))))))))
theorem se{sts:List (Str×Nat)}{fnd:List (List (Str×Nat))}(hs:Γ "steps_in_rounds" [.tup (rows.map rwU)]=some (.ok (.own,.lst (ff fnd))))(hf:fnd.flatten=sts)(hl:sts.length<=100):bW Γ gy [.tup (rows.map rwU)]=some (.ok (.own,.lst (sts.map stN))):=by
 have hsz:(20000:Nat)<=sizeLine:=by decide
 have hst:TM.start [.tup (rows.map rwU)] 3=[some (.loc,.tup (rows.map rwU)),none,none]:=by simp[TM.start,imm,bO]
 let S:=fun(l:List (Str×Nat)) (o2:Option (Kd×U))=>([some (.loc,.tup (rows.map rwU)),some (.own,.lst (l.map stN)),o2]:ag)
 obtain⟨st',hrun,hdr,o2,e⟩:=bZ (t:=false) (is:=[2]) (body:=execs Γ [.ext 1 (.var 2)]) (rs:=[(.own,.lst (ff fnd))]) (fun l:List (Str×Nat)=>(Kd.loc,U.lst (l.map stN)))
  (fun d r st=>d++r=fnd/\∃o2:Option (Kd×U),st=S d.flatten o2) (fun _ _ _ _=>trivial) (fun d y r st hIx=>by
   obtain⟨hdr,o2,e⟩:=hIx;subst e;have hb:d.flatten.length+y.length<=100:=by
    have:=congrArg (fun l:List (List (Str×Nat))=>l.flatten.length) hdr;simp only[List.flatten_append,List.flatten_cons,List.length_append,hf]at this;omega
   refine⟨S d.flatten (some (.loc,.lst (y.map stN))),S (d++[y]).flatten (some (.loc,.lst (y.map stN))),bR aC,?_,by rw[<-hdr];simp,_,rfl⟩;have em:(d++[y]).flatten.map stN=d.flatten.map stN++y.map stN:=by simp
   show Run _ _ _ [some (.loc,.tup (rows.map rwU)),some (.own,.lst ((d++[y]).flatten.map stN)),some (.loc,.lst (y.map stN))];rw[em];exact xx (k:=.own) (k':=.own) rfl (ae rfl) rfl rfl (qK (by rw[List.length_map,List.length_map];omega) rfl) aG) fnd [] (S [] none) ⟨rfl,none,rfl⟩
 subst e;have e:(ff fnd).map (fun u=>(kE .own,u))=fnd.map fun l=>(Kd.loc,U.lst (l.map stN)):=by unfold ff;rw[List.map_map];rfl
 have h0:=aP (Γ:=Γ) (fn:=gy) rfl (.inl rfl) hst (ax (r:=(.own,.lst [])) (cc aj trivial aJ (Nat.zero_le _)) bM (cf (rs:=[(.own,.lst (ff fnd))]) (st1:=S [] none) (af (bL (af (ae rfl) aj) trivial hs) aj) trivial rfl rfl (by rw[e];exact hrun) (cW (aI rfl) (nI rfl))));rw[List.nil_append,hf]at h0;exact h0
end
end K
namespace K
open PySem L2 TM W01 Od
noncomputable def kg(l:List Nat):List Nat:=l.mergeSort fun a b=>decide (a<=b)
theorem cp(l:List Nat):(kg l).Perm l:=List.mergeSort_perm l _
theorem qO(l:List Nat):(kg l).Pairwise (·<=·):=by
 have:=List.pairwise_mergeSort (le:=fun a b:Nat=>decide (a<=b)) (fun a b c h1 h2=>by simp at h1 h2 ⊢;omega) (fun a b=>by simp;omega) l;exact this.imp fun h=>by simpa using h
theorem sf(l:List Nat):hJ (l.map fun p:Nat=>(p:Int))=(kg l).map fun p:Nat=>(p:Int) :=
 fC ((dH _).trans ((cp l).map _).symm) (ni _) (List.pairwise_map.mpr ((qO l).imp fun h=>by omega))
theorem pK{d:Row}:∀(rows:List Row) (o:Nat) (qs:List Nat),qs.Pairwise (· < ·)->(∀p∈qs,o<=p/\p<o+rows.length)->(qs.map fun p=>rows.getD (p - o) d).Sublist rows
 |[],o,qs,_,h=>by
  cases qs with
  |nil=>exact .slnil
  |cons q qs=>have:=h q (by simp);simp at this;omega
 |r::rows,o,[],_,_=>List.nil_sublist _
 |r::rows,o,q::qs,hp,h=>by
  rw[List.pairwise_cons]at hp;have hs:∀l:List Nat,(∀p∈l,o+1<=p)->l.map (fun p=>(r::rows).getD (p - o) d)=l.map fun p=>rows.getD (p - (o+1)) d:=fun l hl=>List.map_congr_left fun p hm=>by
   have:=hl p hm;rw[show p - o=(p - (o+1))+1 by omega];rfl
  by_cases e:q=o
  ·subst e;rw[List.map_cons,hs qs fun p hm=>by have:=hp.1 p hm;omega,Nat.sub_self];exact(pK rows (q+1) qs hp.2 fun p hm=>by have:=hp.1 p hm;have:=h p (by simp[hm]);simp at this;omega).cons₂ r
  ·have hq:=h q (by simp);have ho:∀p∈q::qs,o+1<=p:=fun p hm=>by
    rcases List.mem_cons.mp hm with rfl|hm
    ·omega
    ·have:=hp.1 p hm;omega
   rw[hs _ ho];exact(pK rows (o+1) (q::qs) (List.pairwise_cons.mpr hp) fun p hm=>by have:=ho p hm;have:=h p hm;simp at this;omega).cons r
structure Trm(rows:List Row)(K:List Str)(tr:List Row):Prop where
 sub:tr.Sublist rows
 heads:(tr.map (·.1)).Perm K
 nd:K.Nodup
 snd:Snd tr K
 clo:b7 rows (·∈K)
noncomputable def trim(rows:List Row)(sts:List (Str×Nat)):List Row:=(kg (sts.map (·.2))).map fun p=>rows.getD p ("",[])
theorem uS{rows:List Row}:∀{ss:List (Str×Nat)}{K:List Str},vS rows K ss->∀s∈ss,∃r,rows[s.2]?=some r/\r.1=s.1
 |s::ss,K,h,t,ht=>by
  rcases List.mem_cons.mp ht with rfl|ht
  ·obtain⟨_,r,a,b,_⟩:=h.1;exact⟨r,a,b⟩
  ·exact uS h.2 t ht
theorem qP{rows T:List Row}:∀{ss:List (Str×Nat)}{K:List Str},(∀s∈ss,∀r,rows[s.2]?=some r->r∈T)->vS rows K ss->Snd T K->Snd T (K++ss.map (·.1))
 |[],K,_,_,h=>by simpa using h
 |s::ss,K,hT,h,hn=>by
  have h1:Snd T (K++[s.1]):=fun C hC x hx=>by
   rcases List.mem_append.mp hx with hx|hx
   ·exact hn C hC x hx
   ·have:x=s.1:=by simpa using hx
    subst this;obtain⟨_,r,q1,q2,q3⟩:=h.1;rw[<-q2];exact hC r (hT s (by simp) r q1) fun y hy=>hn C hC y (q3 y hy)
  have:=qP (fun t ht=>hT t (by simp[ht])) h.2 h1;simpa using this
theorem zv{rows:List Row}{sts:List (Str×Nat)}(x:LI rows sts []):Trm rows (sts.map (·.1)) (trim rows sts):=by
 have hnd:=eQ x.ok .nil;rw[List.nil_append]at hnd;have hat:=uS x.ok;have hst:sts.Nodup:=List.Pairwise.of_map (·.1) (fun a b h e=>h (by rw[e])) hnd;have hsn:(sts.map (·.2)).Nodup:=ig (fun a ha b hb e=>by
  obtain⟨r,h1,h2⟩:=hat a ha;obtain⟨r',h3,h4⟩:=hat b hb;rw[e,h3]at h1;cases h1;exact Prod.ext (h2.symm.trans h4) e) hst
 have hq:(kg (sts.map (·.2))).Nodup:=(cp _).nodup_iff.mpr hsn;have hlt:(kg (sts.map (·.2))).Pairwise (· < ·):=by
  have:=List.Pairwise.and (qO (sts.map (·.2))) (show(kg (sts.map (·.2))).Pairwise (·≠·) from hq);exact this.imp fun h=>Nat.lt_of_le_of_ne h.1 h.2
 have hmem:∀p∈kg (sts.map (·.2)),∃s∈sts,s.2=p:=fun p hp=>by
  obtain⟨s,a,b⟩:=List.mem_map.mp ((cp _).mem_iff.mp hp);exact⟨s,a,b⟩
 have hsub:=pK (d:=("",[])) rows 0 _ hlt fun p hp=>by
  obtain⟨s,a,rfl⟩:=hmem p hp;obtain⟨r,h1,_⟩:=hat s a;have:=(List.getElem?_eq_some_iff.mp h1).1;omega
 have hf:∀s∈sts,(rows.getD s.2 ("",[])).1=s.1:=fun s hs=>by
  obtain⟨r,h1,h2⟩:=hat s hs;rw[List.getD_eq_getElem?_getD,h1];exact h2
 refine⟨hsub,?_,hnd,?_,x.closed⟩
 ·have e:((sts.map (·.2)).map fun p=>rows.getD p ("",[])).map (·.1)=sts.map (·.1):=by
   rw[List.map_map,List.map_map];exact List.map_congr_left fun s hs=>hf s hs
  rw[<-e];exact((cp _).map _).map _
 ·have:=qP (T:=trim rows sts) (K:=[]) (fun s hs r hr=>?_) x.ok (fun C _ y hy=>by cases hy)
  ·simpa using this
  ·refine List.mem_map.mpr ⟨s.2,(cp _).mem_iff.mpr (List.mem_map.mpr ⟨s,hs,rfl⟩),?_⟩;rw[List.getD_eq_getElem?_getD,hr];rfl
section
variable{rows tr:List Row}{K:List Str}
theorem b7.jW{C:Str->Prop}(s:∀r∈tr,r∈rows)(h:b7 rows C):b7 tr C:=fun r hr=>h r (s r hr)
theorem Snd.jW(s:∀r∈tr,r∈rows)(h:Snd tr K):Snd rows K:=fun C hC=>h C (b7.jW s hC)
theorem Trm.len(t:Trm rows K tr):tr.length=K.length:=by rw[<-t.heads.length_eq,List.length_map]
theorem Trm.perm(t:Trm rows K tr){L:List Str}(h1:L.Nodup)(h2:Snd tr L)(h3:b7 tr (·∈L)):L.Perm K:=same h1 t.nd h2 t.snd h3 (b7.jW t.sub.subset t.clo)
theorem Trm.less(t:Trm rows K tr){k:Nat}(hk:k<tr.length){L:List Str}(h2:Snd (tr.take k++tr.drop (k+1)) L):¬L.Perm K:=fun hp=>by
 have hn:(tr.map (·.1)).Nodup:=t.heads.nodup_iff.mpr t.nd;have e:tr=tr.take k++tr[k]::tr.drop (k+1):=by rw[<-List.drop_eq_getElem_cons hk,List.take_append_drop]
 have hin:tr[k].1∈L:=hp.mem_iff.mpr (t.heads.mem_iff.mp (List.mem_map.mpr ⟨_,List.getElem_mem hk,rfl⟩));have hm:=h2 (·∈(tr.take k++tr.drop (k+1)).map (·.1)) (fun r hr _=>List.mem_map.mpr ⟨r,hr,rfl⟩) _ hin;rw[e,List.map_append,List.map_cons,List.nodup_append,List.nodup_cons]at hn;rw[List.map_append]at hm;rcases List.mem_append.mp hm with hm|hm
 ·exact hn.2.2 _ hm _ (by simp) rfl
 ·exact hn.2.1.1 hm
theorem Trm.again(t:Trm rows K tr){L:List Str}{tr2:List Row}(t2:Trm tr L tr2):tr2=tr:=by
 have:=t.perm t2.nd (Snd.jW t2.sub.subset t2.snd) t2.clo;exact t2.sub.eq_of_length (by rw[t2.len,t.len,this.length_eq])
end
section
variable{Γ:Tab}{rows:List Row}{names:List Str}
theorem sorted_ints{k:Kd}{ns:List Int}(h:ns.length<64):biU .sorted [(k,.lst (ns.map .int))]=some (.own,.lst ((hJ ns).map .int)):=by
 show tI k (ns.map .int)=_;cases ns with
 |nil =>
  show(if ([]:List Str).length<64 then some (Kd.own,U.lst ((aH []).map .str)) else none)=_;rw[if_pos (by simp),show aH []=[] from List.eq_nil_of_length_eq_zero (cG []),show hJ []=[] from(dH []).eq_nil];rfl
 |cons n ns =>
  show(intsOf ((n::ns).map U.int)).bind _=_;rw[gN (fun i:Int=>i) (n::ns),List.map_id'']
  ·show(if (n::ns).length<64 then _ else _)=_;rw[if_pos h]
  ·exact fun _=>rfl
theorem n9{sts:List (Str×Nat)}(hr:rows.length<=100)(x:LI rows sts [])(hl:sts.length<64)(ho:Γ "order" [.tup (rows.map rwU)]=some (.ok (.own,.lst (sts.map stN)))):bW Γ e_ [.tup (rows.map rwU)]=some (.ok (.loc,.tup ((trim rows sts).map rwU))):=by
 have hsz:(20000:Nat)<=sizeLine:=by decide
 have hst:TM.start [.tup (rows.map rwU)] 2=[some (.loc,.tup (rows.map rwU)),none]:=by simp[TM.start,imm,bO]
 let S0:ag:=[some (.loc,.tup (rows.map rwU)),none]
 have g1:Run (ev Γ (.comp 1 false .seq [.call "order" [.var 0]] [] (.idx (.var 0) (.cst (.int 1))))) S0 (.own,.lst ((sts.map fun s=>((s.2:Nat):Int)).map .int)) S0:=by
  have hx:=fF (cond:=aS Γ []) (elt:=ev Γ (.idx (.var 0) (.cst (.int 1)))) (src:=[(.own,.lst (sts.map stN))]) (st:=S0) trivial .loc (.inl rfl) stN (fun s=>U.int ((s.2:Nat):Int)) .loc (fun _=>ic) sts [] (by simp;omega) fun s _=>⟨aZ (x:=(.loc,stN s)) (ae rfl) aq trivial rfl,aX⟩
  rw[List.nil_append]at hx;have e:(sts.map stN).map (fun u=>(kE .own,u))=sts.map fun s=>(Kd.loc,stN s):=by rw[List.map_map];rfl
  rw[List.map_map];exact cX (rs:=[(.own,.lst (sts.map stN))]) (af (bL (af (ae rfl) aj) trivial ho) aj) trivial (by show some (List.map (fun u=>(kE .own,u)) _)=_;rw[e]) hx
 have e0:(sts.map fun s=>((s.2:Nat):Int))=(sts.map (·.2)).map fun p:Nat=>(p:Int):=by rw[List.map_map];rfl
 have hs:biU .sorted [(.own,.lst ((sts.map fun s=>((s.2:Nat):Int)).map .int))]=some (.own,.lst (((kg (sts.map (·.2))).map fun p:Nat=>(p:Int)).map .int)):=by
  rw[sorted_ints (by rw[List.length_map];exact hl),e0,sf]
 let qs:=kg (sts.map (·.2));have hql:qs.length<64:=by rw[(cp _).length_eq,List.length_map];exact hl
 let S1:ag:=[some (.loc,.tup (rows.map rwU)),some (.own,.lst ((qs.map fun p:Nat=>(p:Int)).map .int))]
 have hat:=uS x.ok;have g2:∃j:Kd,(j=.loc\/j=.any)/\kE (.bor 1)=j:=⟨_,by first|exact .inl rfl|exact .inr rfl,rfl⟩
 obtain⟨j,hj,ej⟩:=g2;have g3:Run (ev Γ (.comp 1 false .seq [.var 1] [] (.idx (.var 1) (.var 0)))) S1 (.own,.lst ((trim rows sts).map rwU)) S1:=by
  have hx:=fF (cond:=aS Γ []) (elt:=ev Γ (.idx (.var 1) (.var 0))) (src:=[(.bor 1,.lst ((qs.map fun p:Nat=>(p:Int)).map .int))]) (st:=S1) ⟨⟨.own,rfl,rfl⟩,trivial⟩ j hj (fun p:Nat=>U.int (p:Int)) (fun p=>rwU (rows.getD p ("",[]))) .loc (fun _=>ic) qs [] (by simp;omega) fun p hp=>⟨?_,aX⟩
  ·rw[List.nil_append]at hx;have e:((qs.map fun p:Nat=>(p:Int)).map U.int).map (fun u=>(kE (.bor 1),u))=qs.map fun p:Nat=>(j,U.int (p:Int)):=by rw[List.map_map,List.map_map,ej];rfl
   have e2:(trim rows sts).map rwU=qs.map fun p=>rwU (rows.getD p ("",[])):=by unfold trim;rw[List.map_map];rfl
   rw[e2];exact cX (rs:=[(.bor 1,.lst ((qs.map fun p:Nat=>(p:Int)).map .int))]) (af (aI rfl) aj) ⟨⟨.own,rfl,rfl⟩,trivial⟩ (by show some (List.map (fun u=>(kE (.bor 1),u)) _)=_;rw[e]) hx
  ·obtain⟨s,a,b⟩:=List.mem_map.mp ((cp _).mem_iff.mp hp);obtain⟨r,h1,_⟩:=hat s a;have b:s.2=p:=b;rw[b]at h1;rw[List.getD_eq_getElem?_getD,h1];have hix:iA (.loc,.tup (rows.map rwU)) (.int (p:Int))=some (.loc,rwU r):=i_ (mF h1);rcases hj with rfl|rfl
   ·exact aZ (ae rfl) (ae rfl) trivial hix
   ·exact aZ (ae rfl) (aL rfl) trivial hix
 exact aP rfl (.inr rfl) hst (ax (dQ (af g1 aj) trivial hs) bM (cW (dQ (af g3 aj) trivial (r:=(.loc,.tup ((trim rows sts).map rwU))) rfl) gr))
end
end K
namespace K
open PySem L2 TM W01 Od
section
variable{Γ:Tab}{rows:List Row}{names:List Str}{st:ag}
theorem uT{i:Nat}{b:Bool}(h:st[i]?=some (some (.loc,.bl b))):Run (tst Γ (.var i)) st b st:=aa (fq h) (cE rfl)
noncomputable def w_:List TM.S:=[.ite (.and [.cmp .notin (.var 3) (.var 1),.bi .all [.comp 1 false .seq [.var 4] [] (.cmp .isin (.var 0) (.var 2))]]) [.put 1 (.var 3) (.cst (.bl true)),.set 2 (.cst (.bl true))] []]
structure Lk(rows:List Row)(K:List Str):Prop where
 nd:K.Nodup
 snd:Snd rows K
 wds:∀x∈K,x∈rows.map (·.1)
noncomputable def lS(rows:List Row)(K:List Str)(vs:List U)(b:Bool)(o3 o4:Option (Kd×U)):ag:=[some (.loc,.tup (rows.map rwU)),some (.own,.dic K vs),some (.loc,.bl b),o3,o4]
theorem Lk.len(x:Lk rows K):K.length<=rows.length:=by
 have:=jQ x.nd x.wds
 rwa [List.length_map]at this
theorem Lk.add(x:Lk rows K){r:Row}(hr:r∈rows)(h1:r.1∉K)(h2:∀y∈r.2,y∈K):Lk rows (K++[r.1]):=by
 refine⟨?_,fun C hC y hy=>?_,fun y hy=>?_⟩
 ·rw[List.nodup_append];refine⟨x.nd,by simp,fun a ha b hb e=>?_⟩;have:b=r.1:=by simpa using hb
  subst this;exact h1 (e▸ha)
 ·rcases List.mem_append.mp hy with hy|hy
  ·exact x.snd C hC y hy
  ·have:y=r.1:=by simpa using hy
   subst this;exact hC r hr fun z hz=>x.snd C hC z (h2 z hz)
 ·rcases List.mem_append.mp hy with hy|hy
  ·exact x.wds y hy
  ·have:y=r.1:=by simpa using hy
   subst this;exact List.mem_map.mpr ⟨r,hr,rfl⟩
theorem uU(h8:∀r∈rows,r.2.length<=8)(hr:rows.length<=100){K0:List Str}(x:Lk rows K0)(vs:List U)(o3 o4:Option (Kd×U)):∃(K1:List Str) (vs1:List U) (b:Bool) (q3 q4:Option (Kd×U)),Lk rows K1/\(b=true->K0.length<K1.length)/\(b=false->K1=K0/\b7 rows (·∈K0)) /\
  Run (forM true [3,4] (execs Γ w_) [(.loc,.tup (rows.map rwU))] (rows.map fun r=>(Kd.loc,rwU r))) (lS rows K0 vs false o3 o4) .nx (lS rows K1 vs1 b q3 q4):=by
 have hsz:(20000:Nat)<=sizeLine:=by decide
 obtain⟨st1,run1,_,K1,vs1,b,q3,q4,e,y1,y2,y3⟩:=bZ (t:=true) (is:=[3,4]) (body:=execs Γ w_) (rs:=[(.loc,.tup (rows.map rwU))]) (fun r:Row=>(Kd.loc,rwU r))
  (fun d r st=>d++r=rows/\∃(K:List Str) (vs:List U) (b:Bool) (o3 o4:Option (Kd×U)),st=lS rows K vs b o3 o4/\Lk rows K/\(b=true->K0.length<K.length)/\(b=false->K=K0/\∀r∈d,(∀y∈r.2,y∈K0)->r.1∈K0)) (fun _ _ _ _=>trivial) (fun d row r st hIx=>by
   obtain⟨hdr,K,vs,b,o3,o4,e,y1,y2,y3⟩:=hIx;subst e;have hrow:row∈rows:=by rw[<-hdr];simp
   have h8':=h8 row hrow;have hkl:=y1.len;let i3:Option (Kd×U):=some (.loc,.str row.1);let i4:Option (Kd×U):=some (.loc,.tup (row.2.map .str));have tc:Run (tst Γ (.and [.cmp .notin (.var 3) (.var 1),.bi .all [.comp 1 false .seq [.var 4] [] (.cmp .isin (.var 0) (.var 2))]])) (lS rows K vs b i3 i4) (!decide (row.1∈K)&&row.2.all fun y=>decide (y∈K)) (lS rows K vs b i3 i4) :=
    ib (pE (b9 (ae rfl) (aI rfl) ⟨⟨.own,rfl,rfl⟩,trivial⟩ gO) fun _=>dR (zo (r_ (j:=1) (k:=.loc) (w:=.dic K vs) (.inl rfl) (by omega) (ae rfl) (.inr rfl) fun _=>zu)))
   have htg:Run (cC true [3,4] (.loc,rwU row)) (lS rows K vs b o3 o4) () (lS rows K vs b i3 i4):=nW (.inl rfl);cases hp:(!decide (row.1∈K)&&row.2.all fun y=>decide (y∈K)) with
   |false =>
    rw[hp]at tc;refine⟨_,_,htg,bY tc (fun h=>by cases h) fun _=>aG,by rw[<-hdr];simp,K,vs,b,_,_,rfl,y1,y2,fun hb=>⟨(y3 hb).1,fun r' hr' hz=>?_⟩⟩;rcases List.mem_append.mp hr' with hr'|hr'
    ·exact(y3 hb).2 r' hr' hz
    ·have:r'=row:=by simpa using hr'
     subst this;rw[<-(y3 hb).1]at hz ⊢;by_cases hm:r'.1∈K
     ·exact hm
     ·have:(!decide (r'.1∈K)&&r'.2.all fun y=>decide (y∈K))=true:=by
       rw[decide_eq_false hm];simpa using hz
      rw[this]at hp;cases hp
   |true =>
    rw[hp]at tc;have hp':=hp;simp only[Bool.and_eq_true,Bool.not_eq_true',decide_eq_false_iff_not,List.all_eq_true,decide_eq_true_eq]at hp';refine⟨_,lS rows (K++[row.1]) (vs++[.bl true]) true i3 i4,htg,bY tc (fun _=>?_) (fun h=>by cases h),by rw[<-hdr];simp,K++[row.1],_,true,_,_,rfl,y1.add hrow hp'.1 hp'.2,fun _=>?_,fun h=>by cases h⟩
    ·exact uI (k:=.own) (rv:=(.loc,.bl true)) (rk:=(.loc,.str row.1)) aq rfl (ae rfl) (aM aX (aM aX aJ)) rfl rfl (mE (by omega) hp'.1) (ax aq aC aG)
    ·rw[List.length_append,List.length_singleton];cases b with
     |true=>have:=y2 rfl;omega
     |false=>rw[(y3 rfl).1];omega) rows [] (lS rows K0 vs false o3 o4) ⟨rfl,K0,vs,false,o3,o4,rfl,x,(fun h=>by cases h),fun _=>⟨rfl,fun r hr=>by cases hr⟩⟩
 subst e;rw[List.nil_append]at y3;exact⟨K1,vs1,b,q3,q4,y1,y2,y3,run1⟩
theorem uV(h8:∀r∈rows,r.2.length<=8)(hr:rows.length<=100):∀(f:Nat) (K0:List Str) (vs:List U) (o3 o4:Option (Kd×U)),Lk rows K0->rows.length - K0.length+2<=f ->
  ∃(K1:List Str) (vs1:List U) (q3 q4:Option (Kd×U)),Lk rows K1/\b7 rows (·∈K1)/\Run (fD (tst Γ (.var 2)) (execs Γ [.set 2 (.cst (.bl false)),.for_ true [3,4] .seq [.var 0] w_]) f) (lS rows K0 vs true o3 o4) .nx (lS rows K1 vs1 false q3 q4)
 |0,_,_,_,_,_,h=>by omega
 |f+1,K0,vs,o3,o4,x,h=>by
  obtain⟨K1,vs1,b,q3,q4,y1,y2,y3,run1⟩:=uU (Γ:=Γ) h8 hr x vs o3 o4;have e2:(rows.map rwU).map (fun u=>(kE .loc,u))=rows.map fun r=>(Kd.loc,rwU r):=by rw[List.map_map];rfl
  have hb:Run (execs Γ [.set 2 (.cst (.bl false)),.for_ true [3,4] .seq [.var 0] w_]) (lS rows K0 vs true o3 o4) .nx (lS rows K1 vs1 b q3 q4) :=
   ax aq aC (cf (rs:=[(.loc,.tup (rows.map rwU))]) (st1:=lS rows K0 vs false o3 o4) (af (ae rfl) aj) trivial (by show some (List.map (fun u=>(kE .loc,u)) _)=_;rw[e2]) rfl run1 aG)
  cases b with
  |false =>
   obtain⟨e,hc⟩:=y3 rfl;subst e;cases f with
   |zero=>omega
   |succ f=>exact⟨K1,vs1,q3,q4,y1,hc,wU (uT rfl) hb (xy (uT rfl))⟩
  |true =>
   have:=y2 rfl;have:=y1.len;obtain⟨K2,vs2,p3,p4,z1,z2,z3⟩:=uV h8 hr f K1 vs1 q3 q4 y1 (by omega);exact⟨K2,vs2,p3,p4,z1,z2,wU (uT rfl) hb z3⟩
theorem pL(h8:∀r∈rows,r.2.length<=8)(hr:rows.length<=100)(hnm:∀r∈rows,r.1∈names)(hnl:names.length<64):∃L:List Str,L.Nodup/\Snd rows L/\b7 rows (·∈L)/\bW Γ cM [.tup (rows.map rwU)]=some (.ok (.own,.lst ((aH L).map .str))):=by
 have hst:TM.start [.tup (rows.map rwU)] 5=[some (.loc,.tup (rows.map rwU)),none,none,none,none]:=by simp[TM.start,imm,bO]
 obtain⟨L,vs,q3,q4,y1,y2,run1⟩:=uV (Γ:=Γ) h8 hr fuel [] [] none none ⟨.nil,(fun C _ x hx=>by cases hx),(fun x hx=>by cases hx)⟩ (by unfold fuel;simp;omega);have hl:L.length<64:=by
  have:=jQ y1.nd (L:=names) fun x hx=>by
   obtain⟨r,a,b⟩:=List.mem_map.mp (y1.wds x hx);exact b▸hnm r a
  omega
 have hs:biU .sorted [(.bor 1,.dic L vs)]=some (.own,.lst ((aH L).map .str)):=by
  show(if L.length<64 then _ else _)=_;rw[if_pos hl]
 exact⟨L,y1.nd,y1.snd,y2,aP rfl (.inl rfl) hst (ax (r:=(.own,.dic [] [])) pw bM (ax aq aC (xA run1 (cW (dQ (af (aI rfl) aj) ⟨⟨.own,rfl,rfl⟩,trivial⟩ hs) nG))))⟩
end
end K
namespace K
open PySem L2 TM W01 Od
section
variable{Γ:Tab}{rows tr:List Row}{names:List Str}{st:ag}
theorem pM(hs:tr.Sublist rows)(hr:rows.length<=100):bW Γ cN [.tup (tr.map rwU),.tup (rows.map rwU)]=some (.ok (.loc,.bl true)):=by
 have hst:TM.start [.tup (tr.map rwU),.tup (rows.map rwU)] 4=[some (.loc,.tup (tr.map rwU)),some (.loc,.tup (rows.map rwU)),none,none]:=by simp[TM.start,imm,bO]
 let S:=fun(a:Nat) (o3:Option (Kd×U))=>([some (.loc,.tup (tr.map rwU)),some (.loc,.tup (rows.map rwU)),some (.loc,.int (a:Nat)),o3]:ag)
 let body:List TM.S:=[.ite (.and [.cmp .lt (.var 2) (.bi .len [.var 0]),.cmp .eq (.idx (.var 0) (.var 2)) (.var 3)])
    [.set 2 (.bin .add (.var 2) (.cst (.int 1)))]
    []]
 obtain⟨st1,run1,_,a,o3,e,ha,hsub⟩:=bZ (t:=false) (is:=[3]) (body:=execs Γ body) (rs:=[(.loc,.tup (rows.map rwU))]) (fun r:Row=>(Kd.loc,rwU r))
  (fun d r st=>d++r=rows/\∃(a:Nat) (o3:Option (Kd×U)),st=S a o3/\a<=tr.length/\(tr.drop a).Sublist r) (fun _ _ _ _=>trivial) (fun d row r st hIx=>by
   obtain⟨hdr,a,o3,e,ha,hsub⟩:=hIx;subst e;let i3:Option (Kd×U):=some (.loc,rwU row);have t1:Run (tst Γ (.cmp .lt (.var 2) (.bi .len [.var 0]))) (S a i3) (decide (a<tr.length)) (S a i3):=b9 (ae rfl) (dQ (af (ae rfl) aj) trivial iI) trivial (uD (by rw[List.length_map,Bool.eq_iff_iff];simp));have t2:∀h:a<tr.length,Run (tst Γ (.cmp .eq (.idx (.var 0) (.var 2)) (.var 3))) (S a i3) (decide (tr[a]=row)) (S a i3):=fun h=>b9 (aZ (r:=(.loc,rwU tr[a])) (ae rfl) (ae rfl) trivial (i_ (mF (by simp[h])))) (ae rfl) trivial (wN (op:=true));have htg:Run (cC false [3] (.loc,rwU row)) (S a o3) () (S a i3):=bR aC;by_cases h:a<tr.length
   ·rw[decide_eq_true h]at t1;have tc:=ib (mf t1 (dR (t2 h)));rw[List.drop_eq_getElem_cons h]at hsub;by_cases he:tr[a]=row
    ·rw[decide_eq_true he]at tc;rw[he]at hsub;refine⟨S a i3,S (a+1) i3,htg,bY tc (fun _=>?_) (fun z=>by cases z),by rw[<-hdr];simp,a+1,_,rfl,h,List.cons_sublist_cons.mp hsub⟩;exact ax (r:=(.loc,.int ((a+1:Nat):Int))) (aF (ae rfl) aq trivial rfl) aC aG
    ·rw[decide_eq_false he]at tc;refine⟨S a i3,S a i3,htg,bY tc (fun z=>by cases z) fun _=>aG,by rw[<-hdr];simp,a,_,rfl,ha,?_⟩;rw[List.drop_eq_getElem_cons h];cases hsub with
     |cons _ z=>exact z
     |cons_cons _ z=>exact absurd rfl he
   ·rw[decide_eq_false h]at t1;refine⟨S a i3,S a i3,htg,bY (ib (pz t1)) (fun z=>by cases z) fun _=>aG,by rw[<-hdr];simp,a,_,rfl,ha,?_⟩;rw[List.drop_eq_nil_of_le (by omega)];exact List.nil_sublist _) rows [] (S 0 none) ⟨rfl,0,none,rfl,Nat.zero_le _,hs⟩
 subst e;have hal:a=tr.length:=by
  have:=List.sublist_nil.mp hsub;have:=congrArg List.length this;rw[List.length_drop,List.length_nil]at this;omega
 subst hal;have e2:(rows.map rwU).map (fun u=>(kE .loc,u))=rows.map fun r=>(Kd.loc,rwU r):=by rw[List.map_map];rfl
 exact aP rfl (.inr rfl) hst (ax aq aC (cf (rs:=[(.loc,.tup (rows.map rwU))]) (st1:=S 0 none) (af (ae rfl) aj) trivial (by show some (List.map (fun u=>(kE .loc,u)) _)=_;rw[e2]) rfl run1
  (cW (h_ (ae rfl) (dQ (af (ae rfl) aj) trivial iI) trivial (dh (by rw[List.length_map];simp))) gr)))
theorem pN:bW Γ cO [.tup (tr.map rwU)]=some (.ok (.loc,.bl true)):=by
 have hst:TM.start [.tup (tr.map rwU)] 2=[some (.loc,.tup (tr.map rwU)),none]:=by simp[TM.start,imm,bO]
 let S:=fun(o1:Option (Kd×U))=>([some (.loc,.tup (tr.map rwU)),o1]:ag)
 let body:List TM.S:=[.ite (.or [.not (.isi (.var 1) .tuple),.not (.isi (.idx (.var 1) (.cst (.int 1))) .tuple)])
    [.ret (.cst (.bl false))]
    []]
 obtain⟨st1,run1,o1,e⟩:=bZ (t:=false) (is:=[1]) (body:=execs Γ body) (rs:=[(.loc,.tup (tr.map rwU))]) (fun r:Row=>(Kd.loc,rwU r))
  (fun d r st=>∃o1:Option (Kd×U),st=S o1) (fun _ _ _ _=>trivial) (fun d row r st hIx=>by
   obtain⟨o1,e⟩:=hIx;subst e;let i1:Option (Kd×U):=some (.loc,rwU row);have tc:Run (tst Γ (.or [.not (.isi (.var 1) .tuple),.not (.isi (.idx (.var 1) (.cst (.int 1))) .tuple)])) (S i1) false (S i1) :=
    zg (qF (ia (uJ (b:=true) (ae rfl) rfl)) (uA (ia (uJ (b:=true) (aZ (x:=(.loc,rwU row)) (ae rfl) aq trivial rfl) rfl))))
   exact⟨S i1,S i1,bR aC,bY tc (fun z=>by cases z) fun _=>aG,_,rfl⟩) tr [] (S none) ⟨none,rfl⟩
 subst e;have e2:(tr.map rwU).map (fun u=>(kE .loc,u))=tr.map fun r=>(Kd.loc,rwU r):=by rw[List.map_map];rfl
 have t0:Run (tst Γ (.not (.isi (.var 0) .tuple))) (S none) false (S none):=ia (uJ (b:=true) (ae rfl) rfl);exact aP rfl (.inr rfl) hst (bY t0 (fun z=>by cases z) fun _=>cf (rs:=[(.loc,.tup (tr.map rwU))]) (st1:=S none) (af (ae rfl) aj) trivial (by show some (List.map (fun u=>(kE .loc,u)) _)=_;rw[e2]) rfl run1 (cW aq gr))
theorem fI:∀rs:List Row,bI 49 (rs.map rwU)=true
 |[]=>rfl
 |r::rs=>by simp[bI,fI rs,rwU,eqD,dy]
theorem pO(hr:rows.length<=1000)(h8:∀r∈rows,r.2.length<=8){row:Row}(hw:row.2.length<=8):∃b:Bool,bW Γ cJ [.lst (rows.map rwU),rwU row]=some (.ok (.loc,.bl b)):=by
 have hsz:(20000:Nat)<=sizeLine:=by decide
 have hst:TM.start [.lst (rows.map rwU),rwU row] 2=[some (.any,.lst (rows.map rwU)),some (.loc,rwU row)]:=by simp[TM.start,imm,mB]
 let S:ag:=[some (.any,.lst (rows.map rwU)),some (.loc,rwU row)]
 have hx:=pF (cond:=aS Γ [.and [.cmp .eq (.idx (.var 0) (.cst (.int 0))) (.idx (.var 2) (.cst (.int 0))),.cmp .eq (.bi .sorted [.idx (.var 0) (.cst (.int 1))]) (.bi .sorted [.idx (.var 2) (.cst (.int 1))])]]) (elt:=ev Γ (.var 0)) (src:=[(.any,.lst (rows.map rwU))]) (st:=S) trivial .any (.inr rfl) rwU rwU
  (fun r:Row=>decide (r.1=row.1)&&decide (aH r.2=aH row.2)) .any rows [] (by simp;omega) (fun r hm=>⟨dR (ib (pE (b9 (aZ (x:=(.any,rwU r)) (r:=(.any,.str r.1)) (aL rfl) aq trivial rfl) (aZ (x:=(.loc,rwU row)) (r:=(.loc,.str row.1)) (ae rfl) aq trivial rfl) trivial wO) fun _ =>
   dR (b9 (dQ (af (aZ (x:=(.any,rwU r)) (r:=(.any,.tup (r.2.map .str))) (aL rfl) aq trivial rfl) aj) trivial (sorted_strs (by have:=h8 r hm;omega))) (dQ (af (aZ (x:=(.loc,rwU row)) (r:=(.loc,.tup (row.2.map .str))) (ae rfl) aq trivial rfl) aj) trivial (sorted_strs (by omega))) trivial nP))),fun _=>⟨aL rfl,jJ (mB r)⟩⟩)
 rw[List.nil_append]at hx;have e:(rows.map rwU).map (fun u=>(kE .any,u))=rows.map fun r=>(Kd.any,rwU r):=by rw[List.map_map];rfl
 have gc:=cX (Γ:=Γ) (rs:=[(.any,.lst (rows.map rwU))]) (st:=S) (ik:=.seq) (src:=[.var 0]) (af (aL rfl) aj) trivial (by show some (List.map (fun u=>(kE .any,u)) _)=_;rw[e]) hx;exact⟨_,aP rfl (.inr rfl) hst (cW (h_ gc (cc aj trivial aJ (Nat.zero_le _)) trivial (jS (by simp only[eqD];exact fI _))) gr)⟩
end
end K
namespace K
open PySem L2 TM W01 Od
section
variable{Γ:Tab}{names W:List Str}{st:ag}{ns ds:List Int}{rows:List Row}
noncomputable def cY(Γ:Tab):Prop:=∀(rows:List Row) (row:Row),rows.length<=1000->(∀r∈rows,r.2.length<=8)->row.2.length<=8->∃b:Bool,Γ "_law_stands" [.lst (rows.map rwU),rwU row]=some (.ok (.loc,.bl b))
noncomputable def mS(ns ds:List Int)(names:List Str)(rows:List Row)(o4 o5 o6 o7 o8 o9:Option (Kd×U)):ag :=
 [some (.any,.lst (ns.map .int)),some (.any,.lst (ds.map .int)),some (.any,.lst (names.map .str)),some (.own,.lst (rows.map rwU)),o4,o5,o6,o7,o8,o9]
noncomputable def wide(n:Int):Str:="wide/"++mV n
noncomputable def bb:List Str:=(List.range 40).map fun j:Nat=>wide (2+(j:Int))
theorem gz{n:Int}(h:2<=n)(h2:n<=41):wide n∈names++bb :=
 List.mem_append.mpr (.inr (List.mem_map.mpr ⟨(n - 2).toNat,List.mem_range.mpr (by omega),by rw[show(2:Int)+((n - 2).toNat:Nat)=n by omega]⟩))
theorem gA{e:E}{n:Int}(h:Run (ev Γ e) st (.loc,.int n) st)(h0:0<=n)(h9:n<=99):Run (ev Γ (.bin .add (.cst (.str "wide/")) (.bi .str [e]))) st (.loc,.str (wide n)) st:=by
 have hsz:(1000:Nat)<=sizeLine:=by decide
 have hl:=gM h0 h9;have hstr:biU .str [(.loc,.int n)]=some (.loc,.str (mV n)):=by
  simp only[biU,fZ,tJ];rw[if_pos (by
   by_cases hz:n.natAbs=0
   ·rw[hz];decide
   ·have:n.natAbs<2 ^ 7:=by omega
    have:=(Nat.log2_lt hz).mpr this;omega)]
  rfl
 exact aF aq (dQ (af h aj) trivial hstr) trivial (gs (by show 5+_<=_;omega))
theorem qQ(hS:cY Γ){o4 o5 o7 o8 o9:Option (Kd×U)}{row:Row}(hl:rows.length<200)(hw:∀r∈rows,bj W r)(hr:bj W row):∃rows':List Row,rows'.length<=rows.length+1/\(∀r∈rows',bj W r) /\
  Run (execs Γ [.ite (.not (.call "_law_stands" [.var 3,.var 6])) [.app 3 (.var 6)] []]) (mS ns ds names rows o4 o5 (some (.loc,rwU row)) o7 o8 o9) .nx (mS ns ds names rows' o4 o5 (some (.loc,rwU row)) o7 o8 o9):=by
 have hsz:(1000:Nat)<=sizeLine:=by decide
 obtain⟨b,hb⟩:=hS rows row (by omega) (fun r h=>(hw r h).few) hr.few;have tc:Run (tst Γ (.not (.call "_law_stands" [.var 3,.var 6]))) (mS ns ds names rows o4 o5 (some (.loc,rwU row)) o7 o8 o9) (!b) (mS ns ds names rows o4 o5 (some (.loc,rwU row)) o7 o8 o9) :=
  ia (jP (af (aI rfl) (af (ae rfl) aj)) ⟨⟨.own,rfl,rfl⟩,trivial⟩ hb rfl)
 cases b with
 |true=>exact⟨rows,by omega,hw,bY tc (fun h=>by cases h) fun _=>aG⟩
 |false =>
  refine⟨rows++[row],by simp,fun r h=>?_,bY tc (fun _=>?_) (fun h=>by cases h)⟩
  ·rcases List.mem_append.mp h with h|h
   ·exact hw r h
   ·rw[List.mem_singleton.mp h];exact hr
  ·have em:(rows++[row]).map rwU=rows.map rwU++[rwU row]:=by simp
   unfold mS;rw[em];exact kZ (k:=.own) (k':=.own) (r:=(.loc,rwU row)) rfl (ae rfl) aX rfl rfl (by rw[List.length_map];omega) aG
theorem uW{α:Type}{xs:List α}(a:Nat)(h:a<=xs.length):cut xs none (some (a:Int))=xs.take a:=by
 unfold cut;rw[HT.ll,HT.iY,List.drop_zero,Nat.min_eq_left h];rfl
theorem n_{α:Type}{xs:List α}(a:Nat)(h:a<=xs.length):cut xs (some (a:Int)) none=xs.drop a:=by
 unfold cut;rw[HT.ll,HT.iY,Nat.min_eq_left h,List.take_of_length_le (by rw[List.length_drop];omega)]
noncomputable def mL1:List TM.S:=[.set 5 (.call "_law_drawn" [.call "_law_cell" [.var 0,.bin .add (.cst (.int 20)) (.var 4)],.cst (.int 12)]),.set 6 (.tup [.idx (.var 2) (.bin .mod (.idx (.var 5) (.cst (.int 0))) (.bi .len [.var 2])),.call "_law_told" [.var 5,.var 2]]),.ite (.not (.call "_law_stands" [.var 3,.var 6])) [.app 3 (.var 6)] []]
theorem AY(hc:jO Γ)(hd:gu Γ)(ht:pD Γ)(hS:cY Γ)(hn:0<names.length)(n:Nat)(hN:n<=30):∃(rows:List Row) (o4 o5 o6:Option (Kd×U)),rows.length<=n/\(∀r∈rows,bj (names++bb) r) /\
  Run (forM false [4] (execs Γ mL1) [(.loc,.int (n:Nat))] ((List.range n).map fun i:Nat=>(Kd.loc,U.int (0+(i:Int))))) (mS ns ds names [] none none none none none none) .nx (mS ns ds names rows o4 o5 o6 none none none):=by
 have hp:(0:Int)<((names.map U.str).length:Nat):=by simp;omega
 obtain⟨st',run,hd',rows,o4,o5,o6,e,h1,h2⟩:=bZ (t:=false) (is:=[4]) (body:=execs Γ mL1) (rs:=[(.loc,.int (n:Nat))]) (fun i:Nat=>(Kd.loc,U.int (0+(i:Int))))
  (fun d r st=>d++r=List.range n/\∃(rows:List Row) (o4 o5 o6:Option (Kd×U)),st=mS ns ds names rows o4 o5 o6 none none none/\rows.length<=d.length/\∀r∈rows,bj (names++bb) r) (fun _ _ _ _=>trivial) (fun d i r st hIx=>by
   obtain⟨hdr,rows,o4,o5,o6,e,h1,h2⟩:=hIx;subst e;have hdl:=congrArg List.length hdr;rw[List.length_append,List.length_range,List.length_cons]at hdl;have hi:i<n:=List.mem_range.mp (by rw[<-hdr];simp);obtain⟨z,hz⟩:=hc ns (20+i) (by omega);rw[show((20+i:Nat):Int)=20+(0+(i:Int)) by omega]at hz;obtain⟨es,d1,d2,d3⟩:=hd z 12 (by omega);obtain⟨told,t1,t2,t3,t4⟩:=ht es names (by omega) d2 hn;have i0:atI (es.map U.int) 0=some (.int (dd es 0)):=bF (i:=0) (by omega);obtain⟨nm,hnm,hna⟩:=iJ (xs:=names) (t:=((names.map U.str).length:Nat)) (cA d2 0) hp (by simp);have hrow:bj (names++bb) (nm,told):=⟨List.mem_append.mpr (.inl hnm),t1,t2,fun x hx=>List.mem_append.mpr (.inl (t3 x hx))⟩
   let i4:Option (Kd×U):=some (.loc,.int (0+(i:Int)));let i5:Option (Kd×U):=some (.own,.lst (es.map .int));obtain⟨rows',q1,q2,q3⟩:=qQ (ns:=ns) (ds:=ds) (names:=names) hS (o4:=i4) (o5:=i5) (o7:=none) (o8:=none) (o9:=none) (by omega) h2 hrow;have g5:Run (ev Γ (.call "_law_drawn" [.call "_law_cell" [.var 0,.bin .add (.cst (.int 20)) (.var 4)],.cst (.int 12)])) (mS ns ds names rows i4 o5 o6 none none none) (.own,.lst (es.map .int)) (mS ns ds names rows i4 o5 o6 none none none):=by repeat' (first|exact hz|exact d3|sizeOf_list_dec)
   have g6:Run (ev Γ (.tup [.idx (.var 2) (.bin .mod (.idx (.var 5) (.cst (.int 0))) (.bi .len [.var 2])),.call "_law_told" [.var 5,.var 2]])) (mS ns ds names rows i4 i5 o6 none none none) (.loc,rwU (nm,told)) (mS ns ds names rows i4 i5 o6 none none none):=by
    repeat' (first|exact aD i0|exact aR hp|exact aD hna|exact t4|exact jJ rfl|exact(by decide:(2:Nat)<=sizeLine)|sizeOf_list_dec)
   exact⟨mS ns ds names rows i4 o5 o6 none none none,_,bR aC,ax g5 bM (ax g6 aC q3),by rw[<-hdr];simp,rows',_,_,_,rfl,by simp;omega,q2⟩) (List.range n) [] (mS ns ds names [] none none none none none none) ⟨rfl,[],none,none,none,rfl,by simp,by simp⟩
 subst e;exact⟨rows,o4,o5,o6,by simpa using h1,h2,run⟩
noncomputable def mL2:List TM.S:=[.set 6 (.tup [.idx (.var 2) (.bin .mod (.idx (.var 1) (.bin .add (.cst (.int 3)) (.var 4))) (.bi .len [.var 2])),.tup []]),.set 7 (.bin .mod (.idx (.var 1) (.bin .add (.cst (.int 3)) (.var 4))) (.bin .add (.bi .len [.var 3]) (.cst (.int 1)))),.ite (.not (.call "_law_stands" [.var 3,.var 6])) [.set 3 (.bin .add (.bin .add (.slc (.var 3) [] [.var 7]) (.lst [.var 6])) (.slc (.var 3) [.var 7] []))] []]
theorem AZ(hS:cY Γ)(hn:0<names.length)(hdl:ds.length=10)(h0:∀d∈ds,0<=d)(n:Nat)(hN:n<=6){rows0:List Row}(hr0:rows0.length<=30)(hw0:∀r∈rows0,bj (names++bb) r)(p4 p5 p6:Option (Kd×U)):∃(rows:List Row) (o4 o6 o7:Option (Kd×U)),rows.length<=36/\(∀r∈rows,bj (names++bb) r) /\
  Run (forM false [4] (execs Γ mL2) [(.loc,.int (n:Nat))] ((List.range n).map fun i:Nat=>(Kd.loc,U.int (0+(i:Int))))) (mS ns ds names rows0 p4 p5 p6 none none none) .nx (mS ns ds names rows o4 p5 o6 o7 none none):=by
 have hsz:(1000:Nat)<=sizeLine:=by decide
 have hp:(0:Int)<((names.map U.str).length:Nat):=by simp;omega
 obtain⟨st',run,hd',rows,o4,o6,o7,e,h1,h2⟩:=bZ (t:=false) (is:=[4]) (body:=execs Γ mL2) (rs:=[(.loc,.int (n:Nat))]) (fun i:Nat=>(Kd.loc,U.int (0+(i:Int))))
  (fun d r st=>d++r=List.range n/\∃(rows:List Row) (o4 o6 o7:Option (Kd×U)),st=mS ns ds names rows o4 p5 o6 o7 none none/\rows.length<=30+d.length/\∀r∈rows,bj (names++bb) r) (fun _ _ _ _=>trivial) (fun d i r st hIx=>by
   obtain⟨hdr,rows,o4,o6,o7,e,h1,h2⟩:=hIx;subst e;have hdl':=congrArg List.length hdr;rw[List.length_append,List.length_range,List.length_cons]at hdl';have hi:i<n:=List.mem_range.mp (by rw[<-hdr];simp);have i0:atI (ds.map U.int) (3+(0+(i:Int)))=some (.int (dd ds (3+i))):=by
    have:=bF (ds:=ds) (i:=3+i) (by omega);rw[show((3+i:Nat):Int)=3+(0+(i:Int)) by omega]at this;exact this
   have hz:=cA h0 (3+i);obtain⟨nm,hnm,hna⟩:=iJ (xs:=names) (t:=((names.map U.str).length:Nat)) hz hp (by simp);have hrow:bj (names++bb) (nm,[]):=⟨List.mem_append.mpr (.inl hnm),by simp,.nil,by simp⟩
   let i4:Option (Kd×U):=some (.loc,.int (0+(i:Int)));let i6:Option (Kd×U):=some (.loc,rwU (nm,[]));let a:Nat:=(dd ds (3+i)).toNat % (rows.length+1);have hal:a<=rows.length:=Nat.le_of_lt_succ (Nat.mod_lt _ (Nat.succ_pos _));have ha:dd ds (3+i) % (((rows.map rwU).length:Nat)+1:Int)=(a:Int):=by
    rw[List.length_map];show _=(((dd ds (3+i)).toNat % (rows.length+1):Nat):Int)
    rw[Int.natCast_emod,Int.toNat_of_nonneg hz];rfl
   let i7:Option (Kd×U):=some (.loc,.int (a:Int));have g6:Run (ev Γ (.tup [.idx (.var 2) (.bin .mod (.idx (.var 1) (.bin .add (.cst (.int 3)) (.var 4))) (.bi .len [.var 2])),.tup []])) (mS ns ds names rows i4 p5 o6 o7 none none) (.loc,rwU (nm,[])) (mS ns ds names rows i4 p5 o6 o7 none none) :=
    eN (af (aZ (aL rfl) (aF (aZ (aL rfl) (aF aq (ae rfl) trivial bH) trivial (aD i0)) (dQ (af (aL rfl) aj) trivial mq) trivial (aR hp)) trivial (aD hna)) (af (eN aj trivial aJ (Nat.zero_le _)) aj)) trivial (aM (jJ rfl) (aM aX aJ)) (by show 2<=sizeLine;omega)
   have g7:Run (ev Γ (.bin .mod (.idx (.var 1) (.bin .add (.cst (.int 3)) (.var 4))) (.bin .add (.bi .len [.var 3]) (.cst (.int 1))))) (mS ns ds names rows i4 p5 i6 o7 none none) (.loc,.int (a:Int)) (mS ns ds names rows i4 p5 i6 o7 none none):=by
    rw[<-ha];exact aF (aZ (aL rfl) (aF aq (ae rfl) trivial bH) trivial (aD i0)) (aF (dQ (af (aI rfl) aj) ⟨⟨.own,rfl,rfl⟩,trivial⟩ mq) aq trivial bH) trivial (aR (by omega))
   obtain⟨b,hb⟩:=hS rows (nm,[]) (by omega) (fun r h=>(h2 r h).few) (by simp);have tc:Run (tst Γ (.not (.call "_law_stands" [.var 3,.var 6]))) (mS ns ds names rows i4 p5 i6 i7 none none) (!b) (mS ns ds names rows i4 p5 i6 i7 none none) :=
    ia (jP (af (aI rfl) (af (ae rfl) aj)) ⟨⟨.own,rfl,rfl⟩,trivial⟩ hb rfl)
   cases b with
   |true=>exact⟨mS ns ds names rows i4 p5 o6 o7 none none,mS ns ds names rows i4 p5 i6 i7 none none,bR aC,ax g6 aC (ax g7 aC (bY tc (fun h=>by cases h) fun _=>aG)),by rw[<-hdr];simp,rows,_,_,_,rfl,by simp;omega,h2⟩
   |false =>
    let rows':=rows.take a++[(nm,[])]++rows.drop a;have s1:iB (.bor 3,.lst (rows.map rwU)) none (some (a:Int))=some (.own,.lst ((rows.take a).map rwU)):=by
     show some (Kd.own,U.lst (cut (rows.map rwU) none (some (a:Int))))=_;rw[gv,uW a hal]
    have s2:iB (.bor 3,.lst (rows.map rwU)) (some (a:Int)) none=some (.own,.lst ((rows.drop a).map rwU)):=by
     show some (Kd.own,U.lst (cut (rows.map rwU) (some (a:Int)) none))=_;rw[gv,n_ a hal]
    have e1:opU .add (.own,.lst ((rows.take a).map rwU)) (.own,.lst [rwU (nm,[])])=some (.own,.lst ((rows.take a).map rwU++[rwU (nm,[])])):=nQ (by rw[List.length_map,List.length_take,List.length_singleton];omega) rfl rfl;have e2:opU .add (.own,.lst ((rows.take a).map rwU++[rwU (nm,[])])) (.own,.lst ((rows.drop a).map rwU))=some (.own,.lst (rows'.map rwU)):=by
     rw[nQ (by rw[List.length_append,List.length_map,List.length_take,List.length_singleton,List.length_map,List.length_drop];omega) rfl rfl];simp[rows']
    have hrl:rows'.length=rows.length+1:=by
     show(rows.take a++[(nm,[])]++rows.drop a).length=_;rw[List.length_append,List.length_append,List.length_take,List.length_drop,List.length_singleton];omega
    refine⟨mS ns ds names rows i4 p5 o6 o7 none none,mS ns ds names rows' i4 p5 i6 i7 none none,bR aC,ax g6 aC (ax g7 aC (bY tc (fun _=>?_) (fun h=>by cases h))),by rw[<-hdr];simp,rows',_,_,_,rfl,by rw[hrl,List.length_append,List.length_singleton];omega,fun r h=>?_⟩
    ·exact ax (aF (aF (kY (aI rfl) kW (kX (ae rfl)) ⟨⟨.own,rfl,rfl⟩,trivial⟩ s1) (cc (af (ae rfl) aj) trivial (aM aX aJ) (by show 1<=sizeLine;omega)) trivial e1) (kY (aI rfl) (kX (ae rfl)) kW ⟨⟨.own,rfl,rfl⟩,trivial⟩ s2) trivial e2) bM aG
    ·rcases List.mem_append.mp h with h|h
     ·rcases List.mem_append.mp h with h|h
      ·exact h2 r (List.mem_of_mem_take h)
      ·rw[List.mem_singleton.mp h];exact hrow
     ·exact h2 r (List.mem_of_mem_drop h)) (List.range n) [] (mS ns ds names rows0 p4 p5 p6 none none none) ⟨rfl,rows0,p4,p6,none,rfl,by simpa using hr0,hw0⟩
 subst e;rw[List.nil_append,List.length_range]at h1;exact⟨rows,o4,o6,o7,by omega,h2,run⟩
end
end K
namespace K
open PySem L2 TM W01 Od
section
variable{Γ:Tab}{names W:List Str}{st:ag}{ns ds:List Int}{rows:List Row}
noncomputable def mL3:List TM.S:=[.set 9 (.idx (.lst [.idx (.var 2) (.bin .mod (.var 4) (.bi .len [.var 2])),.bin .add (.cst (.str "wide/")) (.bi .str [.bin .add (.cst (.int 2)) (.bin .mod (.bin .add (.bin .mul (.cst (.int 7)) (.var 4)) (.idx (.var 1) (.cst (.int 8)))) (.cst (.int 40)))])]) (.bin .mod (.var 4) (.cst (.int 2)))),.ite (.cmp .eq (.var 8) (.cst (.int 24))) [.set 9 (.bin .add (.cst (.str "wide/")) (.bi .str [.bin .add (.cst (.int 2)) (.bin .mod (.bin .add (.var 4) (.cst (.int 1))) (.cst (.int 24)))]))] [],.set 6 (.tup [.bin .add (.cst (.str "wide/")) (.bi .str [.bin .add (.cst (.int 2)) (.var 4)]),.tup [.var 9]]),.ite (.not (.call "_law_stands" [.var 3,.var 6])) [.app 3 (.var 6)] []]
theorem A0(hS:cY Γ)(hn:0<names.length)(hdl:ds.length=10)(h0:∀d∈ds,0<=d)(n:Nat)(hN:n<=40){rows0:List Row}(hr0:rows0.length<=20)(hw0:∀r∈rows0,bj (names++bb) r)(p4 p5 p6 p7:Option (Kd×U)):∃(rows:List Row) (o4 o6 o9:Option (Kd×U)),rows.length<=20+n/\(∀r∈rows,bj (names++bb) r) /\
  Run (forM false [4] (execs Γ mL3) [(.loc,.int (n:Nat))] ((List.range n).map fun i:Nat=>(Kd.loc,U.int (0+(i:Int))))) (mS ns ds names rows0 p4 p5 p6 p7 (some (.loc,.int (n:Nat))) none) .nx (mS ns ds names rows o4 p5 o6 p7 (some (.loc,.int (n:Nat))) o9):=by
 have hsz:(1000:Nat)<=sizeLine:=by decide
 have hp:(0:Int)<((names.map U.str).length:Nat):=by simp;omega
 let i8:Option (Kd×U):=some (.loc,.int (n:Nat));obtain⟨st',run,hd',rows,o4,o6,o9,e,h1,h2⟩:=bZ (t:=false) (is:=[4]) (body:=execs Γ mL3) (rs:=[(.loc,.int (n:Nat))]) (fun i:Nat=>(Kd.loc,U.int (0+(i:Int))))
  (fun d r st=>d++r=List.range n/\∃(rows:List Row) (o4 o6 o9:Option (Kd×U)),st=mS ns ds names rows o4 p5 o6 p7 i8 o9/\rows.length<=20+d.length/\∀r∈rows,bj (names++bb) r) (fun _ _ _ _=>trivial) (fun d i r st hIx=>by
   obtain⟨hdr,rows,o4,o6,o9,e,h1,h2⟩:=hIx;subst e;have hdl':=congrArg List.length hdr;rw[List.length_append,List.length_range,List.length_cons]at hdl';have hi:i<n:=List.mem_range.mp (by rw[<-hdr];simp);let i4:Option (Kd×U):=some (.loc,.int (0+(i:Int)));have j8:atI (ds.map U.int) 8=some (.int (dd ds 8)):=bF (i:=8) (by omega);obtain⟨nm,hnm,hna⟩:=iJ (xs:=names) (t:=((names.map U.str).length:Nat)) (z:=0+(i:Int)) (by omega) hp (by simp);let v1:=wide (2+(7 * (0+(i:Int))+dd ds 8) % 40);have m1:=Int.emod_nonneg (7 * (0+(i:Int))+dd ds 8) (show(40:Int)≠0 by decide);have m2:=Int.emod_lt_of_pos (7 * (0+(i:Int))+dd ds 8) (show(0:Int)<40 by decide);have g1:Run (ev Γ (.lst [.idx (.var 2) (.bin .mod (.var 4) (.bi .len [.var 2])),.bin .add (.cst (.str "wide/")) (.bi .str [.bin .add (.cst (.int 2)) (.bin .mod (.bin .add (.bin .mul (.cst (.int 7)) (.var 4)) (.idx (.var 1) (.cst (.int 8)))) (.cst (.int 40)))])])) (mS ns ds names rows i4 p5 o6 p7 i8 o9) (.own,.lst [.str nm,.str v1]) (mS ns ds names rows i4 p5 o6 p7 i8 o9) :=
    cc (af (aZ (aL rfl) (aF (ae rfl) (dQ (af (aL rfl) aj) trivial mq) trivial (aR hp)) trivial (aD hna)) (af (gA (aF aq (aF (aF (aF aq (ae rfl) trivial (iU (.inl ⟨by omega,by omega⟩))) (aZ (aL rfl) aq trivial (aD j8)) trivial bH) aq trivial (aR (by omega))) trivial bH) (by omega) (by omega)) aj)) trivial (aM (jJ rfl) (aM aX aJ)) (by show 2<=sizeLine;omega)
   have g9:∃v∈names++bb,Run (ev Γ (.idx (.lst [.idx (.var 2) (.bin .mod (.var 4) (.bi .len [.var 2])),.bin .add (.cst (.str "wide/")) (.bi .str [.bin .add (.cst (.int 2)) (.bin .mod (.bin .add (.bin .mul (.cst (.int 7)) (.var 4)) (.idx (.var 1) (.cst (.int 8)))) (.cst (.int 40)))])]) (.bin .mod (.var 4) (.cst (.int 2))))) (mS ns ds names rows i4 p5 o6 p7 i8 o9) (.loc,.str v) (mS ns ds names rows i4 p5 o6 p7 i8 o9):=by
    rcases(show(0+(i:Int)) % 2=0\/(0+(i:Int)) % 2=1 by omega) with h|h
    ·exact⟨nm,List.mem_append.mpr (.inl hnm),aZ g1 (aF (ae rfl) aq trivial (aR (by omega))) trivial (aD (k:=.own) (by rw[h];rfl))⟩
    ·exact⟨v1,gz (by omega) (by omega),aZ g1 (aF (ae rfl) aq trivial (aR (by omega))) trivial (aD (k:=.own) (by rw[h];rfl))⟩
   obtain⟨v,hv,g9⟩:=g9;let i9:Option (Kd×U):=some (.loc,.str v);have tl:∃w∈names++bb,∀ss f st2,Run (execs Γ ss) (mS ns ds names rows i4 p5 o6 p7 i8 (some (.loc,.str w))) f st2->Run (execs Γ (.ite (.cmp .eq (.var 8) (.cst (.int 24))) [.set 9 (.bin .add (.cst (.str "wide/")) (.bi .str [.bin .add (.cst (.int 2)) (.bin .mod (.bin .add (.var 4) (.cst (.int 1))) (.cst (.int 24)))]))] []::ss)) (mS ns ds names rows i4 p5 o6 p7 i8 i9) f st2:=by
    have tc:Run (tst Γ (.cmp .eq (.var 8) (.cst (.int 24)))) (mS ns ds names rows i4 p5 o6 p7 i8 i9) (((n:Nat):Int)==24) (mS ns ds names rows i4 p5 o6 p7 i8 i9):=b9 (ae rfl) aq trivial (dh rfl);cases hb:(((n:Nat):Int)==24) with
    |false =>
     rw[hb]at tc;exact⟨v,hv,fun ss f st2 h=>bY tc (fun z=>by cases z) fun _=>h⟩
    |true =>
     rw[hb]at tc;have n1:=Int.emod_nonneg (0+(i:Int)+1) (show(24:Int)≠0 by decide);have n2:=Int.emod_lt_of_pos (0+(i:Int)+1) (show(0:Int)<24 by decide);refine⟨wide (2+(0+(i:Int)+1) % 24),gz (by omega) (by omega),fun ss f st2 h=>bY tc (fun _=>?_) (fun z=>by cases z)⟩;exact ax (gA (aF aq (aF (aF (ae rfl) aq trivial bH) aq trivial (aR (by omega))) trivial bH) (by omega) (by omega)) aC h
   obtain⟨w,hw,tl⟩:=tl;have hrow:bj (names++bb) (wide (2+(0+(i:Int))),[w]):=⟨gz (by omega) (by omega),by simp,by simp,by simpa using hw⟩
   have g6:Run (ev Γ (.tup [.bin .add (.cst (.str "wide/")) (.bi .str [.bin .add (.cst (.int 2)) (.var 4)]),.tup [.var 9]])) (mS ns ds names rows i4 p5 o6 p7 i8 (some (.loc,.str w))) (.loc,rwU (wide (2+(0+(i:Int))),[w])) (mS ns ds names rows i4 p5 o6 p7 i8 (some (.loc,.str w))) :=
    eN (af (gA (aF aq (ae rfl) trivial bH) (by omega) (by omega)) (af (eN (af (ae rfl) aj) trivial (aM aX aJ) (by show 1<=sizeLine;omega)) aj)) trivial (aM aX (aM aX aJ)) (by show 2<=sizeLine;omega)
   obtain⟨rows',q1,q2,q3⟩:=qQ (ns:=ns) (ds:=ds) (names:=names) hS (o4:=i4) (o5:=p5) (o7:=p7) (o8:=i8) (o9:=some (.loc,.str w)) (by omega) h2 hrow;exact⟨mS ns ds names rows i4 p5 o6 p7 i8 o9,_,bR aC,ax g9 aC (tl _ _ _ (ax g6 aC q3)),by rw[<-hdr];simp,rows',_,_,_,rfl,by simp;omega,q2⟩) (List.range n) [] (mS ns ds names rows0 p4 p5 p6 p7 i8 none) ⟨rfl,rows0,p4,p6,none,rfl,by simpa using hr0,hw0⟩
 subst e;rw[List.nil_append,List.length_range]at h1;exact⟨rows,o4,o6,o9,by omega,h2,run⟩
noncomputable def mL4:List TM.S:=[.ite (.not (.call "_law_stands" [.var 3,.tup [.bin .add (.cst (.str "wide/")) (.bi .str [.bin .sub (.bin .add (.var 8) (.cst (.int 1))) (.var 4)]),.tup []]])) [.app 3 (.tup [.bin .add (.cst (.str "wide/")) (.bi .str [.bin .sub (.bin .add (.var 8) (.cst (.int 1))) (.var 4)]),.tup []])] []]
theorem A1(hS:cY Γ)(n m:Nat)(hN:n<=40)(hm:m<=n){rows0:List Row}(hr0:rows0.length<=20+n)(hw0:∀r∈rows0,bj (names++bb) r)(p4 p5 p6 p7 p9:Option (Kd×U)):∃(rows:List Row) (o4:Option (Kd×U)),rows.length<=100/\(∀r∈rows,bj (names++bb) r) /\
  Run (forM false [4] (execs Γ mL4) [(.loc,.int (m:Nat))] ((List.range m).map fun i:Nat=>(Kd.loc,U.int (0+(i:Int))))) (mS ns ds names rows0 p4 p5 p6 p7 (some (.loc,.int (n:Nat))) p9) .nx (mS ns ds names rows o4 p5 p6 p7 (some (.loc,.int (n:Nat))) p9):=by
 have hsz:(1000:Nat)<=sizeLine:=by decide
 let i8:Option (Kd×U):=some (.loc,.int (n:Nat));obtain⟨st',run,hd',rows,o4,e,h1,h2⟩:=bZ (t:=false) (is:=[4]) (body:=execs Γ mL4) (rs:=[(.loc,.int (m:Nat))]) (fun i:Nat=>(Kd.loc,U.int (0+(i:Int))))
  (fun d r st=>d++r=List.range m/\∃(rows:List Row) (o4:Option (Kd×U)),st=mS ns ds names rows o4 p5 p6 p7 i8 p9/\rows.length<=20+n+d.length/\∀r∈rows,bj (names++bb) r) (fun _ _ _ _=>trivial) (fun d i r st hIx=>by
   obtain⟨hdr,rows,o4,e,h1,h2⟩:=hIx;subst e;have hdl':=congrArg List.length hdr;rw[List.length_append,List.length_range,List.length_cons]at hdl';have hi:i<m:=List.mem_range.mp (by rw[<-hdr];simp);let i4:Option (Kd×U):=some (.loc,.int (0+(i:Int)));let row:Row:=(wide (((n:Nat):Int)+1 - (0+(i:Int))),[])
   have hrow:bj (names++bb) row:=⟨gz (by omega) (by omega),by simp[row],by simp[row],by simp[row]⟩
   have g:Run (ev Γ (.tup [.bin .add (.cst (.str "wide/")) (.bi .str [.bin .sub (.bin .add (.var 8) (.cst (.int 1))) (.var 4)]),.tup []])) (mS ns ds names rows i4 p5 p6 p7 i8 p9) (.loc,rwU row) (mS ns ds names rows i4 p5 p6 p7 i8 p9) :=
    eN (af (gA (aF (aF (ae rfl) aq trivial bH) (ae rfl) trivial iT) (by omega) (by omega)) (af (eN aj trivial aJ (Nat.zero_le _)) aj)) trivial (aM aX (aM aX aJ)) (by show 2<=sizeLine;omega)
   obtain⟨b,hb⟩:=hS rows row (by omega) (fun r h=>(h2 r h).few) hrow.few;have tc:Run (tst Γ (.not (.call "_law_stands" [.var 3,.tup [.bin .add (.cst (.str "wide/")) (.bi .str [.bin .sub (.bin .add (.var 8) (.cst (.int 1))) (.var 4)]),.tup []]]))) (mS ns ds names rows i4 p5 p6 p7 i8 p9) (!b) (mS ns ds names rows i4 p5 p6 p7 i8 p9) :=
    ia (jP (af (aI rfl) (af g aj)) ⟨⟨.own,rfl,rfl⟩,trivial⟩ hb rfl)
   cases b with
   |true=>exact⟨mS ns ds names rows i4 p5 p6 p7 i8 p9,_,bR aC,bY tc (fun h=>by cases h) (fun _=>aG),by rw[<-hdr];simp,rows,_,rfl,by simp;omega,h2⟩
   |false =>
    have em:(rows++[row]).map rwU=rows.map rwU++[rwU row]:=by simp
    refine⟨mS ns ds names rows i4 p5 p6 p7 i8 p9,mS ns ds names (rows++[row]) i4 p5 p6 p7 i8 p9,bR aC,bY tc (fun _=>?_) (fun h=>by cases h),by rw[<-hdr];simp,rows++[row],_,rfl,by simp;omega,fun r h=>?_⟩
    ·show Run _ _ _ [some (.any,.lst (ns.map .int)),some (.any,.lst (ds.map .int)),some (.any,.lst (names.map .str)),some (.own,.lst ((rows++[row]).map rwU)),i4,p5,p6,p7,i8,p9];rw[em];exact kZ (k:=.own) (k':=.own) (r:=(.loc,rwU row)) (us:=rows.map rwU) rfl g aX rfl rfl (by rw[List.length_map];omega) aG
    ·rcases List.mem_append.mp h with h|h
     ·exact h2 r h
     ·rw[List.mem_singleton.mp h];exact hrow) (List.range m) [] (mS ns ds names rows0 p4 p5 p6 p7 i8 p9) ⟨rfl,rows0,p4,rfl,by simpa using hr0,hw0⟩
 subst e;rw[List.nil_append,List.length_range]at h1;exact⟨rows,o4,by omega,h2,run⟩
end
end K
namespace K
open PySem L2 TM W01 Od
section
variable{Γ:Tab}{names W:List Str}{st:ag}{ns ds:List Int}{rows tr:List Row}
theorem pP(hc:jO Γ)(hd:gu Γ)(ht:pD Γ)(hS:cY Γ)(hn:0<names.length)(hdl:ds.length=10)(h0:∀d∈ds,0<=d):∃rows:List Row,rows.length<=100/\(∀r∈rows,bj (names++bb) r) /\
  bW Γ dX [.lst (ns.map .int),.lst (ds.map .int),.lst (names.map .str)]=some (.ok (.loc,.tup (rows.map rwU))):=by
 have hsz:(1000:Nat)<=sizeLine:=by decide
 have hst:TM.start [.lst (ns.map .int),.lst (ds.map .int),.lst (names.map .str)] 10=[some (.any,.lst (ns.map .int)),some (.any,.lst (ds.map .int)),some (.any,.lst (names.map .str)),none,none,none,none,none,none,none]:=rfl;have ix:∀{i:Nat},i<10->atI (ds.map U.int) (i:Int)=some (.int (dd ds i)):=fun h=>bF (by omega);have ge:∀(i:Nat) (h:i<10) {rows:List Row} {o4 o5 o6 o7 o8 o9:Option (Kd×U)},Run (ev Γ (.idx (.var 1) (.cst (.int (i:Int))))) (mS ns ds names rows o4 o5 o6 o7 o8 o9) (.any,.int (dd ds i)) (mS ns ds names rows o4 o5 o6 o7 o8 o9):=fun i h=>aZ (aL rfl) aq trivial (aD (ix h));have fin:∀{rows:List Row} {o4 o5 o6 o7 o8 o9:Option (Kd×U)},Run (execs Γ [.ret (.bi .tuple [.var 3])]) (mS ns ds names rows o4 o5 o6 o7 o8 o9) (.rt .loc (.tup (rows.map rwU))) (mS ns ds names rows o4 o5 o6 o7 o8 o9):=cW (dQ (af (aI rfl) aj) ⟨⟨.own,rfl,rfl⟩,trivial⟩ rfl) gr;have wid:∀(rows:List Row) (o4 o5 o6 o7:Option (Kd×U)),rows.length<=36->(∀r∈rows,bj (names++bb) r)->∃(rows':List Row) (st':ag),rows'.length<=100/\(∀r∈rows',bj (names++bb) r) /\
   Run (execs Γ [.ite (.cmp .eq (.bin .mod (.idx (.var 1) (.cst (.int 9))) (.cst (.int 6))) (.cst (.int 1)))
   [.set 3 (.slc (.var 3) [] [.cst (.int 20)]),
   .set 8 (.idx (.lst [.cst (.int 40),.cst (.int 24)]) (.bin .mod (.idx (.var 1) (.cst (.int 7))) (.cst (.int 2)))),
   .for_ false [4] .rng1 [.var 8] mL3,
   .for_ false [4] .rng1 [(.bin .mod (.bin .fdv (.idx (.var 1) (.cst (.int 8))) (.cst (.int 2))) (.bin .add (.var 8) (.cst (.int 1))))] mL4]
   [],.ret (.bi .tuple [(.var 3)])]) (mS ns ds names rows o4 o5 o6 o7 none none) (.rt .loc (.tup (rows'.map rwU))) st':=fun rows o4 o5 o6 o7 hl hw=>by
  have tc:Run (tst Γ (.cmp .eq (.bin .mod (.idx (.var 1) (.cst (.int 9))) (.cst (.int 6))) (.cst (.int 1)))) (mS ns ds names rows o4 o5 o6 o7 none none) (dd ds 9 % 6==1) (mS ns ds names rows o4 o5 o6 o7 none none):=b9 (aF (ge 9 (by decide)) aq trivial (aR (by omega))) aq trivial (dh rfl);cases hb:(dd ds 9 % 6==1) with
  |false =>
   rw[hb]at tc;exact⟨rows,_,by omega,hw,bY tc (fun h=>by cases h) fun _=>fin⟩
  |true =>
   rw[hb]at tc;have s1:iB (.bor 3,.lst (rows.map rwU)) none (some 20)=some (.own,.lst ((cut rows none (some 20)).map rwU)):=by
    show some (Kd.own,U.lst (cut (rows.map rwU) none (some 20)))=_;rw[gv]
   let r1:=cut rows none (some 20);have hr1:r1.length<=20:=by
    show((rows.drop (HT.sIx rows.length 0 none)).take (HT.sIx rows.length rows.length (some ((20:Nat):Int)) - HT.sIx rows.length 0 none)).length<=20;rw[HT.ll,HT.iY,List.length_take];omega
   have hw1:∀r∈r1,bj (names++bb) r:=fun r h=>hw r (wQ h);have d7:=cA h0 7;have g8:∃n:Nat,n<=40/\Run (ev Γ (.idx (.lst [.cst (.int 40),.cst (.int 24)]) (.bin .mod (.idx (.var 1) (.cst (.int 7))) (.cst (.int 2))))) (mS ns ds names r1 o4 o5 o6 o7 none none) (.loc,.int (n:Nat)) (mS ns ds names r1 o4 o5 o6 o7 none none):=by
    have gl:Run (ev Γ (.lst [.cst (.int 40),.cst (.int 24)])) (mS ns ds names r1 o4 o5 o6 o7 none none) (.own,.lst [.int 40,.int 24]) (mS ns ds names r1 o4 o5 o6 o7 none none):=cc (af aq (af aq aj)) trivial (aM aX (aM aX aJ)) (by show 2<=sizeLine;omega);rcases(show dd ds 7 % 2=0\/dd ds 7 % 2=1 by omega) with h|h
    ·exact⟨40,by omega,aZ gl (aF (ge 7 (by decide)) aq trivial (aR (by omega))) trivial (aD (k:=.own) (by rw[h];rfl))⟩
    ·exact⟨24,by omega,aZ gl (aF (ge 7 (by decide)) aq trivial (aR (by omega))) trivial (aD (k:=.own) (by rw[h];rfl))⟩
   obtain⟨n,hn40,g8⟩:=g8;obtain⟨r2,q4,q6,q9,a1,a2,a3⟩:=A0 (Γ:=Γ) (ns:=ns) hS hn hdl h0 n hn40 hr1 hw1 o4 o5 o6 o7;have d8:=cA h0 8;let m:Nat:=(dd ds 8 / 2).toNat % (n+1);have hm:m<=n:=Nat.le_of_lt_succ (Nat.mod_lt _ (Nat.succ_pos _));have em:dd ds 8 / 2 % (((n:Nat):Int)+1)=(m:Int):=by
    show _=(((dd ds 8 / 2).toNat % (n+1):Nat):Int)
    rw[Int.natCast_emod,Int.toNat_of_nonneg (by omega)];rfl
   obtain⟨r3,q4',b1,b2,b3⟩:=A1 (Γ:=Γ) (ns:=ns) (ds:=ds) (names:=names) hS n m hn40 hm a1 a2 q4 o5 q6 o7 q9;have gm:Run (ev Γ (.bin .mod (.bin .fdv (.idx (.var 1) (.cst (.int 8))) (.cst (.int 2))) (.bin .add (.var 8) (.cst (.int 1))))) (mS ns ds names r2 q4 o5 q6 o7 (some (.loc,.int (n:Nat))) q9) (.loc,.int (m:Nat)) (mS ns ds names r2 q4 o5 q6 o7 (some (.loc,.int (n:Nat))) q9):=by
    rw[<-em];exact aF (aF (ge 8 (by decide)) aq trivial (mn ⟨by omega,by omega⟩)) (aF (ae rfl) aq trivial bH) trivial (aR (by omega))
   refine⟨r3,mS ns ds names r3 q4' o5 q6 o7 (some (.loc,.int (n:Nat))) q9,b1,b2,bY tc (fun _=>?_) (fun h=>by cases h)⟩;refine ax (kY (aI rfl) kW (kX aq) ⟨⟨.own,rfl,rfl⟩,trivial⟩ s1) bM (ax g8 aC ?_);exact cf (rs:=[(.loc,.int (n:Nat))]) (af (ae rfl) aj) trivial (dS (by omega)) rfl a3 (cf (rs:=[(.loc,.int (m:Nat))]) (af gm aj) trivial (dS (by omega)) rfl b3 fin)
 let n1:Nat:=(dd ds 1 % 31).toNat;have d1:=cA h0 1;have e1:dd ds 1 % 31=(n1:Int):=(Int.toNat_of_nonneg (by omega)).symm;obtain⟨ra,p4,p5,p6,c1,c2,c3⟩:=AY (ds:=ds) (ns:=ns) hc hd ht hS hn n1 (by omega);have g1:Run (ev Γ (.bin .mod (.idx (.var 1) (.cst (.int 1))) (.cst (.int 31)))) (mS ns ds names [] none none none none none none) (.loc,.int (n1:Nat)) (mS ns ds names [] none none none none none none):=by
  rw[<-e1];exact aF (ge 1 (by decide)) aq trivial (aR (by omega))
 have d2:=cA h0 2;have tc:Run (tst Γ (.cmp .eq (.bin .mod (.idx (.var 1) (.cst (.int 2))) (.cst (.int 2))) (.cst (.int 1)))) (mS ns ds names ra p4 p5 p6 none none none) (dd ds 2 % 2==1) (mS ns ds names ra p4 p5 p6 none none none):=b9 (aF (ge 2 (by decide)) aq trivial (aR (by omega))) aq trivial (dh rfl);cases hb:(dd ds 2 % 2==1) with
 |false =>
  rw[hb]at tc;obtain⟨rows,st',w1,w2,w3⟩:=wid ra p4 p5 p6 none (by omega) c2;exact⟨rows,w1,w2,aP rfl (.inr rfl) hst (ax (r:=(.own,.lst [])) (cc aj trivial aJ (Nat.zero_le _)) bM (cf (rs:=[(.loc,.int (n1:Nat))]) (st1:=mS ns ds names [] none none none none none none) (af g1 aj) trivial (dS (by omega)) rfl c3 (bY tc (fun h=>by cases h) fun _=>w3)))⟩
 |true =>
  rw[hb]at tc;let n2:Nat:=(dd ds 2 / 2 % 7).toNat;have e2:dd ds 2 / 2 % 7=(n2:Int):=(Int.toNat_of_nonneg (by omega)).symm;obtain⟨rb,q4,q6,q7,f1,f2,f3⟩:=AZ (Γ:=Γ) (ns:=ns) hS hn hdl h0 n2 (by omega) (by omega) c2 p4 p5 p6;have g2:Run (ev Γ (.bin .mod (.bin .fdv (.idx (.var 1) (.cst (.int 2))) (.cst (.int 2))) (.cst (.int 7)))) (mS ns ds names ra p4 p5 p6 none none none) (.loc,.int (n2:Nat)) (mS ns ds names ra p4 p5 p6 none none none):=by
   rw[<-e2];exact aF (aF (ge 2 (by decide)) aq trivial (mn ⟨by omega,by omega⟩)) aq trivial (aR (by omega))
  obtain⟨rows,st',w1,w2,w3⟩:=wid rb q4 p5 q6 q7 f1 f2;exact⟨rows,w1,w2,aP rfl (.inr rfl) hst (ax (r:=(.own,.lst [])) (cc aj trivial aJ (Nat.zero_le _)) bM (cf (rs:=[(.loc,.int (n1:Nat))]) (st1:=mS ns ds names [] none none none none none none) (af g1 aj) trivial (dS (by omega)) rfl c3
   (bY tc (fun _=>cf (rs:=[(.loc,.int (n2:Nat))]) (af g2 aj) trivial (dS (by omega)) rfl f3 w3) (fun h=>by cases h))))⟩
theorem sg{u:U}(h:eqD 50 u=true):bz .eq u u=some true:=by
 simp only[bz];rw[if_pos ⟨h,h⟩,gP 50 u h]
theorem xa{L L2:List Str}{z:Int}(hdl:ds.length=10)(h0:∀d∈ds,0<=d)(hcell:Γ "_law_cell" [.lst (ns.map .int),.int ((0:Nat):Int)]=some (.ok (.loc,.int z)))(hdrawn:Γ "_law_drawn" [.int z,.int ((10:Nat):Int)]=some (.ok (.own,.lst (ds.map .int))))
  (hnames:Γ "_law_names" [.lst (ns.map .int),.int ((1:Nat):Int),.int (1+dd ds 0 % 14)]=some (.ok (.own,.lst (names.map .str)))) (hmade:Γ "_law_made" [.lst (ns.map .int),.lst (ds.map .int),.lst (names.map .str)]=some (.ok (.loc,.tup (rows.map rwU))))
  (htrim:Γ "trimmed" [.tup (rows.map rwU)]=some (.ok (.loc,.tup (tr.map rwU)))) (hlearn:Γ "_law_learnt" [.tup (rows.map rwU)]=some (.ok (.own,.lst ((aH L).map .str)))) (htup:Γ "_law_tuples" [.tup (tr.map rwU)]=some (.ok (.loc,.bl true)))
  (hwit:Γ "_law_within" [.tup (tr.map rwU),.tup (rows.map rwU)]=some (.ok (.loc,.bl true))) (hlearn2:Γ "_law_learnt" [.tup (tr.map rwU)]=some (.ok (.own,.lst ((aH L2).map .str)))) (hp2:L2.Perm L)
  (hless:∀k,k<tr.length->∃L3:List Str,¬L3.Perm L/\Γ "_law_learnt" [.tup ((tr.take k++tr.drop (k+1)).map rwU)]=some (.ok (.own,.lst ((aH L3).map .str)))) (hheads:(tr.map (·.1)).Perm L) (hl64:L.length<64)
  (htrim0:Γ "trimmed" [.tup []]=some (.ok (.loc,.tup []))) (htrim2:Γ "trimmed" [.tup (tr.map rwU)]=some (.ok (.loc,.tup (tr.map rwU)))) :
  bW Γ qM [pf ns]=some (.ok (.loc,.bl true)):=by
 have hsz:(20000:Nat)<=sizeLine:=by decide
 have hst:TM.start [pf ns] 6=[some (.any,.lst (ns.map .int)),none,none,none,none,none]:=rfl;have htl:tr.length<64:=by have:=hheads.length_eq;rw[List.length_map]at this;omega
 let i0:Option (Kd×U):=some (.any,.lst (ns.map .int));let i1:Option (Kd×U):=some (.own,.lst (ds.map .int));let i2:Option (Kd×U):=some (.loc,.tup (rows.map rwU));let i3:Option (Kd×U):=some (.loc,.tup (tr.map rwU));let i4:Option (Kd×U):=some (.own,.lst ((aH L).map .str));let S:=fun(o5:Option (Kd×U))=>([i0,i1,i2,i3,i4,o5]:ag)
 have g1:Run (ev Γ (.call "_law_drawn" [.call "_law_cell" [.var 0,.cst (.int 0)],.cst (.int 10)])) [i0,none,none,none,none,none] (.own,.lst (ds.map .int)) [i0,none,none,none,none,none] :=
  bL (rs:=[(.loc,.int z),(.loc,.int ((10:Nat):Int))]) (af (bL (rs:=[(.any,.lst (ns.map .int)),(.loc,.int ((0:Nat):Int))]) (af (aL rfl) (af aq aj)) trivial hcell) (af aq aj)) trivial hdrawn
 have j0:atI (ds.map U.int) 0=some (.int (dd ds 0)):=bF (i:=0) (by omega);have g2:Run (ev Γ (.call "_law_made" [.var 0,.var 1,.call "_law_names" [.var 0,.cst (.int 1),.bin .add (.cst (.int 1)) (.bin .mod (.idx (.var 1) (.cst (.int 0))) (.cst (.int 14)))]])) [i0,i1,none,none,none,none] (.loc,.tup (rows.map rwU)) [i0,i1,none,none,none,none] :=
  bL (rs:=[(.any,.lst (ns.map .int)),(.bor 1,.lst (ds.map .int)),(.own,.lst (names.map .str))]) (af (aL rfl) (af (aI rfl) (af (bL (rs:=[(.any,.lst (ns.map .int)),(.loc,.int ((1:Nat):Int)),(.loc,.int (1+dd ds 0 % 14))]) (af (aL rfl) (af aq (af (aF aq (aF (aZ (aI rfl) aq ⟨⟨.own,rfl,rfl⟩,trivial⟩ (aD j0)) aq trivial (aR (by omega))) trivial bH) aj))) trivial hnames) aj))) ⟨⟨.own,rfl,rfl⟩,trivial⟩ hmade
 have t1:Run (tst Γ (.or [.not (.call "_law_tuples" [.var 3]),.not (.call "_law_within" [.var 3,.var 2]),.cmp .ne (.call "_law_learnt" [.var 3]) (.var 4)])) (S none) false (S none) :=
  zg (qF (ia (jP (b:=true) (af (ae rfl) aj) trivial htup rfl)) (qF (ia (jP (b:=true) (af (ae rfl) (af (ae rfl) aj)) trivial hwit rfl)) (uA (b9 (bL (af (ae rfl) aj) trivial hlearn2) (aI rfl) ⟨⟨.own,rfl,rfl⟩,trivial⟩ (by
   show bz .ne (.lst ((aH L2).map .str)) (.lst ((aH L).map .str))=some false;rw[c6 hp2];exact gQ (dU _ 49))))))
 let body:List TM.S:=[.ite (.cmp .eq (.call "_law_learnt" [.bin .add (.slc (.var 3) [] [.var 5]) (.slc (.var 3) [.bin .add (.var 5) (.cst (.int 1))] [])]) (.var 4))
    [.ret (.cst (.bl false))]
    []]
 obtain⟨st1,run1,_,o5,e⟩:=bZ (t:=false) (is:=[5]) (body:=execs Γ body) (rs:=[(.loc,.int ((tr.length:Nat):Int))]) (fun i:Nat=>(Kd.loc,U.int (0+(i:Int))))
  (fun d r st=>d++r=List.range tr.length/\∃o5:Option (Kd×U),st=S o5) (fun _ _ _ _=>trivial) (fun d i r st hIx=>by
   obtain⟨hdr,o5,e⟩:=hIx;subst e;have hi:i<tr.length:=List.mem_range.mp (by rw[<-hdr];simp);obtain⟨L3,h1,h2⟩:=hless i hi;let i5:Option (Kd×U):=some (.loc,.int (0+(i:Int)));have s1:iB (.loc,.tup (tr.map rwU)) none (some (0+(i:Int)))=some (.loc,.tup ((tr.take i).map rwU)):=by
    show some (Kd.loc,U.tup (cut (tr.map rwU) none (some (0+(i:Int)))))=_;rw[gv,Int.zero_add,uW i (by omega)]
   have s2:iB (.loc,.tup (tr.map rwU)) (some (0+(i:Int)+1)) none=some (.loc,.tup ((tr.drop (i+1)).map rwU)):=by
    show some (Kd.loc,U.tup (cut (tr.map rwU) (some (0+(i:Int)+1)) none))=_;rw[gv,show(0+(i:Int)+1)=((i+1:Nat):Int) by omega,n_ (i+1) (by omega)]
   have e1:opU .add (.loc,.tup ((tr.take i).map rwU)) (.loc,.tup ((tr.drop (i+1)).map rwU))=some (.loc,.tup ((tr.take i++tr.drop (i+1)).map rwU)):=by
    simp only[opU,oK];rw[if_pos (by rw[List.length_map,List.length_map,List.length_take,List.length_drop];omega),List.map_append];rfl
   have tc:Run (tst Γ (.cmp .eq (.call "_law_learnt" [.bin .add (.slc (.var 3) [] [.var 5]) (.slc (.var 3) [.bin .add (.var 5) (.cst (.int 1))] [])]) (.var 4))) (S i5) false (S i5) :=
    b9 (bL (af (aF (kY (ae rfl) kW (kX (ae rfl)) trivial s1) (kY (ae rfl) (kX (aF (ae rfl) aq trivial bH)) kW trivial s2) trivial e1) aj) trivial h2) (aI rfl) ⟨⟨.own,rfl,rfl⟩,trivial⟩ (by
     show bz .eq (.lst ((aH L3).map .str)) (.lst ((aH L).map .str))=some false;rw[nP,decide_eq_false fun h=>h1 (rn.mp h)])
   exact⟨S i5,S i5,bR aC,bY tc (fun h=>by cases h) (fun _=>aG),by rw[<-hdr];simp,_,rfl⟩) (List.range tr.length) [] (S none) ⟨rfl,none,rfl⟩
 subst e;have hh:=rY (Γ:=Γ) (st:=S o5) (rows:=tr) (i:=3) (by omega) rfl;have hsort:biU .sorted [(.own,.lst ((tr.map (·.1)).map .str))]=some (.own,.lst ((aH (tr.map (·.1))).map .str)):=by
  show tI .own ((tr.map (·.1)).map .str)=_;unfold tI;rw[eZ];show(if (tr.map (·.1)).length<64 then some (Kd.own,U.lst ((aH (tr.map (·.1))).map .str)) else none)=_;rw[if_pos (by rw[List.length_map];exact htl)]
 have t2:Run (tst Γ (.or [.cmp .ne (.bi .sorted [.comp 1 false .seq [.var 3] [] (.idx (.var 0) (.cst (.int 0)))]) (.var 4),.cmp .ne (.call "trimmed" [.tup []]) (.tup [])])) (S o5) false (S o5) :=
  zg (qF (b9 (dQ (af hh aj) trivial hsort) (aI rfl) ⟨⟨.own,rfl,rfl⟩,trivial⟩ (by
   show bz .ne (.lst ((aH (tr.map (·.1))).map .str)) (.lst ((aH L).map .str))=some false;rw[c6 hheads];exact gQ (dU _ 49))) (uA (b9 (bL (af (eN aj trivial aJ (Nat.zero_le _)) aj) trivial htrim0) (eN aj trivial aJ (Nat.zero_le _)) trivial (gQ rfl))))
 have gl:Run (bA Γ [.bi .len [.var 3]]) (S none) [(.loc,.int ((tr.length:Nat):Int))] (S none):=by
  have h:=dQ (Γ:=Γ) (st:=S none) (f:=.len) (es:=[.var 3]) (af (ae rfl) aj) trivial (iI (xs:=tr.map rwU));rw[List.length_map]at h;exact af h aj
 exact aP rfl (.inr rfl) hst (ax g1 bM (ax g2 aC (ax (bL (af (ae rfl) aj) trivial htrim) aC (ax (bL (af (ae rfl) aj) trivial hlearn) bM (bY t1 (fun h=>by cases h) fun _ =>
  cf (rs:=[(.loc,.int ((tr.length:Nat):Int))]) (st1:=S none) gl trivial (dS (by omega)) rfl run1 (bY t2 (fun h=>by cases h) fun _ =>
   cW (h_ (bL (af (ae rfl) aj) trivial htrim2) (ae rfl) trivial (sg (by simp only[eqD];exact fI _))) gr))))))
end
end K
namespace K
open PySem L2 TM W01 Od
section
variable{W:List Str}{rows:List Row}
theorem uX(hw:∀r∈rows,bj W r)(hW:W.length<64)(hr:rows.length<=100):∃sts:List (Str×Nat),LI rows sts []/\sts.length<64/\sem prog 4 "order" [.tup (rows.map rwU)]=some (.ok (.own,.lst (sts.map stN))):=by
 have h8:∀r∈rows,r.2.length<=8:=fun r h=>(hw r h).few;have hO:Once rows:=fun r h=>(hw r h).once;have hnm:∀r∈rows,r.1∈W:=fun r h=>(hw r h).word;have hG:xB (sem prog 1):=fun ps hl=>by
  obtain⟨ks,a,b⟩:=mG (Γ:=sem prog 0) hl;exact⟨ks,a,(aQ (show Has prog "gathered" dW from rfl) _).trans b⟩
 have hP:xC (sem prog 2) rows:=by
  obtain⟨ks,a,b⟩:=pJ hG hO h8 hr;exact⟨ks,a,(aQ (show Has prog "places_that_tell" bw from rfl) _).trans b⟩
 have hN:uR (sem prog 2) rows:=fun R K0 vs hR=>by
  obtain⟨st,a,b⟩:=kf (Γ:=sem prog 1) hnm hW hR (K0:=K0) (vs:=vs);exact⟨st,a,(aQ (show Has prog "new_steps" c_ from rfl) _).trans b⟩
 obtain⟨sts,fnd,s1,s2,s3,s4⟩:=fg hO hr hP hN;have s5:sem prog 3 "steps_in_rounds" [.tup (rows.map rwU)]=some (.ok (.own,.lst (ff fnd))):=(aQ (show Has prog "steps_in_rounds" bG from rfl) _).trans s4;have hnd:=eQ s1.ok .nil;rw[List.nil_append]at hnd;have hsl:sts.length<64:=by
  have:=jQ hnd (L:=W) fun x hx=>by
   obtain⟨r,a,b⟩:=List.mem_map.mp (gx s1.ok x hx);exact b▸hnm r a
  rw[List.length_map]at this;omega
 exact⟨sts,s1,hsl,(aQ (show Has prog "order" gy from rfl) _).trans (se s5 s2 (by omega))⟩
theorem mH(hw:∀r∈rows,bj W r)(hW:W.length<64)(hr:rows.length<=100):∃(L:List Str) (tr:List Row),Trm rows L tr/\sem prog 5 "trimmed" [.tup (rows.map rwU)]=some (.ok (.loc,.tup (tr.map rwU))):=by
 obtain⟨sts,a,b,c⟩:=uX hw hW hr;exact⟨_,_,zv a,(aQ (show Has prog "trimmed" e_ from rfl) _).trans (n9 hr a b c)⟩
theorem jX(hw:∀r∈rows,bj W r)(hW:W.length<64)(hr:rows.length<=100):∃L:List Str,L.Nodup/\Snd rows L/\b7 rows (·∈L)/\sem prog 5 "_law_learnt" [.tup (rows.map rwU)]=some (.ok (.own,.lst ((aH L).map .str))):=by
 obtain⟨L,a,b,c,d⟩:=pL (Γ:=sem prog 4) (fun r h=>(hw r h).few) hr (fun r h=>(hw r h).word) hW;exact⟨L,a,b,c,(aQ (show Has prog "_law_learnt" cM from rfl) _).trans d⟩
end
theorem pure(ns:List Int)(hns:ns.length<=63):sem prog 6 "law" [pf ns]=some (.ok (.loc,.bl true)):=by
 have hmix:Has prog "_law_mix" rS:=rfl;have hcl:Has prog "_law_cell" qI:=rfl;have hdr:Has prog "_law_drawn" mr:=rfl;have cellO:∀d,jO (sem prog (d+2)):=fun d=>TM.zk hmix hcl;have drawnO:∀d,gu (sem prog (d+2)):=fun d=>TM.drawnOk hmix hdr;have hS:cY (sem prog 4):=fun rows row h1 h2 h3=>by
  obtain⟨b,hb⟩:=pO (Γ:=sem prog 3) h1 h2 h3;exact⟨b,(aQ (show Has prog "_law_stands" cJ from rfl) _).trans hb⟩
 obtain⟨z,hz⟩:=cellO 3 ns 0 (by omega);obtain⟨ds,d1,d2,d3⟩:=drawnO 3 z 10 (by omega);have hd0:=cA d2 0;let m:Nat:=1+(dd ds 0 % 14).toNat;have hm:((m:Nat):Int)=1+dd ds 0 % 14:=by show((1+(dd ds 0 % 14).toNat:Nat):Int)=_;omega
 obtain⟨names,n1,n2,n3,n4⟩:=rW (Γ:=sem prog 4) (cellO 2) (drawnO 2) (TM.zl (d:=3) wL (show Has prog "_law_name" (mw AQ) from rfl)) (ns:=ns) (b:=1) (m:=m) (by omega) (by omega);have hnames:sem prog 5 "_law_names" [.lst (ns.map .int),.int ((1:Nat):Int),.int (1+dd ds 0 % 14)]=some (.ok (.own,.lst (names.map .str))):=by
  rw[<-hm];exact(aQ (show Has prog "_law_names" fNames from rfl) _).trans n4
 have hn0:0<names.length:=by omega
 obtain⟨rows,r1,r2,r3⟩:=pP (Γ:=sem prog 4) (ns:=ns) (cellO 2) (drawnO 2) (TM.zm (d:=3) (show Has prog "_law_told" ie from rfl)) hS hn0 d1 d2;have hmade:sem prog 5 "_law_made" [.lst (ns.map .int),.lst (ds.map .int),.lst (names.map .str)]=some (.ok (.loc,.tup (rows.map rwU))):=(aQ (show Has prog "_law_made" dX from rfl) _).trans r3;have hW:(names++bb).length<64:=by
  rw[List.length_append,show bb.length=40 by simp[bb]];omega
 obtain⟨L,tr,t1,t2⟩:=mH r2 hW r1;have htr:∀r∈tr,bj (names++bb) r:=fun r h=>r2 r (t1.sub.subset h);have htl:tr.length<=100:=Nat.le_trans t1.sub.length_le r1;obtain⟨L1,a1,a2,a3,a4⟩:=jX r2 hW r1;obtain⟨L2,b1,b2,b3,b4⟩:=jX htr hW htl;obtain⟨L',tr2,u1,u2⟩:=mH htr hW htl;have e2:=t1.again u1;subst e2;obtain⟨L0,tr0,v1,v2⟩:=mH (W:=names++bb) (rows:=[]) (fun r h=>by cases h) hW (by simp);have e0:tr0=[]:=List.sublist_nil.mp v1.sub;subst e0;have p1:L.Perm L1:=same t1.nd a1 (Snd.jW t1.sub.subset t1.snd) a2 t1.clo a3;have p2:L2.Perm L:=t1.perm b1 b2 b3;have hl1:L1.length<64:=by
  have:=jQ a1 (L:=names++bb) fun x hx=>a2 (·∈names++bb) (fun r h _=>(r2 r h).word) x hx;omega
 refine(aQ (show Has prog "law" qM from rfl) _).trans (xa d1 d2 hz d3 hnames hmade t2 a4 ((aQ (show Has prog "_law_tuples" cO from rfl) _).trans pN) ((aQ (show Has prog "_law_within" cN from rfl) _).trans (pM t1.sub r1)) b4 (p2.trans p1) (fun k hk=>?_) (t1.heads.trans p1) hl1 v2 u2);have hsub:∀r∈tr2.take k++tr2.drop (k+1),r∈tr2:=fun r h=>by
  rcases List.mem_append.mp h with h|h
  ·exact List.mem_of_mem_take h
  ·exact List.mem_of_mem_drop h
 obtain⟨L3,c1,c2,c3,c4⟩:=jX (rows:=tr2.take k++tr2.drop (k+1)) (fun r h=>htr r (hsub r h)) hW (by rw[List.length_append,List.length_take,List.length_drop];omega);exact⟨L3,fun hp=>t1.less hk c2 (hp.trans p1.symm),c4⟩
end K
namespace K
open PySem L2 TM PySem.W PyProof.Rows
noncomputable def m0:Value:=.str "primer.books" 187
noncomputable def m1:Value:=.str "primer.learning" 199
noncomputable def m2:Value:=.str "primer.trimming" 234
noncomputable def m3:Value:=.str "law_primer_k64_trimmed" 242
noncomputable def ml:Me:=⟨qM,21,["_law_script","_law_drawn_here","_law_book","_law_found","_law_known","_law_k"],126,125,m3,co "law" 348 148 1 122 123 .none .none (.ref 124) 351 352 181⟩
noncomputable def ms:List Me:=[⟨dW,1,["pairs","found","key","value"],21,20,m0,co "gathered" 189 2 1 15 16 (.ref 17) (.ref 18) (.ref 19) 196 197 181⟩,
 ⟨bw,3,["book","pairs","place","row"],26,25,m1,co "places_that_tell" 201 10 1 22 23 .none .none (.ref 24) 204 205 181⟩,
 ⟨c_,4,["book","places","known","steps","place","word"],33,32,m1,co "new_steps" 207 15 3 27 28 (.ref 29) (.ref 30) (.ref 31) 216 217 181⟩,
 ⟨bG,5,["book","tellers","missing","known","found","ready","steps","word","place","teller"],38,37,m1,co "steps_in_rounds" 219 22 1 34 35 .none .none (.ref 36) 222 223 181⟩,
 ⟨gy,6,["book","found","steps"],45,44,m1,co "order" 225 40 1 39 40 (.ref 41) (.ref 42) (.ref 43) 231 232 181⟩,
 ⟨e_,8,["book","places"],50,49,m2,co "trimmed" 236 46 1 46 47 .none .none (.ref 48) 239 240 181⟩,
 ⟨k_,10,["_law_cell_here","_law_k","_law_by"],57,56,m3,co "_law_mix" 244 50 2 51 52 (.ref 53) (.ref 54) (.ref 55) 250 251 181⟩,
 ⟨jT,11,["_law_script","_law_k","_law_seed"],64,63,m3,co "_law_cell" 253 53 2 58 59 (.ref 60) (.ref 61) (.ref 62) 259 260 181⟩,
 ⟨ij,12,["_law_cell_here","_law_many","_law_found","_law_left","_law_k"],71,70,m3,co "_law_drawn" 262 60 2 65 66 (.ref 67) (.ref 68) (.ref 69) 270 271 181⟩,
 ⟨jU,13,["_law_drawn_here","_law_names_here","_law_letters","_law_name_here","_law_stem","_law_spare"],76,75,m3,co "_law_name" 273 70 2 72 73 .none .none (.ref 74) 276 277 181⟩,
 ⟨il,14,["_law_script","_law_base","_law_many","_law_names_here","_law_k"],83,82,m3,co "_law_names" 279 81 3 77 78 (.ref 79) (.ref 80) (.ref 81) 287 288 181⟩,
 ⟨jV,15,["_law_drawn_here","_law_names_here","_law_top","_law_told_here","_law_k","_law_one"],90,89,m3,co "_law_told" 290 86 2 84 85 (.ref 86) (.ref 87) (.ref 88) 299 300 181⟩,
 ⟨cJ,16,["_law_rows","_law_row"],95,94,m3,co "_law_stands" 302 96 2 91 92 .none .none (.ref 93) 305 306 181⟩,
 ⟨dX,17,["_law_script","_law_drawn_here","_law_names_here","_law_rows","_law_k","_law_some","_law_row","_law_at","_law_many","_law_told_here"],102,101,m3,co "_law_made" 308 98 3 96 97 (.ref 98) (.ref 99) (.ref 100) 321 322 181⟩,
 ⟨cM,18,["_law_rows","_law_known","_law_grown","_law_word","_law_told_here"],107,106,m3,co "_law_learnt" 324 125 1 103 104 .none .none (.ref 105) 327 328 181⟩,
 ⟨cN,19,["_law_some","_law_rows","_law_at","_law_row"],114,113,m3,co "_law_within" 330 135 2 108 109 (.ref 110) (.ref 111) (.ref 112) 337 338 181⟩,
 ⟨cO,20,["_law_book","_law_row"],121,120,m3,co "_law_tuples" 340 141 1 115 116 (.ref 117) (.ref 118) (.ref 119) 345 346 181⟩,
 ml]
noncomputable def gg(P:Params):Obj:=⟨.type "dict",none,.dict #[ge P "__name__" 165 (.str "law_primer_k64_trimmed" 242),ge P "__doc__" 166 .none,ge P "__package__" 167 .none,ge P "__loader__" 168 (.builtin "__main__.__loader__#opaque"),ge P "__spec__" 169 .none,ge P "__annotations__" 170 (.ref 6),ge P "__builtins__" 171 (.ref 4),ge P "__file__" 173 (.str "/claim/cut.py" 172),ge P "__cached__" 174 .none,ge P "gathered" 198 (.ref 21),ge P "places_that_tell" 206 (.ref 26),ge P "new_steps" 218 (.ref 33),ge P "steps_in_rounds" 224 (.ref 38),ge P "order" 233 (.ref 45),ge P "trimmed" 241 (.ref 50),ge P "_law_mix" 252 (.ref 57),ge P "_law_cell" 261 (.ref 64),ge P "_law_drawn" 272 (.ref 71),ge P "_law_name" 278 (.ref 76),ge P "_law_names" 289 (.ref 83),ge P "_law_told" 301 (.ref 90),ge P "_law_stands" 307 (.ref 95),ge P "_law_made" 323 (.ref 102),ge P "_law_learnt" 329 (.ref 107),ge P "_law_within" 339 (.ref 114),ge P "_law_tuples" 347 (.ref 121),ge P "law" 353 (.ref 126)] 27,#[]⟩
noncomputable def vw:Program:=view PySem.Challenge.pw_primer_k64_trimmed [1,3,4,5,6,8,10,11,12,13,14,15,16,17,18,19,20,21]
noncomputable def hk:Hook:=kHook (fun P=>frg top (gg P) ms) (adr ms) fun P=>qD top (gg P) ms
theorem hl:LeftO PySem.Challenge.rw_primer_k64_trimmed.row.prog vw [] (fun s=>xlAt vw [] s&&recOk (RowW.records PySem.Challenge.rw_primer_k64_trimmed.row.toRowW) s) hk.obs hk.val 4000:=fun w=>by kernel_rfl
theorem hs:PySem.Challenge.rw_primer_k64_trimmed.wellSaid=true:=by kernel_rfl
theorem ho(P:Params):gOk ck top (frg top (gg P) ms) ms=true:=by kernel_rfl
end K
open PySem PySem.W PyProof.Rows K
theorem PySem.Challenge.cw_primer_k64_trimmed_holds : PySem.Challenge.rw_primer_k64_trimmed.Holds := by
 w_on
 refine holds_law hs fun z => ?_;refine holds_open hl hk.of hk.keeps (fun s e => xl_of s (Bool.and_eq_true_iff.mp e).1) XL.keeps rfl rfl rfl (fun s e => recFacts_of (Bool.and_eq_true_iff.mp e).2) rfl z (by kernel_rfl) ⟨rfl, rfl, rfl, rfl, rfl, by decide +kernel⟩ ?hw ?hc
 (case hw => w_witness2)
 exact TM.walk2 (l := PySem.Challenge.rw_primer_k64_trimmed) (Pg := prog) (ck := ck) (dp := 5) (x := "_law_script") (m := ml) rfl rfl ⟨rfl, by decide, by decide, rfl⟩ rfl (by decide +kernel) rfl (by simp [ms]) rfl rfl ho K.pure
