import PyProof.Rows.All
import Wide.All
import OpenK.AllK
import Wide.FinOn
import Lean
import PyProof.EqAt
import PyProof.EqKinds
import PyProof.TupleCall
import PyProof.StrLawsChain
import PyProof.StrLawsFirst
import PyProof.Rows.StrNews2
import OpenK.AllK
import PyProof.DictItems
import PySem.Challenge.RW_primer_k12_an_order
set_option Elab.async false
set_option linter.all false
set_option maxRecDepth 100000
set_option maxHeartbeats 4000000
set_option genInjectivity false
set_option genSizeOf false
namespace L2
open PySem PySem.Spec PyProof.Rows
noncomputable abbrev Key:=Sum Int Str
noncomputable def jL:Key→Value→Bool
 |.inl k,v=>Value.isInt k v
 |.inr x,v=>Value.isStrOf x v
noncomputable def AG (w:World):Key→Int
 |.inl k=>hashInt k
 |.inr x=>hashStr w x
theorem bb:∀ {k:Key}{v:Value},jL k v=true→(∃ i t,k=Sum.inl i∧v=Value.int i t)∨(∃ x t,k=Sum.inr x∧v=Value.str x t)
 |.inl i,v,h=>by
  obtain ⟨t,e⟩:=Value.isInt_shape (k:=i) (v:=v) h
  exact .inl ⟨i,t,rfl,e⟩
 |.inr x,v,h=>by
  obtain ⟨t,e⟩:=Value.isStrOf_shape (x:=x) (v:=v) h
  exact .inr ⟨x,t,rfl,e⟩
theorem qE (i:Int) (t:Tok):jL (.inl i) (.int i t)=true:=by simp [jL,Value.isInt]
theorem qF (x:Str) (t:Tok):jL (.inr x) (.str x t)=true:=by simp [jL,Value.isStrOf]
theorem xq (a b:Int):decide ((Sum.inl a:Key)=Sum.inl b)=(a==b):=by
 by_cases e:a=b
 ·subst e;simp
 ·have h:¬ (Sum.inl a:Key)=Sum.inl b:=fun q=>e (Sum.inl.inj q)
  rw [decide_eq_false h]
  exact (beq_eq_false_iff_ne.mpr e).symm
theorem xr (a b:Str):decide ((Sum.inr a:Key)=Sum.inr b)=decide (a=b):=by
 by_cases e:a=b
 ·subst e;simp
 ·have h:¬ (Sum.inr a:Key)=Sum.inr b:=fun q=>e (Sum.inr.inj q)
  rw [decide_eq_false h,decide_eq_false e]
theorem xt (a:Int) (b:Str):decide ((Sum.inl a:Key)=Sum.inr b)=false:=decide_eq_false (fun q=>nomatch q)
theorem xu (a:Str) (b:Int):decide ((Sum.inr a:Key)=Sum.inl b)=false:=decide_eq_false (fun q=>nomatch q)
noncomputable def aM (prog:Program) (w:World):PySem.KeyKind prog w Key where
 is:=jL
 hash:=AG w
 inj:=fun v a b ha hb=>by
  rcases bb ha with ⟨i,t,rfl,rfl⟩|⟨x,t,rfl,rfl⟩
  ·rcases bb hb with ⟨j,u,rfl,e⟩|⟨y,u,rfl,e⟩
   ·injection e with e1 _;rw [e1]
   ·exact nomatch e
  ·rcases bb hb with ⟨j,u,rfl,e⟩|⟨y,u,rfl,e⟩
   ·exact nomatch e
   ·injection e with e1 _;rw [e1]
 byValue:=fun k v h=>by
  rcases bb h with ⟨i,t,rfl,rfl⟩|⟨x,t,rfl,rfl⟩ <;> rfl
 pyHash:=fun hv h=>by
  rcases bb hv with ⟨i,t,rfl,rfl⟩|⟨x,t,rfl,rfl⟩
  ·exact wpAny_pyHash_int h
  ·exact wpAny_pyHash_str h
 eqBool:=fun hu hv h=>by
  rcases bb hu with ⟨i,t,rfl,rfl⟩|⟨x,t,rfl,rfl⟩
  ·rcases bb hv with ⟨j,u,rfl,rfl⟩|⟨y,u,rfl,rfl⟩
   ·rw [xq] at h;exact wpAny_eqBool_int h
   ·rw [xt] at h;exact SeqAt.EqAt.int_str i t y u _ _ _ _ h
  ·rcases bb hv with ⟨j,u,rfl,rfl⟩|⟨y,u,rfl,rfl⟩
   ·rw [xu] at h;exact SeqAt.EqAt.str_int x t j u _ _ _ _ h
   ·rw [xr] at h;exact wpAny_eqBool_str h
 «strs»:=fun k x t v h=>by
  rcases bb h with ⟨i,u,rfl,e⟩|⟨y,u,rfl,e⟩
  ·exact nomatch e
  ·injection e with e1 _
   subst e1
   cases v <;> rfl
theorem mB (prog:Program) (w:World) (i:Int) (t:Tok):(aM prog w).is (.inl i) (.int i t)=true:=qE i t
theorem mC (prog:Program) (w:World) (x:Str) (t:Tok):(aM prog w).is (.inr x) (.str x t)=true:=qF x t
end L2
namespace L2
open PySem PySem.Spec PyProof.Rows
inductive V where
 |non|bl (b:Bool)|int (i:Int)|str (x:Str)|byt (b:Array UInt8)|flt (b:UInt64)|ref (a:Addr)|ty (n:String)
 deriving DecidableEq
noncomputable def RelV:V→Value→Prop
 |.non,u=>u=Value.none
 |.bl b,u=>u=Value.bool b
 |.int i,u=>∃ t,u=Value.int i t
 |.str x,u=>∃ t,u=Value.str x t
 |.byt b,u=>∃ t,u=Value.bytes b t
 |.flt b,u=>∃ t,u=Value.float b t
 |.ref a,u=>u=Value.ref a
 |.ty n,u=>u=Value.type n
noncomputable abbrev Vals:List V→List Value→Prop:=Paired RelV
theorem Vals.length {xs:List V}{us:List Value} (r:Vals xs us):xs.length=us.length:=Paired.length r
theorem Vals.get:∀ {xs:List V}{us:List Value}{i:Nat}{x:V},Vals xs us→xs[i]?=some x→∃ u,us[i]?=some u∧RelV x u
 |_,_,_,_,.nil,e=>by simp at e
 |_,_,0,_,.cons r _,e=>by simp at e;subst e;exact ⟨_,rfl,r⟩
 |_,_,i+1,x,.cons _ t,e=>by
  obtain ⟨u,h1,h2⟩:=Vals.get (i:=i) (x:=x) t (by simpa using e)
  exact ⟨u,by simpa using h1,h2⟩
theorem Vals.set {x:V}{u:Value} (r:RelV x u):∀ {xs:List V}{us:List Value} (i:Nat),Vals xs us→Vals (xs.set i x) (us.set i u)
 |_,_,_,.nil=>.nil
 |_,_,0,.cons _ t=>.cons r t
 |_,_,i+1,.cons q t=>.cons q (Vals.set r i t)
theorem Vals.append:∀ {xs ys:List V}{us ws:List Value},Vals xs us→Vals ys ws→Vals (xs++ys) (us++ws)
 |_,_,_,_,.nil,s=>s
 |_,_,_,_,.cons r t,s=>.cons r (Vals.append t s)
theorem Vals.take:∀ {xs:List V}{us:List Value} (n:Nat),Vals xs us→Vals (xs.take n) (us.take n)
 |_,_,0,_=>.nil
 |_,_,_+1,.nil=>.nil
 |_,_,n+1,.cons r t=>.cons r (Vals.take n t)
theorem Vals.drop:∀ {xs:List V}{us:List Value} (n:Nat),Vals xs us→Vals (xs.drop n) (us.drop n)
 |_,_,0,r=>r
 |_,_,_+1,.nil=>.nil
 |_,_,n+1,.cons _ t=>Vals.drop n t
noncomputable def gU:Option V→Option Value→Prop
 |some v,some u=>RelV v u
 |none,none=>True
 |_,_=>False
noncomputable def KV {κ:Type}:List (κ×V)→List (κ×Value)→Prop:=Paired fun (p:κ×V) (q:κ×Value)=>p.1=q.1∧RelV p.2 q.2
noncomputable def kV:Key→V
 |.inl i=>.int i
 |.inr x=>.str x
inductive HO where
 |lst (xs:List V)
 |tup (xs:List V)
 |dK (kvs:List (Key×V))|dT (kvs:List (List Key×V))
 |set (S:Int→Bool) (n:Nat)
 |ins (C dx:Addr) (fs:List (Str×V))
 |own (x:Addr)
 |xd (fs:List (Str×V))
 |met (f x:Addr)
 |rng (lo hi:Int)
 |frz (o:Obj) (u:HO)
 |tbl (ps:Array Value)
 |ext (φ:Heap→Prop)
noncomputable abbrev Hp:=Addr→Option HO
noncomputable def upd (H:Hp) (a:Addr) (o:HO):Hp:=fun b=>if b=a then some o else H b
theorem aq {H:Hp}{a:Addr}{o:HO}:upd H a o a=some o:=by unfold upd;rw [if_pos rfl]
theorem ai {H:Hp}{a b:Addr}{o:HO} (h:b≠a):upd H a o b=H b:=by unfold upd;rw [if_neg h]
theorem rP {H:Hp}{a b:Addr}{o u:HO} (h:H a=some o) (h':H b=some u) (d:o≠u):a≠b:=by
 intro e;subst e;rw [h] at h';exact d (Option.some.inj h')
theorem bg {H:Hp}{a b:Addr}{o:HO} (h:H a=some o) (h':H b=none):a≠b:=by
 intro e;subst e;rw [h] at h';cases h'
section
variable (P : Program) (w : World)
noncomputable def bG (H:Hp) (h:Heap) (a:Addr):HO→Prop
 |.lst xs=>xs.length≤sizeLine∧∃ (its:List Value) (n:Nat),Vals xs its∧h.get? a=some { cls:=.type "list",data:=.seq its.toArray n }
 |.tup xs=>xs.length≤sizeLine∧∃ its:List Value,Vals xs its∧IsTup h a its.toArray
 |.dK kvs=>kvs.length≤sizeLine∧(a==sysModules)=false∧∃ vs,KV kvs vs∧h.DictOf (aM P w) a vs
 |.dT kvs=>kvs.length≤sizeLine∧(a==sysModules)=false∧∃ xs:List (List Key×Addr×Value),
   Paired (fun (p:List Key×V) (q:List Key×Addr×Value)=>p.1=q.1∧H q.2.1=some (.tup (p.1.map kV))∧RelV p.2 q.2.2) kvs xs ∧
   ∃ o es ep,h.get? a=some o∧o.ExactDict∧o.data=.dict es ep∧es.toList=xs.map (entryOfKey (tupleKind (aM P w)))∧(xs.map (·.1)).Nodup
 |.set S n=>h.SetOf (intKind P w) a S n
 |.ins C dx fs=>H dx=some (.own a)∧fs.length≤1000∧dx≠a∧h.get? a=some (PySem.W.instObj C dx) ∧
   ∃ mA,h.Ns1 dx mA∧(∀ f,gU (fs.lookup f) (mA f))∧PySem.Within mA (fs.map (·.1))
 |.own _=>∃ o,h.get? a=some o
 |.xd fs=>∃ mA,h.Ns1 a mA∧∀ f,gU (fs.lookup f) (mA f)
 |.rng lo hi=>∃ t u v,h.get? a=some { cls:=.type "range",data:=.fields #[.int lo t,.int hi u,.int 1 v] }
 |.frz o u=>h.get? a=some o∧bG H h a u
 |.tbl ps=>h.get? a=some { cls:=.none,data:=.fields ps }
 |.met f x=>h.get? a=some (PySem.W.methodObj (.ref f) (.ref x))
 |.ext φ=>φ h∧(∃ o,h.get? a=some o)∧∀ h1 h2:Heap,φ h1→(∀ o,h1.get? a=some o→h2.get? a=some o)→φ h2
noncomputable def HOk (H:Hp) (h:Heap):Prop:=∀ a o,H a=some o→bG P w H h a o
end
section
variable {P : Program} {w : World} {H H' : Hp} {h h' : Heap} {a : Addr} {o : HO}
theorem bG.lt (x:bG P w H h a o):a<h.objs.size:=by
 cases o with
 |lst xs=>obtain ⟨_,_,_,_,e⟩:=x;exact Heap.lt_size e
 |tup xs=>obtain ⟨_,_,_,p⟩:=x;exact p.lt
 |dK kvs=>obtain ⟨_,_,_,_,o,_,_,e,_⟩:=x;exact Heap.lt_size e
 |dT kvs=>obtain ⟨_,_,_,_,o,_,_,e,_⟩:=x;exact Heap.lt_size e
 |set S n=>obtain ⟨o,_,_,_,e,_⟩:=x;exact Heap.lt_size e
 |ins C dx fs=>obtain ⟨_,_,_,e,_⟩:=x;exact Heap.lt_size e
 |own y=>obtain ⟨_,e⟩:=x;exact Heap.lt_size e
 |xd fs=>obtain ⟨_,⟨_,_,_,e,_⟩,_⟩:=x;exact Heap.lt_size e
 |rng lo hi=>obtain ⟨_,_,_,e⟩:=x;exact Heap.lt_size e
 |frz ob u=>obtain ⟨e,_⟩:=x;exact Heap.lt_size e
 |tbl ps=>exact Heap.lt_size (show h.get? a=some _ from x)
 |met f y=>exact Heap.lt_size (show h.get? a=some _ from x)
 |ext φ=>obtain ⟨_,⟨_,e⟩,_⟩:=x;exact Heap.lt_size e
theorem Paired.xv {α β:Type}{F G:α→β→Prop}:∀ {l₁:List α}{l₂:List β},Paired F l₁ l₂→(∀ a b,F a b→G a b)→Paired G l₁ l₂
 |_,_,.nil,_=>.nil
 |_,_,.cons r t,f=>.cons (f _ _ r) (Paired.xv t f)
theorem bG.kH (x:bG P w H h a o) (k:∀ b u,(b=a∨H b=some (.own a))→h.get? b=some u→h'.get? b=some u)
  (ho:∀ b,H b=some (.own a)→H' b=some (.own a)) (ht:∀ b xs,H b=some (.tup xs)→H' b=some (.tup xs)):bG P w H' h' a o:=by
 induction o with
 |lst xs=>obtain ⟨z,its,n,r,e⟩:=x;exact ⟨z,its,n,r,k _ _ (.inl rfl) e⟩
 |tup xs=>obtain ⟨z,its,r,ob,e,c⟩:=x;exact ⟨z,its,r,ob,k _ _ (.inl rfl) e,c⟩
 |dK kvs=>obtain ⟨z,y,vs,r,ob,es,ep,e,c⟩:=x;exact ⟨z,y,vs,r,ob,es,ep,k _ _ (.inl rfl) e,c⟩
 |dT kvs =>
  obtain ⟨z,y,xs,r,ob,es,ep,e,c⟩:=x
  exact ⟨z,y,xs,Paired.xv r fun p q z=>⟨z.1,ht _ _ z.2.1,z.2.2⟩,ob,es,ep,k _ _ (.inl rfl) e,c⟩
 |set S n=>obtain ⟨ob,es,ep,t,e,c⟩:=x;exact ⟨ob,es,ep,t,k _ _ (.inl rfl) e,c⟩
 |ins C dx fs =>
  obtain ⟨d,z,ne,e,mA,⟨od,es,ep,e2,c⟩,r⟩:=x
  exact ⟨ho _ d,z,ne,k _ _ (.inl rfl) e,mA,⟨od,es,ep,k _ _ (.inr d) e2,c⟩,r⟩
 |own y=>obtain ⟨ob,e⟩:=x;exact ⟨ob,k _ _ (.inl rfl) e⟩
 |xd fs=>obtain ⟨mA,⟨od,es,ep,e,c⟩,r⟩:=x;exact ⟨mA,⟨od,es,ep,k _ _ (.inl rfl) e,c⟩,r⟩
 |rng lo hi=>obtain ⟨t,u,v,e⟩:=x;exact ⟨t,u,v,k _ _ (.inl rfl) e⟩
 |frz ob u ih=>obtain ⟨e,q⟩:=x;exact ⟨k _ _ (.inl rfl) e,ih q⟩
 |tbl ps =>
  have e:h.get? a=some { cls:=.none,data:=.fields ps }:=x
  show h'.get? a=some { cls:=.none,data:=.fields ps }
  exact k a _ (.inl rfl) e
 |met f y =>
  have e:h.get? a=some (PySem.W.methodObj (.ref f) (.ref y)):=x
  show h'.get? a=some (PySem.W.methodObj (.ref f) (.ref y))
  exact k a _ (.inl rfl) e
 |ext φ=>obtain ⟨p,⟨o,e⟩,st⟩:=x;exact ⟨st _ _ p fun o q=>k _ _ (.inl rfl) q,⟨o,k _ _ (.inl rfl) e⟩,st⟩
theorem HOk.lt (x:HOk P w H h) (e:H a=some o):a<h.objs.size:=(x a o e).lt
theorem HOk.fresh (x:HOk P w H h) (e:h.objs.size≤a):H a=none:=by
 cases q:H a with
 |none=>rfl
 |some u=>exact absurd (Nat.lt_of_lt_of_le (x.lt q) e) (Nat.lt_irrefl _)
theorem HOk.kept (x:HOk P w H h) (k:∀ b u,h.get? b=some u→h'.get? b=some u):HOk P w H h':=fun a o e =>
 (x a o e).kH (fun b u _ q=>k b u q) (fun _ q=>q) fun _ _ q=>q
theorem HOk.laid (x:HOk P w H h) (k:∀ b u,h.get? b=some u→h'.get? b=some u) (hp:h.objs.size≤a) (new:bG P w (upd H a o) h' a o):HOk P w (upd H a o) h':=fun b u e=>by
 have hn:=x.fresh hp
 by_cases hb:b=a
 ·subst hb;rw [aq] at e;cases e;exact new
 ·rw [ai hb] at e
  exact (x b u e).kH (fun c v _ q=>k c v q) (fun c q=>by rw [ai (bg q hn)];exact q) fun c xs q=>by rw [ai (bg q hn)];exact q
end
noncomputable def Rd (H:Hp) (a:Addr) (u:HO):Prop:=H a=some u∨∃ o,H a=some (.frz o u)
theorem Rd.ok {P:Program}{w:World}{H:Hp}{h:Heap}{a:Addr}{u:HO} (r:Rd H a u) (x:HOk P w H h):bG P w H h a u:=by
 rcases r with r|⟨o,r⟩
 ·exact x a u r
 ·obtain ⟨_,q⟩:=x a _ r
  exact q
noncomputable def Mut:Option HO→Prop
 |some (.lst _)=>True
 |some (.dK _)=>True
 |some (.dT _)=>True
 |some (.set _ _)=>True
 |some (.ins _ _ _)=>True
 |some (.ext _)=>True
 |_=>False
section
variable {P : Program} {w : World} {H : Hp} {h h' : Heap} {x e : Addr} {o' : HO}
theorem HOk.write (ok:HOk P w H h) (mu:Mut (H x)) (he:e=x∨H e=some (.own x)) (k:∀ b u,b≠e→h.get? b=some u→h'.get? b=some u) (heo:∃ u,h'.get? e=some u)
  (new:bG P w (upd H x o') h' x o'):HOk P w (upd H x o') h':=fun b u q=>by
 have nown:∀ c y,H c=some (.own y)→c≠x:=fun c y r z=>by subst z;rw [r] at mu;exact mu
 have ntup:∀ c xs,H c=some (.tup xs)→c≠x:=fun c xs r z=>by subst z;rw [r] at mu;exact mu
 by_cases hb:b=x
 ·subst hb;rw [aq] at q;cases q;exact new
 ·rw [ai hb] at q
  by_cases hbe:b=e
  ·have q':H b=some (.own x):=by
    rcases he with z|z
    ·exact absurd (hbe.trans z) hb
    ·rw [hbe];exact z
   rw [q] at q';cases q'
   obtain ⟨v,hv⟩:=heo
   exact ⟨v,by rw [hbe];exact hv⟩
  ·refine (ok b u q).kH (fun c v hc r=>k c v ?_ r) (fun c r=>by rw [ai (nown c b r)];exact r) fun c xs r=>by rw [ai (ntup c xs r)];exact r
   rcases hc with rfl|hc
   ·exact hbe
   ·rintro rfl
    rcases he with z|z
    ·exact nown c b hc z
    ·rw [hc] at z;cases z;exact hb rfl
end
structure Un (fs ex:List Addr) (H H':Hp) (h h':Heap):Prop where
 keep:∀ b o,h.get? b=some o→H b=none→b∉fs→b∉ex→h'.get? b=some o
 slot:∀ b o,h.get? b=some o→H b=none→b∈fs→b∉ex→∃ sl,h'.get? b=some { o with slots:=sl }
 free:∀ b o,h.get? b=some o→H b=none→b∉ex→H' b=none
 there:∀ b o,h.get? b=some o→b∉ex→∃ o',h'.get? b=some o'
 g_:∀ b xs,H b=some (.tup xs)→H' b=some (.tup xs)
 frzs:∀ b o u,H b=some (.frz o u)→H' b=some (.frz o u)
 tbls:∀ b ps,H b=some (.tbl ps)→∃ more,H' b=some (.tbl (ps++more))
section
variable {fs fs' ex ex' : List Addr} {H H1 H2 : Hp} {h h1 h2 h' : Heap} {a x e : Addr} {o : HO}
theorem Un.any (u:Un fs ex H H1 h h1) {b:Addr}{ob:Obj} (q:h.get? b=some ob) (n:H b=none) (hx:b∉ex):∃ sl,h1.get? b=some { ob with slots:=sl }:=by
 by_cases hb:b∈fs
 ·exact u.slot b ob q n hb hx
 ·exact ⟨ob.slots,u.keep b ob q n hb hx⟩
theorem Un.kept (k:∀ b u,h.get? b=some u→h'.get? b=some u):Un fs ex H H h h' :=
 ⟨fun b ob q _ _ _=>k b ob q,fun b ob q _ _ _=>⟨ob.slots,k b ob q⟩,fun _ _ _ n _=>n,fun b ob q _=>⟨ob,k b ob q⟩,fun _ _ q=>q,fun _ _ _ q=>q,fun _ ps q=>⟨#[],by rw [q];simp⟩⟩
theorem Un.refl:Un fs ex H H h h:=Un.kept fun _ _ q=>q
theorem Un.laid (k:∀ b u,h.get? b=some u→h'.get? b=some u) (hp:h.objs.size≤a) (hn:H a=none):Un fs ex H (upd H a o) h h' where
 keep:=fun b u q _ _ _=>k b u q
 slot:=fun b u q _ _ _=>⟨u.slots,k b u q⟩
 free:=fun b u q n _=>by rw [ai (Nat.ne_of_lt (Nat.lt_of_lt_of_le (Heap.lt_size q) hp))];exact n
 there:=fun b u q _=>⟨u,k b u q⟩
 g_:=fun b xs q=>by rw [ai (bg q hn)];exact q
 frzs:=fun b u xs q=>by rw [ai (bg q hn)];exact q
 tbls:=fun b ps q=>⟨#[],by rw [ai (bg q hn),q];simp⟩
theorem Un.write (mu:Mut (H x)) (he:e=x∨H e=some (.own x)) (k:∀ b u,b≠e→h.get? b=some u→h'.get? b=some u) (heo:∃ u,h'.get? e=some u):Un fs ex H (upd H x o) h h':=by
 have hx:∀ b,H b=none→b≠x:=fun b n z=>by subst z;rw [n] at mu;exact mu
 have hb:∀ b,H b=none→b≠e:=fun b n z=>by
  subst z
  rcases he with r|r
  ·exact hx b n r
  ·rw [n] at r;cases r
 have hm:∀ b u,H b=some u→¬ Mut (some u)→b≠x:=fun b u q nm z=>by subst z;rw [q] at mu;exact nm mu
 refine ⟨fun b u q n _ _=>k b u (hb b n) q,fun b u q n _ _=>⟨u.slots,k b u (hb b n) q⟩,fun b u q n _=>by rw [ai (hx b n)];exact n,fun b u q _=>?_,
  fun b xs q=>by rw [ai (hm b _ q fun z=>z)];exact q,fun b u xs q=>by rw [ai (hm b _ q fun z=>z)];exact q,fun b ps q=>⟨#[],by rw [ai (hm b _ q fun z=>z),q];simp⟩⟩
 by_cases hbe:b=e
 ·subst hbe;exact heo
 ·exact ⟨u,k b u hbe q⟩
end
noncomputable def trk (h:Heap) (H:Hp):List Addr:=(List.range h.objs.size).filter fun a=>(H a).isSome
noncomputable def kI (h:Heap) (H:Hp):Heap:=PySem.W.hideAll h (trk h H)
theorem qG (h:Heap) (H:Hp):(kI h H).objs.size=h.objs.size:=PySem.W.hideAll_size _ _
theorem rQ {h:Heap}{H:Hp}{b:Addr}{o:Obj} (e:h.get? b=some o) (n:H b=none):(kI h H).get? b=some o :=
 PySem.W.hideAll_get _ e fun hm=>by
  have q:(H b).isSome=true:=(List.mem_filter.mp hm).2
  rw [n] at q;simp at q
theorem uM {h:Heap}{H:Hp}{b:Addr}{o:Obj} (e:(kI h H).get? b=some o):h.get? b=some o∧H b=none:=by
 have e':h.get? b=some o:=PySem.W.of_hideAll (trk h H) e
 refine ⟨e',?_⟩
 cases q:H b with
 |none=>rfl
 |some x =>
  have hm:b∈trk h H:=List.mem_filter.mpr ⟨List.mem_range.mpr (Heap.lt_size e'),by simp [q]⟩
  have z:(kI h H).get? b=none:=PySem.W.hideAll_none (trk h H) hm
  rw [z] at e;cases e
end L2
namespace L2
open PySem PySem.Spec PyProof.Rows
structure Mod (K:PySem.W.Frag) (mg:Str→Option Value) (base:Heap):Prop where
 kin:K.In base
 glob:base.Ns mainGlobals mg
 blt:∃ mb,base.Ns builtinsNs mb∧∀ x:Str,x≠"__name__"→mb x=bootBuiltins x
 nolimit:base.NoLimit
structure Cx where
 prog:Program
 w:World
 K:PySem.W.Frag
 mg:Str→Option Value
 base:Heap
 A:Around
 N:List Str
 s₀:Shared
 H₀:Hp
 env:Env
 outer:List Env
 stack:List Env
 ex:List Addr
 fn:Str→Bool
 calm:Bool
 pn:List (Addr×Obj)
 xe:Value→Shared→Prop
noncomputable def frs (l:List Env):List Addr:=l.filterMap (·.frame)
noncomputable abbrev Cx.fs (X:Cx):List Addr:=frs X.outer
noncomputable def Vis (sc:Scope) (x:Str):Prop:=sc.names.lookup x=some .local∨sc.names.lookup x=some .cell∨sc.names.lookup x=some .free
noncomputable def Loc (sc:Scope) (x:Str):Prop:=sc.names.lookup x=some .local∨sc.names.lookup x=some .cell
noncomputable def Look (env:Env) (h:Heap) (m:Str→Option Value) (x:Str) (u:Value):Prop :=
 (env.kindOf x=some .local∧m x=some u)∨((env.kindOf x=some .cell∨env.kindOf x=some .free)∧∃ c,env.cells.lookup x=some c∧h.IsCell c (some u))
structure Cx.Ok (X:Cx):Prop where
 mod:Mod X.K X.mg X.base
 kind:X.env.scope.kind=.function
 glob:X.env.globals=mainGlobals
 blt:X.env.builtins=builtinsNs
 above:X.s₀.heap.objs.size≤X.env.locals
 inj:∀ x y c,X.env.cells.lookup x=some c→X.env.cells.lookup y=some c→x=y
 has:∀ x,(X.env.kindOf x=some .cell∨X.env.kindOf x=some .free)→∃ c,X.env.cells.lookup x=some c
 cab:∀ x c,X.fn x=true→X.env.cells.lookup x=some c→X.s₀.heap.objs.size≤c
 hd:X.calm=true→X.A.handled=none
 frames:X.A.frames=some X.stack
 stk:X.stack=X.outer∨(X.stack=X.env::X.outer∧X.env.frame=some X.env.locals)
 exf:∀ b∈X.ex,b≠X.env.locals∧∀ x c,X.env.cells.lookup x=some c→c≠b
 bs:∀ b o,X.base.get? b=some o→X.s₀.heap.get? b=some o∧X.H₀ b=none
 bsz:X.base.objs.size≤X.s₀.heap.objs.size
 noex:∀ b o,X.base.get? b=some o→b∉X.ex
 exfs:∀ b∈X.ex,b∉X.fs
 ie:X.s₀.heap.FunFrames X.base X.outer
 frf:∀ b∈X.fs,X.H₀ b=none
structure Inv (X:Cx) (pins:List (Addr×Obj)) (σ:List (Option V)) (H:Hp) (s:Shared):Prop where
 ok:X.Ok
 os:s.os=X.s₀.os
 bare:AllBare s.gens
 base:Un X.fs X.ex X.H₀ H X.s₀.heap s.heap
 loc:∃ m,s.heap.Ns X.env.locals m∧∀ (i:Nat) (x:Str) (v:V),X.N[i]?=some x→σ[i]?=some (some v)→Vis X.env.scope x→∃ u,RelV v u∧Look X.env s.heap m x u
 cell:∀ x c,X.env.cells.lookup x=some c→∃ v,s.heap.IsCell c v
 free:H X.env.locals=none
 freeC:∀ x c,X.env.cells.lookup x=some c→H c=none
 pin:∀ p∈X.pn++pins,s.heap.get? p.1=some p.2∧H p.1=none∧p.1≠X.env.locals∧p.1∉X.fs∧∀ v,p.2.data≠.cell v
 hok:HOk X.prog X.w H s.heap
 len:σ.length=X.N.length
section
variable {X : Cx} {pins : List (Addr × Obj)} {σ : List (Option V)} {H H' : Hp} {s : Shared} {h' : Heap}
theorem Cx.Ok.AH (ok:X.Ok) {b:Addr}{o:Obj} (e:X.base.get? b=some o):b∉X.fs:=fun hb=>by
 have:=(ok.ie.mem hb).1
 rw [e] at this;cases this
theorem Inv.bs (I:Inv X pins σ H s):∀ b o,X.base.get? b=some o→s.heap.get? b=some o∧H b=none:=fun b o e =>
 ⟨I.base.keep b o (I.ok.bs b o e).1 (I.ok.bs b o e).2 (I.ok.AH e) (I.ok.noex b o e),I.base.free b o (I.ok.bs b o e).1 (I.ok.bs b o e).2 (I.ok.noex b o e)⟩
theorem Inv.bk (I:Inv X pins σ H s):∀ b o,X.base.get? b=some o→s.heap.get? b=some o:=fun b o e=>(I.bs b o e).1
theorem Inv.mod (I:Inv X pins σ H s):Mod X.K X.mg X.base:=I.ok.mod
theorem Inv.kIn (I:Inv X pins σ H s):X.K.In s.heap:=I.ok.mod.kin.keeps I.bk
theorem Inv.lt (I:Inv X pins σ H s):X.env.locals<s.heap.objs.size:=let ⟨_,hn,_⟩:=I.loc;hn.lt
theorem Inv.sz (I:Inv X pins σ H s):X.s₀.heap.objs.size≤s.heap.objs.size:=Nat.le_trans I.ok.above (Nat.le_of_lt I.lt)
theorem Inv.zd (I:Inv X pins σ H s) {a:Addr} (h:s.heap.objs.size≤a):a∉X.fs:=fun hb=>by
 obtain ⟨_,o,ho,_⟩:=I.ok.ie.mem hb
 exact absurd (Nat.lt_of_lt_of_le (Heap.lt_size ho) (Nat.le_trans I.sz h)) (Nat.lt_irrefl _)
theorem Inv.cne (I:Inv X pins σ H s):∀ x c,X.env.cells.lookup x=some c→c≠X.env.locals:=fun x c e z=>by
 obtain ⟨v,o,ho,hd⟩:=I.cell x c e
 obtain ⟨m,⟨o',es,ep,ho',hd',_⟩,_⟩:=I.loc
 rw [z,ho'] at ho;cases ho;rw [hd'] at hd;cases hd
theorem Inv.ie (I:Inv X pins σ H s):s.heap.FunFrames X.base X.outer:=by
 have all:∀ (l:List Env),(∀ b∈frs l,b∈X.fs)→X.s₀.heap.FunFrames X.base l→s.heap.FunFrames X.base l:=by
  intro l
  induction l with
  |nil=>intro _ _;trivial
  |cons env r ih =>
   intro hs hl
   obtain ⟨hk,⟨L,o,hf,hn,ho,hd⟩,hr⟩:=hl
   have hL:L∈X.fs:=hs L (by unfold frs;rw [List.filterMap_cons,hf];exact List.mem_cons_self)
   obtain ⟨sl,e⟩:=I.base.slot L o ho (I.ok.frf L hL) hL fun z=>I.ok.exfs L z hL
   exact ⟨hk,⟨L,_,hf,hn,e,hd⟩,ih (fun b hb=>hs b (by unfold frs;rw [List.filterMap_cons,hf];exact List.mem_cons_of_mem _ hb)) hr⟩
 exact all X.outer (fun _ hb=>hb) I.ok.ie
theorem Inv.stack (I:Inv X pins σ H s):s.heap.FunFrames X.base X.stack:=by
 rcases I.ok.stk with e|⟨e,hf⟩
 ·rw [e];exact I.ie
 ·rw [e]
  obtain ⟨m,hn,_⟩:=I.loc
  refine .cons (by rw [I.ok.kind];decide) hf hn ?_ I.ie
  exact Heap.get?_none_of_le (Nat.le_trans I.ok.bsz I.ok.above)
theorem Inv.ig (I:Inv X pins σ H s):∀ b∈frs X.stack,b∈X.env.locals::X.fs:=fun b hb=>by
 rcases I.ok.stk with e|⟨e,hf⟩
 ·rw [e] at hb;exact List.mem_cons_of_mem _ hb
 ·rw [e] at hb
  unfold frs at hb
  rw [List.filterMap_cons,hf] at hb
  exact hb
theorem Inv.pM (I:Inv X pins σ H s):∀ b∈frs X.stack,H b=none:=fun b hb=>by
 rcases List.mem_cons.mp (I.ig b hb) with e|hb
 ·rw [e];exact I.free
 ·obtain ⟨_,o,ho,_⟩:=I.ok.ie.mem hb
  exact I.base.free b o ho (I.ok.frf b hb) fun z=>I.ok.exfs b z hb
theorem Inv.step {g':Array GenState}{t':Nat}{d':Drawn}{ch:List Addr} (I:Inv X pins σ H s)
  (hch:∀ b∈ch,(b∈X.ex∨X.s₀.heap.objs.size≤b)∧b≠X.env.locals∧(∀ x c,X.env.cells.lookup x=some c→c≠b)∧∀ p∈X.pn++pins,p.1≠b)
  (keep:∀ b o,b≠X.env.locals→b∉X.fs→b∉ch→s.heap.get? b=some o→H b=none→h'.get? b=some o)
  (slot:∀ b o,b≠X.env.locals→b∈X.fs→b∉ch→s.heap.get? b=some o→H b=none→∃ sl,h'.get? b=some { o with slots:=sl }) (free:∀ b o,b∉ch→s.heap.get? b=some o→H b=none→H' b=none)
  (there:∀ b o,b∉ch→s.heap.get? b=some o→∃ o',h'.get? b=some o')
  (g_:∀ b xs,H b=some (.tup xs)→H' b=some (.tup xs)) (frzs:∀ b o u,H b=some (.frz o u)→H' b=some (.frz o u)) (tbls:∀ b ps,H b=some (.tbl ps)→∃ more,H' b=some (.tbl (ps++more)))
  (ns:∀ m,s.heap.Ns X.env.locals m→h'.Ns X.env.locals m) (hok:HOk X.prog X.w H' h') (hg:AllBare g') :
  Inv X pins σ H' { s with heap:=h',gens:=g',drawn:=d',toks:=t' }:=by
 have neL:∀ b o,X.s₀.heap.get? b=some o→b≠X.env.locals:=fun b o e=>Nat.ne_of_lt (Nat.lt_of_lt_of_le (Heap.lt_size e) I.ok.above)
 have neC:∀ b o,X.s₀.heap.get? b=some o→b∉X.ex→b∉ch:=fun b o e hx hb=>by
  rcases (hch b hb).1 with z|z
  ·exact hx z
  ·exact absurd (Nat.lt_of_lt_of_le (Heap.lt_size e) z) (Nat.lt_irrefl _)
 have cellK:∀ x c,X.env.cells.lookup x=some c→∀ v,s.heap.IsCell c v→h'.IsCell c v:=fun x c e v hIx=>by
  obtain ⟨o,ho,hd⟩:=hIx
  have nch:c∉ch:=fun z=>(hch c z).2.2.1 x c e rfl
  by_cases hc:c∈X.fs
  ·obtain ⟨sl,q⟩:=slot c o (I.cne x c e) hc nch ho (I.freeC x c e)
   exact ⟨_,q,hd⟩
  ·exact ⟨o,keep c o (I.cne x c e) hc nch ho (I.freeC x c e),hd⟩
 refine ⟨I.ok,I.os,hg,⟨fun b o e n hb hx=>?_,fun b o e n hb hx=>?_,fun b o e n hx=>?_,fun b o e hx=>?_,fun b xs e=>g_ b xs (I.base.g_ b xs e),fun b o xs e=>frzs b o xs (I.base.frzs b o xs e),fun b ps e=>?_⟩,?_,fun x c e=>?_,?_,fun x c e=>?_,fun p hp=>?_,hok,I.len⟩
 ·exact keep b o (neL b o e) hb (neC b o e hx) (I.base.keep b o e n hb hx) (I.base.free b o e n hx)
 ·obtain ⟨sl,e1⟩:=I.base.slot b o e n hb hx
  obtain ⟨sl',e2⟩:=slot b _ (neL b o e) hb (neC b o e hx) e1 (I.base.free b o e n hx)
  exact ⟨sl',e2⟩
 ·obtain ⟨o',e1⟩:=I.base.there b o e hx
  exact free b o' (neC b o e hx) e1 (I.base.free b o e n hx)
 ·obtain ⟨o',e1⟩:=I.base.there b o e hx
  exact there b o' (neC b o e hx) e1
 ·obtain ⟨m1,e1⟩:=I.base.tbls b ps e
  obtain ⟨m2,e2⟩:=tbls b _ e1
  exact ⟨m1++m2,by rw [e2,Array.append_assoc]⟩
 ·obtain ⟨m,hn,hl⟩:=I.loc
  refine ⟨m,ns m hn,fun i x v e1 e2 e3=>?_⟩
  obtain ⟨u,r,l⟩:=hl i x v e1 e2 e3
  refine ⟨u,r,?_⟩
  rcases l with l|⟨k,c,e,z⟩
  ·exact .inl l
  ·exact .inr ⟨k,c,e,cellK x c e _ z⟩
 ·obtain ⟨v,z⟩:=I.cell x c e
  exact ⟨v,cellK x c e v z⟩
 ·obtain ⟨m,⟨o,_,_,ho,_⟩,_⟩:=I.loc
  exact free _ o (fun z=>(hch _ z).2.1 rfl) ho I.free
 ·obtain ⟨v,o,ho,hd⟩:=I.cell x c e
  exact free c o (fun z=>(hch c z).2.2.1 x c e rfl) ho (I.freeC x c e)
 ·obtain ⟨e,n,ne,nf,d⟩:=I.pin p hp
  have nch:p.1∉ch:=fun z=>(hch p.1 z).2.2.2 p hp rfl
  exact ⟨keep p.1 p.2 ne nf nch e n,free p.1 p.2 nch e n,ne,nf,d⟩
theorem Inv.un {t':Nat} (I:Inv X pins σ H s) (u:Un X.fs [] H H' s.heap h') (hok:HOk X.prog X.w H' h'):Inv X pins σ H' { s with heap:=h',toks:=t' }:=by
 obtain ⟨m,⟨o,es,ep,ho,r⟩,_⟩:=id I.loc
 obtain ⟨sl,hL⟩:=u.any ho I.free (by simp)
 exact I.step (g':=s.gens) (d':=s.drawn) (ch:=[]) (fun _ z=>nomatch z) (fun b o _ hb _ e n=>u.keep b o e n hb (by simp)) (fun b o _ hb _ e n=>u.slot b o e n hb (by simp)) (fun b o _ e n=>u.free b o e n (by simp)) (fun b o _ e=>u.there b o e (by simp)) u.g_ u.frzs u.tbls (fun m' hm=>by
  obtain ⟨o',es',ep',ho',r'⟩:=hm
  rw [ho] at ho';cases ho'
  exact ⟨_,es',ep',hL,r'⟩) hok I.bare
theorem Inv.call {g':Array GenState}{t':Nat}{d':Drawn}{ch:List Addr} (I:Inv X pins σ H s) (u:Un (frs X.stack) ch H H' s.heap h') (hok:HOk X.prog X.w H' h') (hg:AllBare g')
  (hch:∀ b∈ch,(b∈X.ex∨X.s₀.heap.objs.size≤b)∧b≠X.env.locals∧(∀ x c,X.env.cells.lookup x=some c→c≠b)∧∀ p∈X.pn++pins,p.1≠b) :
  Inv X pins σ H' { s with heap:=h',gens:=g',drawn:=d',toks:=t' }:=by
 obtain ⟨m,⟨o,es,ep,ho,r⟩,_⟩:=id I.loc
 obtain ⟨sl,hL⟩:=u.any ho I.free fun z=>(hch _ z).2.1 rfl
 exact I.step (ch:=ch) hch (fun b o hL hb hc e n=>u.keep b o e n (fun z=>(List.mem_cons.mp (I.ig b z)).elim hL hb) hc) (fun b o _ _ hc e n=>u.any e n hc) (fun b o hc e n=>u.free b o e n hc) (fun b o hc e=>u.there b o e hc) u.g_ u.frzs u.tbls (fun m' hm=>by
  obtain ⟨o',es',ep',ho',r'⟩:=hm
  rw [ho] at ho';cases ho'
  exact ⟨_,es',ep',hL,r'⟩) hok hg
theorem Inv.turned {t':Nat}{it:Addr} (I:Inv X pins σ H s) (k:∀ b o,b≠it→s.heap.get? b=some o→h'.get? b=some o) (hn:H it=none) (hL:it≠X.env.locals)
  (h1:it∈X.ex∨X.s₀.heap.objs.size≤it) (h2:∀ x c,X.env.cells.lookup x=some c→c≠it) (h3:∀ p∈X.pn++pins,p.1≠it):Inv X pins σ H { s with heap:=h',toks:=t' }:=by
 have nit:∀ b u,H b=some u→b≠it:=fun b u e z=>by rw [z,hn] at e;cases e
 refine I.step (g':=s.gens) (d':=s.drawn) (ch:=[it]) (fun b hb=>?_) (fun b o _ _ hc e _=>k b o (fun z=>hc (by simp [z])) e) (fun b o _ _ hc e _=>⟨o.slots,k b o (fun z=>hc (by simp [z])) e⟩) (fun _ _ _ _ n=>n)
  (fun b o hc e=>⟨o,k b o (fun z=>hc (by simp [z])) e⟩) (fun _ _ e=>e) (fun _ _ _ e=>e) (fun b ps e=>⟨#[],by rw [e];simp⟩) (fun m hm=>?_) (fun b u e=>?_) I.bare
 ·have e:b=it:=by simpa using hb
  subst e
  exact ⟨h1,hL,h2,h3⟩
 ·obtain ⟨o,es,ep,ho,r⟩:=hm
  exact ⟨o,es,ep,k _ o (Ne.symm hL) ho,r⟩
 ·refine (I.hok b u e).kH (fun c v hc q=>k c v ?_ q) (fun _ q=>q) fun _ _ q=>q
  rcases hc with z|z
  ·rw [z];exact nit b u e
  ·exact nit c _ z
theorem Inv.tok (I:Inv X pins σ H s) (t:Nat):Inv X pins σ H { s with toks:=t }:=I.un (h':=s.heap) (t':=t) Un.refl I.hok
theorem Inv.kept {t':Nat} (I:Inv X pins σ H s) (k:∀ b u,s.heap.get? b=some u→h'.get? b=some u):Inv X pins σ H { s with heap:=h',toks:=t' }:=I.un (Un.kept k) (I.hok.kept k)
theorem Inv.laid {a:Addr}{o:HO}{t':Nat} (I:Inv X pins σ H s) (k:∀ b u,s.heap.get? b=some u→h'.get? b=some u) (hp:s.heap.objs.size≤a) (new:bG X.prog X.w (upd H a o) h' a o) :
  Inv X pins σ (upd H a o) { s with heap:=h',toks:=t' }:=I.un (Un.laid k hp (I.hok.fresh hp)) (I.hok.laid k hp new)
theorem Inv.write {x e:Addr}{o:HO}{t':Nat} (I:Inv X pins σ H s) (mu:Mut (H x)) (he:e=x∨H e=some (.own x)) (k:∀ b u,b≠e→s.heap.get? b=some u→h'.get? b=some u) (heo:∃ u,h'.get? e=some u)
  (new:bG X.prog X.w (upd H x o) h' x o):Inv X pins σ (upd H x o) { s with heap:=h',toks:=t' }:=I.un (Un.write mu he k heo) (I.hok.write mu he k heo new)
theorem Inv.weak {σ':List (Option V)} (I:Inv X pins σ H s) (hl:σ'.length=σ.length) (w:∀ (i:Nat) v,σ'[i]?=some (some v)→σ[i]?=some (some v)):Inv X pins σ' H s :=
 ⟨I.ok,I.os,I.bare,I.base,let ⟨m,hn,hl'⟩:=I.loc;⟨m,hn,fun i x v e1 e2 e3=>hl' i x v e1 (w i v e2) e3⟩,I.cell,I.free,I.freeC,I.pin,I.hok,hl.trans I.len⟩
theorem Inv.eC {pins':List (Addr×Obj)} (I:Inv X pins σ H s) (h:∀ p∈pins',s.heap.get? p.1=some p.2∧H p.1=none∧p.1≠X.env.locals∧p.1∉X.fs∧∀ v,p.2.data≠.cell v):Inv X pins' σ H s :=
 ⟨I.ok,I.os,I.bare,I.base,I.loc,I.cell,I.free,I.freeC,fun p hp=>(List.mem_append.mp hp).elim (fun z=>I.pin p (List.mem_append_left _ z)) (h p),I.hok,I.len⟩
theorem ij {N:List Str} (hN:N.Nodup) {i j:Nat}{x:Str} (a:N[i]?=some x) (b:N[j]?=some x):i=j:=by
 obtain ⟨h1,e1⟩:=List.getElem?_eq_some_iff.mp a
 obtain ⟨h2,e2⟩:=List.getElem?_eq_some_iff.mp b
 exact (List.getElem_inj hN).mp (e1.trans e2.symm)
theorem jM {M:Model}{A:Around}{E:Value→Shared→Prop}{i:Nat}{x:Str}{v:V}{u:Value}{Q:Unit→Shared→Prop} (I:Inv X pins σ H s) (hN:X.N.Nodup) (hi:X.N[i]?=some x) (hx:Loc X.env.scope x) (r:RelV v u)
  (h:∀ s',Inv X pins (σ.set i (some v)) H s'→(∃ a,Heap.SameBut a s.heap s'.heap∧(a=X.env.locals∨X.env.cells.lookup x=some a))→Q () s') (hf:X.fn x=true∨X.env.scope.names.lookup x=some .local:=by first|exact .inl rfl|exact .inr rfl|assumption):wpAny M A (storeName X.env x u) Q E s:=by
 obtain ⟨m,hn,hl⟩:=id I.loc
 have hcls:(X.env.scope.kind==.class||(X.env.scope.kind==.module&&X.env.locals != X.env.globals))=false:=by rw [I.ok.kind];rfl
 have hiσ:i < σ.length:=by rw [I.len];exact (List.getElem?_eq_some_iff.mp hi).1
 have cne:=I.cne
 have tracked:∀ {a:Addr} {h':Heap},(∃ o,s.heap.get? a=some o∧H a=none)→Heap.SameBut a s.heap h'→HOk X.prog X.w H h':=fun {a h'} ha hs b ob e=>by
  obtain ⟨_,_,hfree⟩:=ha
  refine (I.hok b ob e).kH (fun c w' hc q=>(hs.2 c ?_).trans q) (fun _ q=>q) fun _ _ q=>q
  rintro rfl
  rcases hc with rfl|hc
  ·rw [hfree] at e;cases e
  ·rw [hfree] at hc;cases hc
 rcases hx with hk|hk
 ·refine wpAny_storeName_local hk hn (fun h' hn' hs=>?_) hcls
  obtain ⟨oL,_,_,hoL,_⟩:=id hn
  refine h _ ⟨I.ok,I.os,I.bare,⟨fun b o e n hb hx=>?_,fun b o e n hb hx=>?_,I.base.free,fun b o e hx=>?_,I.base.g_,I.base.frzs,I.base.tbls⟩,⟨_,hn',fun j y v' e1 e2 e3=>?_⟩,fun y c e=>?_,I.free,I.freeC,fun p hp=>?_,tracked ⟨oL,hoL,I.free⟩ hs,by simpa using I.len⟩ ⟨_,hs,.inl rfl⟩
  ·exact (hs.2 b (Nat.ne_of_lt (Nat.lt_of_lt_of_le (Heap.lt_size e) I.ok.above))).trans (I.base.keep b o e n hb hx)
  ·obtain ⟨sl,e1⟩:=I.base.slot b o e n hb hx
   exact ⟨sl,(hs.2 b (Nat.ne_of_lt (Nat.lt_of_lt_of_le (Heap.lt_size e) I.ok.above))).trans e1⟩
  ·obtain ⟨o',e1⟩:=I.base.there b o e hx
   exact ⟨o',(hs.2 b (Nat.ne_of_lt (Nat.lt_of_lt_of_le (Heap.lt_size e) I.ok.above))).trans e1⟩
  ·by_cases hj:j=i
   ·subst hj
    rw [hi] at e1;cases e1
    rw [List.getElem?_set_self hiσ] at e2
    cases e2
    exact ⟨u,r,.inl ⟨hk,by simp⟩⟩
   ·rw [List.getElem?_set_ne (Ne.symm hj)] at e2
    obtain ⟨u',r',q⟩:=hl j y v' e1 e2 e3
    refine ⟨u',r',?_⟩
    rcases q with ⟨k,e⟩|⟨k,c,e,z⟩
    ·refine .inl ⟨k,?_⟩
     have:y≠x:=fun e=>hj (ij hN e1 (e ▸ hi))
     simp [this,e]
    ·exact .inr ⟨k,c,e,z.sameBut hs (cne y c e)⟩
  ·obtain ⟨w',z⟩:=I.cell y c e
   exact ⟨w',z.sameBut hs (cne y c e)⟩
  ·obtain ⟨e,n,ne,nf,d⟩:=I.pin p hp
   exact ⟨(hs.2 p.1 ne).trans e,n,ne,nf,d⟩
 ·have hfn:X.fn x=true:=by
   rcases hf with z|z
   ·exact z
   ·rw [z] at hk;cases hk
  obtain ⟨c,hc⟩:=I.ok.has x (.inl hk)
  obtain ⟨w',z⟩:=I.cell x c hc
  refine wpAny_storeName_cell I.ok.kind hk hc z (fun h' hc' hs=>?_)
  obtain ⟨oc,hoc,hocd⟩:=id z
  refine h { s with heap:=h' } ⟨I.ok,I.os,I.bare,⟨fun b o e n hb hx=>?_,fun b o e n hb hx=>?_,I.base.free,fun b o e hx=>?_,I.base.g_,I.base.frzs,I.base.tbls⟩,⟨m,hn.sameBut hs (Ne.symm (cne x c hc)),fun j y v' e1 e2 e3=>?_⟩,fun y c' e=>?_,I.free,I.freeC,fun p hp=>?_,tracked ⟨oc,hoc,I.freeC x c hc⟩ hs,by simpa using I.len⟩ ⟨c,hs,.inr hc⟩
  ·exact (hs.2 b (Nat.ne_of_lt (Nat.lt_of_lt_of_le (Heap.lt_size e) (I.ok.cab x c hfn hc)))).trans (I.base.keep b o e n hb hx)
  ·obtain ⟨sl,e1⟩:=I.base.slot b o e n hb hx
   exact ⟨sl,(hs.2 b (Nat.ne_of_lt (Nat.lt_of_lt_of_le (Heap.lt_size e) (I.ok.cab x c hfn hc)))).trans e1⟩
  ·obtain ⟨o',e1⟩:=I.base.there b o e hx
   exact ⟨o',(hs.2 b (Nat.ne_of_lt (Nat.lt_of_lt_of_le (Heap.lt_size e) (I.ok.cab x c hfn hc)))).trans e1⟩
  ·by_cases hj:j=i
   ·subst hj
    rw [hi] at e1;cases e1
    rw [List.getElem?_set_self hiσ] at e2
    cases e2
    exact ⟨u,r,.inr ⟨.inl hk,c,hc,hc'⟩⟩
   ·rw [List.getElem?_set_ne (Ne.symm hj)] at e2
    obtain ⟨u',r',q⟩:=hl j y v' e1 e2 e3
    refine ⟨u',r',?_⟩
    rcases q with q|⟨k,c',e,z'⟩
    ·exact .inl q
    ·refine .inr ⟨k,c',e,z'.sameBut hs ?_⟩
     rintro rfl
     exact hj (ij hN e1 (I.ok.inj _ _ _ e hc ▸ hi))
  ·by_cases hcc:c'=c
   ·subst hcc;exact ⟨_,hc'⟩
   ·obtain ⟨w2,z2⟩:=I.cell y c' e
    exact ⟨w2,z2.sameBut hs hcc⟩
  ·obtain ⟨e,n,ne,nf,d⟩:=I.pin p hp
   refine ⟨(hs.2 p.1 ?_).trans e,n,ne,nf,d⟩
   intro q
   rw [q,hoc] at e
   have q':oc=p.2:=Option.some.inj e
   exact d w' (by rw [←q'];exact hocd)
theorem mD {M:Model}{A:Around}{E:Value→Shared→Prop}{i:Nat}{x:Str}{v:V}{u:Value}{Q:Unit→Shared→Prop} (I:Inv X pins σ H s) (hN:X.N.Nodup) (hi:X.N[i]?=some x) (hx:Loc X.env.scope x) (r:RelV v u)
  (h:∀ s',Inv X pins (σ.set i (some v)) H s'→Q () s') (hf:X.fn x=true∨X.env.scope.names.lookup x=some .local:=by first|exact .inl rfl|exact .inr rfl|assumption):wpAny M A (storeName X.env x u) Q E s :=
 jM I hN hi hx r (fun s' I' _=>h s' I') hf
theorem Inv.ze {s':Shared}{ch:List Addr} (I:Inv X pins σ H s) (ho:s'.os=s.os) (u:Un (frs X.stack) ch H H' s.heap s'.heap) (hok:HOk X.prog X.w H' s'.heap) (hg:AllBare s'.gens)
  (hch:∀ b∈ch,(b∈X.ex∨X.s₀.heap.objs.size≤b)∧b≠X.env.locals∧(∀ x c,X.env.cells.lookup x=some c→c≠b)∧∀ p∈X.pn++pins,p.1≠b):Inv X pins σ H' s':=by
 obtain ⟨h',g',d',t',o'⟩:=s'
 have e:o'=s.os:=ho
 subst e
 exact I.call (g':=g') (t':=t') (d':=d') u hok hg hch
end
noncomputable abbrev XK:=Value→Option Addr→Hp→Prop
noncomputable abbrev St:=List (Option V)
noncomputable abbrev VK:=V→Hp→Prop
noncomputable abbrev TE:=St→Hp→VK→Prop
noncomputable abbrev TT:=St→Hp→(Bool→Hp→Prop)→Prop
noncomputable abbrev TA:=St→Hp→(List V→Hp→Prop)→Prop
structure Ends where
 nx:St→Hp→Prop
 rt:VK
 bk:St→Hp→Prop:=fun _ _=>False
 ct:St→Hp→Prop:=fun _ _=>False
noncomputable abbrev TS:=Ends→St→Hp→Prop
noncomputable def EP (X:Cx) (pins:List (Addr×Obj)) (σ:St) (Q:VK) (u:Value) (s':Shared):Prop:=∃ v H',Inv X pins σ H' s'∧RelV v u∧Q v H'
noncomputable def TP (X:Cx) (pins:List (Addr×Obj)) (σ:St) (Q:Bool→Hp→Prop) (b:Bool) (s':Shared):Prop:=∃ H',Inv X pins σ H' s'∧Q b H'
noncomputable def AP (X:Cx) (pins:List (Addr×Obj)) (σ:St) (Q:List V→Hp→Prop) (us:List Value) (s':Shared):Prop:=∃ vs H',Inv X pins σ H' s'∧Vals vs us∧Q vs H'
noncomputable def SP (X:Cx) (pins:List (Addr×Obj)) (D:Ends) (f:Flow) (s':Shared):Prop :=
 match f with
 |.next=>∃ σ' H',Inv X pins σ' H' s'∧D.nx σ' H'
 |.brk=>∃ σ' H',Inv X pins σ' H' s'∧D.bk σ' H'
 |.cont=>∃ σ' H',Inv X pins σ' H' s'∧D.ct σ' H'
 |.ret u=>∃ v σ' H',Inv X pins σ' H' s'∧RelV v u∧D.rt v H'
noncomputable def PE (X:Cx) (e:Expr) (t:TE):Prop :=
 ∀ (pins:List (Addr×Obj)) (s:Shared) (σ:St) (H:Hp) (Q:VK),Inv X pins σ H s→t σ H Q→wpAny (model X.prog X.w) X.A (eval e X.env) (EP X pins σ Q) X.xe s
noncomputable def PT (X:Cx) (e:Expr) (t:TT):Prop :=
 ∀ (pins:List (Addr×Obj)) (s:Shared) (σ:St) (H:Hp) (Q:Bool→Hp→Prop),Inv X pins σ H s→t σ H Q→wpAny (model X.prog X.w) X.A (isTrue e X.env (eval e X.env)) (TP X pins σ Q) X.xe s
noncomputable def PW (X:Cx) (e:Expr) (t:TT):Prop :=
 ∀ (whole:Sem Value) (pins:List (Addr×Obj)) (s:Shared) (σ:St) (H:Hp) (Q:Bool→Hp→Prop),Inv X pins σ H s→t σ H Q→wpAny (model X.prog X.w) X.A (isTrue e X.env whole) (TP X pins σ Q) X.xe s
theorem PW.pt {X:Cx}{e:Expr}{t:TT} (h:PW X e t):PT X e t:=h _
noncomputable def PA (X:Cx) (es:List Expr) (t:TA):Prop :=
 ∀ (pos:Pos) (pins:List (Addr×Obj)) (s:Shared) (σ:St) (H:Hp) (Q:List V→Hp→Prop),Inv X pins σ H s→t σ H Q→wpAny (model X.prog X.w) X.A (spliced (backTo pos (starEach es X.env))) (AP X pins σ Q) X.xe s
noncomputable def PS (X:Cx) (st:Stmt) (t:TS):Prop :=
 ∀ (pins:List (Addr×Obj)) (s:Shared) (σ:St) (H:Hp) (D:Ends),Inv X pins σ H s→t D σ H→wpAny (model X.prog X.w) X.A (exec st X.env) (SP X pins D) X.xe s
noncomputable def PSs (X:Cx) (st:List Stmt) (t:TS):Prop :=
 ∀ (pins:List (Addr×Obj)) (s:Shared) (σ:St) (H:Hp) (D:Ends),Inv X pins σ H s→t D σ H→wpAny (model X.prog X.w) X.A (execs st X.env) (SP X pins D) X.xe s
theorem thn {α:Type}{t:Sem α}{Q Q':α→Shared→Prop}{M:Model}{A:Around}{E:Value→Shared→Prop}{s:Shared} (h:wpAny M A t Q E s) (hQ:∀ a s,Q a s→Q' a s):wpAny M A t Q' E s:=wpAny_mono h hQ fun _ _ x=>x
end L2
namespace L2
open PySem PySem.Spec PyProof.Rows
section
variable {X : Cx}
noncomputable def AI (i:Nat):TE:=fun σ H Q=>∃ v,σ[i]?=some (some v)∧Q v H
noncomputable def tC (v:V):TE:=fun _ H Q=>Q v H
theorem bT {i:Nat}{x:Str}{pos:Pos} (hN:X.N[i]?=some x) (hv:Vis X.env.scope x) (hd:(x==("__debug__":Str))=false:=by decide) (hcd:(x==("__classdict__":Str))=false:=by decide):PE X (.Name x pos) (AI i):=by
 intro pins s σ H Q I h
 obtain ⟨v,e,h⟩:=h
 obtain ⟨m,hn,hl⟩:=I.loc
 obtain ⟨u,r,l⟩:=hl i x v hN e hv
 have fin:EP X pins σ Q u s:=⟨v,H,I,r,h⟩
 rcases l with ⟨hk,hm⟩|⟨hk,c,hc,hcell⟩
 ·exact wpAny_Name (wpAny_loadName_local I.ok.kind hk hn hm fin) hd
 ·rcases hk with hk|hk
  ·exact wpAny_Name (wpAny_loadName_cell I.ok.kind hk hc hcell fin) hd
  ·exact wpAny_Name (wpAny_loadName_free I.ok.kind hk hc hcell fin hcd) hd
theorem rR {i j pos}:PE X (.Constant (.int i) j pos) (tC (.int i)):=fun _ _ _ H _ I h=>wpAny_Constant_int ⟨.int i,H,I.tok _,⟨_,rfl⟩,h⟩
theorem wM {b j pos}:PE X (.Constant (.bool b) j pos) (tC (.bl b)):=fun _ _ _ H _ I h=>Constant_bool ⟨.bl b,H,I,rfl,h⟩
theorem rS {j pos}:PE X (.Constant .none j pos) (tC .non):=fun _ _ _ H _ I h=>Constant_none ⟨.non,H,I,rfl,h⟩
theorem rT {x j pos}:PE X (.Constant (.str x) j pos) (tC (.str x)):=fun _ _ _ H _ I h=>Calls.Constant_str ⟨.str x,H,I.tok _,⟨_,rfl⟩,h⟩
noncomputable def Gl (X:Cx) (x:Str):Prop:=X.env.kindOf x=some .globalImplicit
theorem uN {E:Value→Shared→Prop}{pins:List (Addr×Obj)}{s:Shared}{σ:St}{H:Hp}{x:Str}{u:Value}{pos:Pos}{Q:Value→Shared→Prop} (I:Inv X pins σ H s) (hg:Gl X x) (hm:X.mg x=some u) (h:Q u s)
  (hd:(x==("__debug__":Str))=false:=by decide):wpAny (model X.prog X.w) X.A (eval (.Name x pos) X.env) Q E s :=
 Calls.Name_function_global I.ok.kind hg (Calls.loadGlobal_global (by rw [I.ok.glob];exact I.mod.glob.keeps I.bk) hm h) hd
theorem dr {E:Value→Shared→Prop}{pins:List (Addr×Obj)}{s:Shared}{σ:St}{H:Hp}{x:Str}{u:Value}{pos:Pos}{Q:Value→Shared→Prop} (I:Inv X pins σ H s) (hg:Gl X x) (hm:X.mg x=none) (hv:bootBuiltins x=some u) (h:Q u s)
  (hn:x≠"__name__":=by decide) (hd:(x==("__debug__":Str))=false:=by decide):wpAny (model X.prog X.w) X.A (eval (.Name x pos) X.env) Q E s:=by
 obtain ⟨mb,h1,h2⟩:=I.mod.blt
 exact Calls.Name_function_global I.ok.kind hg (Calls.loadGlobal_builtin (by rw [I.ok.glob];exact I.mod.glob.keeps I.bk) hm (by rw [I.ok.blt];exact h1.keeps I.bk) ((h2 x hn).trans hv) h) hd
theorem uO {x:Str}{v:V}{u:Value}{pos:Pos} (hg:Gl X x) (hm:X.mg x=none) (hv:bootBuiltins x=some u) (r:RelV v u) (hn:x≠"__name__":=by decide) (hd:(x==("__debug__":Str))=false:=by decide):PE X (.Name x pos) (tC v) :=
 fun _ _ _ H _ I h=>dr I hg hm hv ⟨v,H,I,r,h⟩ hn hd
variable {a b : Expr} {ta tb : TE} {pos : Pos}
noncomputable def PC (X:Cx) (op:CmpOp) (a b:Expr) (t:TE):Prop :=
 ∀ (pins:List (Addr×Obj)) (s:Shared) (σ:St) (H:Hp) (Q:VK),Inv X pins σ H s→t σ H Q →
  wpAny (model X.prog X.w) X.A (eval a X.env) (fun v s₁=>wpAny (model X.prog X.w) X.A (eval b X.env) (fun u s₂=>wpAny (model X.prog X.w) X.A (compareOp op v u) (EP X pins σ Q) X.xe s₂) X.xe s₁) X.xe s
noncomputable def tB (t:TE):TT:=fun σ H Q=>t σ H fun x H1=>∃ c,x=.bl c∧Q c H1
theorem rU {op:CmpOp}{t:TE} (h:PC X op a b t) (h1:behindInMarks op b=false:=by first|exact nobehind _ (by decide) (by decide)|rfl):PE X (.Compare a [op] [b] pos) t:=fun pins s σ H Q I hw=>wpAny_Compare1 (h pins s σ H Q I hw) h1
theorem rV {op:CmpOp}{t:TE} (h:PC X op a b t) (h1:behindInMarks op b=false:=by first|exact nobehind _ (by decide) (by decide)|rfl):PT X (.Compare a [op] [b] pos) (tB t):=by
 intro pins s σ H Q I hw
 refine wpAny_isTrue_Compare1 (thn (h pins s σ H _ I hw) fun v s1 h1=>thn h1 fun u s2 h2=>thn h2 fun c s3 ⟨x,H1,I1,r1,q1⟩=>?_) h1
 obtain ⟨d,rfl,q⟩:=q1
 cases r1
 exact wpAny_truthy_bool ⟨H1,I1,q⟩
variable {tA tB' : TT} {rest : List Expr}
noncomputable def AJ (t u:TT):TT:=fun σ H Q=>t σ H fun c H1=>if c=true then u σ H1 Q else Q false H1
noncomputable def tOr (t u:TT):TT:=fun σ H Q=>t σ H fun c H1=>if c=true then Q true H1 else u σ H1 Q
noncomputable def AK (t:TT):TT:=fun σ H Q=>t σ H fun c H1=>Q (!c) H1
theorem uP (ha:PT X a tA):PW X (.BoolOp .And [a] pos) tA:=by
 intro wh pins s σ H Q I h
 refine isTrue_and (thn (ha pins s σ H Q I h) fun c s1 e=>?_)
 cases c with
 |true=>exact isTrue_and_nil e
 |false=>exact e
theorem xw (ha:PT X a tA):PW X (.BoolOp .Or [a] pos) tA:=by
 intro wh pins s σ H Q I h
 refine isTrue_or (thn (ha pins s σ H Q I h) fun c s1 e=>?_)
 cases c with
 |false=>exact isTrue_or_nil e
 |true=>exact e
theorem xx (ha:PT X a tA) (hb:PW X (.BoolOp .And (b::rest) pos) tB'):PW X (.BoolOp .And (a::b::rest) pos) (AJ tA tB'):=by
 intro wh pins s σ H Q I h
 refine isTrue_and (thn (ha pins s σ H _ I h) fun c s1 ⟨H1,I1,q1⟩=>?_)
 cases c with
 |true=>exact hb wh pins s1 σ H1 Q I1 q1
 |false=>exact ⟨H1,I1,q1⟩
theorem zf (ha:PT X a tA) (hb:PW X (.BoolOp .Or (b::rest) pos) tB'):PW X (.BoolOp .Or (a::b::rest) pos) (tOr tA tB'):=by
 intro wh pins s σ H Q I h
 refine isTrue_or (thn (ha pins s σ H _ I h) fun c s1 ⟨H1,I1,q1⟩=>?_)
 cases c with
 |true=>exact ⟨H1,I1,q1⟩
 |false=>exact hb wh pins s1 σ H1 Q I1 q1
theorem xy (ha:PT X a tA):PT X (.UnaryOp .Not a pos) (AK tA):=by
 intro pins s σ H Q I h
 exact isTrue_not (ha pins s σ H (fun c H1=>Q (!c) H1) I h)
noncomputable def zg (ta tb:TE):TE:=fun σ H Q=>ta σ H fun x H1=>∃ c,x=.bl c∧if c=true then tb σ H1 Q else Q (.bl false) H1
noncomputable def AL (ta tb:TE):TE:=fun σ H Q=>ta σ H fun x H1=>∃ c,x=.bl c∧if c=true then Q (.bl true) H1 else tb σ H1 Q
noncomputable def zh (ta:TE):TE:=fun σ H Q=>ta σ H fun x H1=>∃ c,x=.bl c∧Q (.bl (!c)) H1
theorem rW {op}{t:TE} (h:PE X a t):PE X (.BoolOp op [a] pos) t:=fun pins s σ H Q I hw=>BoolOp_one (h pins s σ H Q I hw)
theorem xA (ha:PE X a ta) (hb:PE X (.BoolOp .And (b::rest) pos) tb):PE X (.BoolOp .And (a::b::rest) pos) (zg ta tb):=by
 intro pins s σ H Q I h
 refine BoolOp_and (thn (ha pins s σ H _ I h) fun v s1 ⟨x,H1,I1,r1,q1⟩=>?_)
 obtain ⟨c,rfl,q1⟩:=q1
 cases r1
 refine wpAny_truthy_bool ?_
 cases c with
 |true=>exact hb pins s1 σ H1 Q I1 q1
 |false=>exact ⟨.bl false,H1,I1,rfl,q1⟩
theorem zi (ha:PE X a ta) (hb:PE X (.BoolOp .Or (b::rest) pos) tb):PE X (.BoolOp .Or (a::b::rest) pos) (AL ta tb):=by
 intro pins s σ H Q I h
 refine BoolOp_or (thn (ha pins s σ H _ I h) fun v s1 ⟨x,H1,I1,r1,q1⟩=>?_)
 obtain ⟨c,rfl,q1⟩:=q1
 cases r1
 refine wpAny_truthy_bool ?_
 cases c with
 |false=>exact hb pins s1 σ H1 Q I1 q1
 |true=>exact ⟨.bl true,H1,I1,rfl,q1⟩
theorem xB (ha:PE X a ta):PE X (.UnaryOp .Not a pos) (zh ta):=by
 intro pins s σ H Q I h
 refine UnaryOp_ (thn (ha pins s σ H _ I h) fun v s1 ⟨x,H1,I1,r1,q1⟩=>?_)
 obtain ⟨c,rfl,q1⟩:=q1
 cases r1
 exact not_of (wpAny_truthy_bool ⟨.bl (!c),H1,I1,rfl,q1⟩)
end
end L2
namespace L2
open PySem PySem.Spec PyProof.Rows
noncomputable def SqL (K:PySem.W.Frag) (H:Hp) (a:Addr) (xs:List V):Prop :=
 Rd H a (.lst xs) ∨
  ∃ (o:Obj) (its:Array Value) (n:Nat),K.lookup a=some o∧o.cls=.type "list"∧o.dict=none∧o.data=.seq its n∧its.size≤sizeLine∧Vals xs its.toList
noncomputable def SqT (K:PySem.W.Frag) (H:Hp) (a:Addr) (xs:List V):Prop :=
 Rd H a (.tup xs) ∨
  ∃ (o:Obj) (its:Array Value) (n:Nat),K.lookup a=some o∧o.cls=.type "tuple"∧o.data=.seq its n∧its.size≤sizeLine∧Vals xs its.toList
noncomputable def AM:Value→Option V
 |.none=>some .non
 |.bool b=>some (.bl b)
 |.int i _=>some (.int i)
 |.str x _=>some (.str x)
 |.bytes b _=>some (.byt b)
 |.float b _=>some (.flt b)
 |.ref a=>some (.ref a)
 |.type n=>some (.ty n)
 |_=>none
theorem RelV.abs {x:V}{u:Value} (r:RelV x u):AM u=some x:=by
 cases x with
 |non=>cases r;rfl
 |bl _=>cases r;rfl
 |int _=>obtain ⟨t,rfl⟩:=r;rfl
 |str _=>obtain ⟨t,rfl⟩:=r;rfl
 |byt _=>obtain ⟨t,rfl⟩:=r;rfl
 |flt _=>obtain ⟨t,rfl⟩:=r;rfl
 |ref _=>cases r;rfl
 |ty _=>cases r;rfl
theorem RelV.inj {x y:V}{u:Value} (r:RelV x u) (q:RelV y u):x=y:=Option.some.inj (r.abs.symm.trans q.abs)
theorem Vals.inj:∀ {xs ys:List V}{us:List Value},Vals xs us→Vals ys us→xs=ys
 |_,_,_,.nil,.nil=>rfl
 |_,_,_,.cons r t,.cons r' t'=>by rw [r.inj r',Vals.inj t t']
section
variable {X : Cx} {pins : List (Addr × Obj)} {σ : St} {H : Hp} {s : Shared} {a : Addr} {xs ys : List V}
theorem SqL.of {K:PySem.W.Frag} (h:H a=some (.lst xs)):SqL K H a xs:=.inl (.inl h)
theorem SqT.of {K:PySem.W.Frag} (h:H a=some (.tup xs)):SqT K H a xs:=.inl (.inl h)
theorem Inv.list (I:Inv X pins σ H s) (h:SqL X.K H a xs):∃ its:List Value,Vals xs its∧PlainL s.heap a its.toArray∧xs.length≤sizeLine:=by
 rcases h with h|⟨o,its,n,hk,hc,hd,hs,hz,r⟩
 ·obtain ⟨z,its,n,r,e⟩:=h.ok I.hok
  exact ⟨its,r,⟨_,n,e,rfl,rfl,rfl⟩,z⟩
 ·refine ⟨its.toList,r,⟨o,n,I.kIn a o hk,hc,hd,by simpa using hs⟩,?_⟩
  have e:=r.length
  simp only [Array.length_toList] at e
  omega
theorem Inv.tuple (I:Inv X pins σ H s) (h:SqT X.K H a xs):∃ its:List Value,Vals xs its∧IsTup s.heap a its.toArray∧xs.length≤sizeLine:=by
 rcases h with h|⟨o,its,n,hk,hc,hs,hz,r⟩
 ·obtain ⟨z,its,r,p⟩:=h.ok I.hok
  exact ⟨its,r,p,z⟩
 ·refine ⟨its.toList,r,⟨o,I.kIn a o hk,hc,n,by simpa using hs⟩,?_⟩
  have e:=r.length
  simp only [Array.length_toList] at e
  omega
theorem Inv.il (I:Inv X pins σ H s) (h:SqL X.K H a xs) (h':SqL X.K H a ys):xs=ys:=by
 obtain ⟨its,r,⟨o,n,e,_,_,d⟩,_⟩:=I.list h
 obtain ⟨its',r',⟨o',n',e',_,_,d'⟩,_⟩:=I.list h'
 rw [e] at e';cases e'
 rw [d] at d'
 injection d' with d1 _
 have:its=its':=by simpa using congrArg Array.toList d1
 subst this
 exact r.inj r'
theorem Inv.eE (I:Inv X pins σ H s) (h:SqT X.K H a xs) (h':SqT X.K H a ys):xs=ys:=by
 obtain ⟨its,r,⟨o,e,_,n,d⟩,_⟩:=I.tuple h
 obtain ⟨its',r',⟨o',e',_,n',d'⟩,_⟩:=I.tuple h'
 rw [e] at e';cases e'
 rw [d] at d'
 injection d' with d1 _
 have:its=its':=by simpa using congrArg Array.toList d1
 subst this
 exact r.inj r'
end
noncomputable abbrev Cx.jv (X:Cx) (E:Value→Shared→Prop):Cx:={ X with xe:=E }
noncomputable abbrev Cx.nox (X:Cx):Cx:=X.jv fun _ _=>False
theorem Cx.Ok.jv {X:Cx} (ok:X.Ok) (E:Value→Shared→Prop):(X.jv E).Ok :=
 ⟨ok.mod,ok.kind,ok.glob,ok.blt,ok.above,ok.inj,ok.has,ok.cab,ok.hd,ok.frames,ok.stk,ok.exf,ok.bs,ok.bsz,ok.noex,ok.exfs,ok.ie,ok.frf⟩
theorem Cx.Ok.dX {X:Cx}{E:Value→Shared→Prop} (ok:(X.jv E).Ok):X.Ok :=
 ⟨ok.mod,ok.kind,ok.glob,ok.blt,ok.above,ok.inj,ok.has,ok.cab,ok.hd,ok.frames,ok.stk,ok.exf,ok.bs,ok.bsz,ok.noex,ok.exfs,ok.ie,ok.frf⟩
section
variable {X : Cx} {pins : List (Addr × Obj)} {σ : St} {H : Hp} {s : Shared} {E : Value → Shared → Prop}
theorem Inv.jv (I:Inv X pins σ H s) (E:Value→Shared→Prop):Inv (X.jv E) pins σ H s:=⟨I.ok.jv E,I.os,I.bare,I.base,I.loc,I.cell,I.free,I.freeC,I.pin,I.hok,I.len⟩
theorem Inv.dX (I:Inv (X.jv E) pins σ H s):Inv X pins σ H s:=⟨I.ok.dX,I.os,I.bare,I.base,I.loc,I.cell,I.free,I.freeC,I.pin,I.hok,I.len⟩
theorem SP.dX {D:Ends}{f:Flow}{s':Shared} (h:SP (X.jv E) pins D f s'):SP X pins D f s':=by
 cases f with
 |next=>obtain ⟨σ',H',I,q⟩:=h;exact ⟨σ',H',I.dX,q⟩
 |brk=>obtain ⟨σ',H',I,q⟩:=h;exact ⟨σ',H',I.dX,q⟩
 |cont=>obtain ⟨σ',H',I,q⟩:=h;exact ⟨σ',H',I.dX,q⟩
 |ret u=>obtain ⟨v,σ',H',I,r,q⟩:=h;exact ⟨v,σ',H',I.dX,r,q⟩
theorem PSs.nox {st:List Stmt}{t:TS} (h:PSs X.nox st t):PSs X st t:=fun pins s σ H D I hw =>
 wpAny_mono (h pins s σ H D (I.jv _) hw) (fun _ _ q=>q.dX) fun _ _ z=>False.elim z
end
section
variable {X : Cx} {st : Stmt} {rest : List Stmt} {t u : TS} {e : Expr} {te : TE} {pos : Pos}
noncomputable def wN:TS:=fun D σ H=>D.nx σ H
noncomputable def AN (t u:TS):TS:=fun D σ H=>t { D with nx:=u D } σ H
theorem uQ:PSs X [] wN:=fun _ _ σ H _ I h=>wpAny_execs_nil ⟨σ,H,I,h⟩
theorem rX (h1:PS X st t) (h2:PSs X rest u):PSs X (st::rest) (AN t u):=by
 intro pins s σ H D I h
 refine wpAny_execs_cons (thn (h1 pins s σ H { D with nx:=u D } I h) fun f s1 q=>?_)
 cases f with
 |next =>
  obtain ⟨σ',H',I',q⟩:=q
  exact h2 pins s1 σ' H' D I' q
 |ret v=>exact q
 |brk=>exact q
 |cont=>exact q
noncomputable def xC:TS:=fun D σ H=>D.bk σ H
noncomputable def zj:TS:=fun D σ H=>D.ct σ H
theorem uR:PS X (.Pass pos) wN:=fun _ _ σ H _ I h=>wpAny_Pass ⟨σ,H,I,h⟩
theorem rY:PS X (.Break pos) xC:=fun _ _ σ H _ I h=>wpAny_Break ⟨σ,H,I,h⟩
theorem mE:PS X (.Continue pos) zj:=fun _ _ σ H _ I h=>wpAny_Continue ⟨σ,H,I,h⟩
theorem Inv.quiet {pins:List (Addr×Obj)}{σ:St}{H:Hp}{s:Shared} (I:Inv X pins σ H s):interactive X.env=false:=by simp [interactive,I.ok.kind]
noncomputable def zk (te:TE):TS:=fun D σ H=>te σ H fun _ H1=>D.nx σ H1
theorem fA (he:PE X e te) (hs:swapsWith e none pos.line X.env=pure false:=by rfl):PS X (.Expr e pos) (zk te):=by
 intro pins s σ H D I h
 exact wpAny_Expr_any (thn (he pins s σ H _ I h) fun v s1 ⟨x,H1,I1,r1,q1⟩=>⟨σ,H1,I1,q1⟩) I.quiet hs
noncomputable def AO (te:TE):TS:=fun D σ H=>te σ H D.rt
theorem xD (he:PE X e te):PS X (.Return (some e) pos) (AO te):=by
 intro pins s σ H D I h
 exact wpAny_Return_some (thn (he pins s σ H _ I h) fun v s1 ⟨x,H1,I1,r1,q1⟩=>⟨x,σ,H1,I1,r1,q1⟩)
noncomputable def zl:TS:=fun D _ H=>D.rt .non H
theorem uS:PS X (.Return none pos) zl:=fun _ _ σ H _ I h=>wpAny_Return_none ⟨.non,σ,H,I,rfl,h⟩
noncomputable def AQ (c:TT) (t u:TS):TS:=fun D σ H=>c σ H fun b H1=>if b=true then t D σ H1 else u D σ H1
theorem zm {c:Expr}{a b:List Stmt}{tc:TT} (hc:PT X c tc) (ha:PSs X a t) (hb:PSs X b u):PS X (.If c a b pos) (AQ tc t u):=by
 intro pins s σ H D I h
 refine wpAny_If (thn (hc pins s σ H _ I h) fun d s1 ⟨H1,I1,q1⟩=>?_)
 cases d with
 |true=>exact ha pins s1 σ H1 D I1 q1
 |false=>exact hb pins s1 σ H1 D I1 q1
end
noncomputable abbrev TG:=V→St→Hp→(St→Hp→Prop)→Prop
noncomputable abbrev TGs:=List V→St→Hp→(St→Hp→Prop)→Prop
noncomputable def PG (X:Cx) (target:Expr) (t:TG):Prop :=
 ∀ (pins:List (Addr×Obj)) (s:Shared) (σ:St) (H:Hp) (v:V) (u:Value) (Q:St→Hp→Prop),Inv X pins σ H s→RelV v u→t v σ H Q →
  wpAny (model X.prog X.w) X.A (assign target X.env u) (fun _ s'=>∃ σ' H',Inv X pins σ' H' s'∧Q σ' H') X.xe s
noncomputable def PGs (X:Cx) (ts:List Expr) (t:TGs):Prop :=
 ∀ (pins:List (Addr×Obj)) (s:Shared) (σ:St) (H:Hp) (vs:List V) (us:List Value) (Q:St→Hp→Prop),Inv X pins σ H s→Vals vs us→t vs σ H Q →
  wpAny (model X.prog X.w) X.A (assignInOrder ((assignEach ts X.env).map (·.2)) us) (fun _ s'=>∃ σ' H',Inv X pins σ' H' s'∧Q σ' H') X.xe s
noncomputable abbrev qH:=V→V→V→Hp→(Hp→Prop)→Prop
noncomputable def ip (X:Cx) (t:qH):Prop :=
 ∀ (pins:List (Addr×Obj)) (s:Shared) (σ:St) (H:Hp) (o i v:V) (ov iv u:Value) (Q:Hp→Prop),Inv X pins σ H s→RelV o ov→RelV i iv→RelV v u→t o i v H Q →
  wpAny (model X.prog X.w) X.A (setItem ov iv u) (fun _ s'=>∃ H',Inv X pins σ H' s'∧Q H') X.xe s
noncomputable abbrev TIp:=V→V→Hp→VK→Prop
noncomputable def PIp (X:Cx) (op:Operator) (t:TIp):Prop :=
 ∀ (pins:List (Addr×Obj)) (s:Shared) (σ:St) (H:Hp) (x y:V) (v u:Value) (Q:VK),Inv X pins σ H s→RelV x v→RelV y u→t x y H Q →
  wpAny (model X.prog X.w) X.A (inplaceOp op v u) (EP X pins σ Q) X.xe s
section
variable {X : Cx} {pos : Pos}
noncomputable def pN (i:Nat):TG:=fun v σ H Q=>Q (σ.set i (some v)) H
theorem pO {i:Nat}{x:Str} (hN:X.N.Nodup) (hi:X.N[i]?=some x) (hx:Loc X.env.scope x) (hf:X.fn x=true∨X.env.scope.names.lookup x=some .local:=by first|exact .inl rfl|exact .inr rfl|assumption):PG X (.Name x pos) (pN i):=by
 intro pins s σ H v u Q I r h
 exact wpAny_assign_Name (mD I hN hi hx r (fun s' I'=>⟨_,H,I',h⟩) hf)
noncomputable def zo:TGs:=fun vs σ H Q=>vs=[]∧Q σ H
noncomputable def wO (t:TG) (u:TGs):TGs:=fun vs σ H Q=>∃ v r,vs=v::r∧t v σ H fun σ' H'=>u r σ' H' Q
theorem uT:PGs X [] zo:=by
 intro pins s σ H vs us Q I r h
 obtain ⟨e,h⟩:=h
 subst e
 cases r
 exact assignInOrder_nil ⟨σ,H,I,h⟩
theorem rZ {e:Expr}{es:List Expr}{t:TG}{u:TGs} (h1:PG X e t) (h2:PGs X es u)
  (hs:(assignEach (e::es) X.env).map (·.2)=assign e X.env::(assignEach es X.env).map (·.2):=by rfl):PGs X (e::es) (wO t u):=by
 intro pins s σ H vs us Q I r h
 obtain ⟨v,vr,e1,h⟩:=h
 subst e1
 cases r with
 |cons r rr =>
  rw [hs]
  refine assignInOrder_cons (thn (h1 pins s σ H _ _ _ I r h) fun _ s1 ⟨σ1,H1,I1,q1⟩=>?_)
  exact h2 pins s1 σ1 H1 _ _ Q I1 rr q1
noncomputable def AR (K:PySem.W.Frag) (n:Nat) (t:TGs):TG:=fun v σ H Q=>∃ a xs,v=.ref a∧SqT K H a xs∧xs.length=n∧t xs σ H Q
theorem xE {es:List Expr}{k:Nat}{t:TGs}{n:Nat} (hc:X.calm=true) (h:PGs X es t)
  (hn:(assignEach es X.env).length=n:=by rfl) (hst:(assignEach es X.env).findIdx? (·.1)=none:=by rfl):PG X (.Tuple es k pos) (AR X.K n t):=by
 intro pins s σ H v u Q I r hw
 obtain ⟨a,xs,e1,hq,hl,hw⟩:=hw
 subst e1
 cases r
 obtain ⟨its,rv,ht,hz⟩:=I.tuple hq
 refine assign_Tuple_tuple (I.ok.hd hc) ht (by simp [hn,←hl,rv.length]) hst fun h' hx=>?_
 have I1:Inv X pins σ H { s with heap:=h' }:=I.kept (t':=s.toks) fun b o e=>hx b o (Nat.ne_of_lt (Heap.lt_size e)) e
 exact h pins _ σ H xs _ Q I1 (by simpa using rv) hw
noncomputable def AS (to ti:TE) (t:qH):TG:=fun v σ H Q=>to σ H fun o H1=>ti σ H1 fun i H2=>t o i v H2 fun H3=>Q σ H3
theorem r6 {o i:Expr}{to ti:TE}{t:qH} (ho:PE X o to) (hi:PE X i ti) (hs:ip X t)
  (ha:∀ v,assign (.Subscript o i pos) X.env v=(do
   let ov ←holding [v] (eval o X.env)
   let iv ←holding [v,ov] (eval i X.env)
   standAt pos
   holding [v,ov,iv] (setItem ov iv v)
   release [v,ov,iv] []):=by intro _;rfl):PG X (.Subscript o i pos) (AS to ti t):=by
 intro pins s σ H v u Q I r h
 rw [ha]
 refine wpAny_bind (wpAny_holding (thn (ho pins s σ H _ I h) fun ov s1 ⟨x,H1,I1,r1,q1⟩=>?_))
 refine wpAny_bind (wpAny_holding (thn (hi pins s1 σ H1 _ I1 q1) fun iv s2 ⟨y,H2,I2,r2,q2⟩=>?_))
 refine wpAny_bind (wpAny_standAt (wpAny_bind (wpAny_holding (thn (hs pins s2 σ H2 x y v ov iv u _ I2 r1 r2 r q2) fun _ s3 ⟨H3,I3,q3⟩=>?_))))
 exact wpAny_release ⟨σ,H3,I3,q3⟩
noncomputable def xF (te:TE) (g:TG):TS:=fun D σ H=>te σ H fun x H1=>g x σ H1 D.nx
theorem og {tg e:Expr}{te:TE}{g:TG} (he:PE X e te) (hg:PG X tg g) (hs:swapsWithSole [tg] e pos.line X.env=pure false:=by rfl) (hw:swappedStores [tg] e X.env=pure none:=by rfl)
  (h1:(assignEach [tg] X.env).map (·.2)=[assign tg X.env]:=by rfl):PS X (.Assign [tg] e pos) (xF te g):=by
 intro pins s σ H D I h
 refine wpAny_Assign_stores (thn (he pins s σ H _ I h) fun v s1 ⟨x,H1,I1,r1,q1⟩=>?_) hs hw
 rw [h1]
 exact thn (hg pins s1 σ H1 x v _ I1 r1 q1) fun _ s2 q=>q
theorem r9 {i:Nat}{x:Str}{e:Expr}{te:TE}{pos':Pos} (hN:X.N.Nodup) (hi:X.N[i]?=some x) (hx:Loc X.env.scope x) (he:PE X e te) (hs:swapsWith e (some (.Name x pos')) pos.line X.env=pure false:=by rfl) (hf:X.fn x=true∨X.env.scope.names.lookup x=some .local:=by first|exact .inl rfl|exact .inr rfl|assumption) :
  PS X (.Assign [.Name x pos'] e pos) (xF te (pN i)):=by
 intro pins s σ H D I h
 refine wpAny_Assign_Name (thn (he pins s σ H _ I h) fun v s1 ⟨y,H1,I1,r1,q1⟩=>?_) hs
 exact mD I1 hN hi hx r1 (fun s2 I2=>⟨_,H1,I2,q1⟩) hf
noncomputable def zp (to ti te:TE) (tget:V→V→Hp→VK→Prop) (tip:TIp) (tset:qH):TS:=fun D σ H=>to σ H fun o H1=>ti σ H1 fun i H2=>tget o i H2 fun x H3=>te σ H3 fun y H4=>tip x y H4 fun z H5=>tset o i z H5 fun H6=>D.nx σ H6
noncomputable def zq (X:Cx) (t:V→V→Hp→VK→Prop):Prop :=
 ∀ (pins:List (Addr×Obj)) (s:Shared) (σ:St) (H:Hp) (o i:V) (ov iv:Value) (Q:VK),Inv X pins σ H s→RelV o ov→RelV i iv→t o i H Q →
  wpAny (model X.prog X.w) X.A (getItem ov iv) (EP X pins σ Q) X.xe s
theorem uU {o i e:Expr}{to ti te:TE}{tget:V→V→Hp→VK→Prop}{tip:TIp}{tset:qH}{op:Operator}{tpos:Pos} (ho:PE X o to) (hi:PE X i ti) (hg:zq X tget) (he:PE X e te) (hp:PIp X op tip) (hs:ip X tset)
  (ha:∀ ov iv new,augStore i ov iv new=(do holding [new,ov,iv] (setItem ov iv new);release [new,ov,iv] [];pure .next):=by intros;rfl):PS X (.AugAssign (.Subscript o i tpos) op e pos) (zp to ti te tget tip tset):=by
 intro pins s σ H D I h
 refine wpAny_AugAssign_SubscriptAny (thn (ho pins s σ H _ I h) fun ov s1 ⟨x1,H1,I1,r1,q1⟩=>?_) ha
 refine thn (hi pins s1 σ H1 _ I1 q1) fun iv s2 ⟨x2,H2,I2,r2,q2⟩=>?_
 refine thn (hg pins s2 σ H2 x1 x2 ov iv _ I2 r1 r2 q2) fun old s3 ⟨x3,H3,I3,r3,q3⟩=>?_
 refine thn (he pins s3 σ H3 _ I3 q3) fun v s4 ⟨x4,H4,I4,r4,q4⟩=>?_
 refine thn (hp pins s4 σ H4 x3 x4 old v _ I4 r3 r4 q4) fun new s5 ⟨x5,H5,I5,r5,q5⟩=>?_
 exact thn (hs pins s5 σ H5 x1 x2 x5 ov iv new _ I5 r1 r2 r5 q5) fun _ s6 ⟨H6,I6,q6⟩=>⟨σ,H6,I6,q6⟩
noncomputable def ipI (f:Int→Int→Int):TIp:=fun x y H Q=>∃ i j,x=.int i∧y=.int j∧Q (.int (f i j)) H
theorem xG:PIp X .Add (ipI fun i j=>i+j):=by
 intro pins s σ H x y v u Q I r1 r2 h
 obtain ⟨i,j,e1,e2,q⟩:=h
 subst e1;subst e2
 obtain ⟨t,rfl⟩:=r1
 obtain ⟨t',rfl⟩:=r2
 exact iadd_int ⟨.int _,H,I.tok _,⟨_,rfl⟩,q⟩
theorem xH:PIp X .Sub (ipI fun i j=>i - j):=by
 intro pins s σ H x y v u Q I r1 r2 h
 obtain ⟨i,j,e1,e2,q⟩:=h
 subst e1;subst e2
 obtain ⟨t,rfl⟩:=r1
 obtain ⟨t',rfl⟩:=r2
 exact isub_int ⟨.int _,H,I.tok _,⟨_,rfl⟩,q⟩
end
section
variable {X : Cx} {pos : Pos}
noncomputable def xI (c:TT) (tb:TS):TS:=fun D σ H=>∃ W:Nat→St→Hp→Prop,(∃ m,W m σ H)∧∀ m σ H,W m σ H →
 c σ H fun b H1=>if b=true then ∃ N:St→Hp→Prop,(∀ σ' H',N σ' H'→∃ m',m'<m∧W m' σ' H')∧tb { D with nx:=N,ct:=N,bk:=D.nx } σ H1 else D.nx σ H1
theorem r_ {c:Expr}{body:List Stmt}{tc:TT}{tb:TS} (hp:PassesOwn (model X.prog X.w) X.A X.env X.xe) (hc:PT X c tc) (hb:PSs X body tb):PS X (.While c body [] pos) (xI tc tb):=by
 intro pins s σ H D I h
 obtain ⟨W,⟨m0,w0⟩,turn⟩:=h
 refine wpAny_While (codeAny_whileLoop (fun n s'=>∃ σ' H',Inv X pins σ' H' s'∧W n σ' H') ?_ m0 ⟨σ,H,I,w0⟩)
 rintro n s1 ⟨σ1,H1,I1,w1⟩
 refine wpAny_passesOwn hp (thn (hc pins s1 σ1 H1 _ I1 (turn n σ1 H1 w1)) fun b s2 ⟨H2,I2,q2⟩=>?_)
 cases b with
 |true =>
  obtain ⟨N,hN,q2⟩:=q2
  rw [if_pos rfl]
  refine wpAny_passesOwn hp (thn (hb pins s2 σ1 H2 _ I2 q2) fun f s3 q3=>?_)
  cases f with
  |next =>
   obtain ⟨σ3,H3,I3,n3⟩:=q3
   obtain ⟨m',hm,w3⟩:=hN σ3 H3 n3
   exact ⟨m',hm,σ3,H3,I3,w3⟩
  |cont =>
   obtain ⟨σ3,H3,I3,n3⟩:=q3
   obtain ⟨m',hm,w3⟩:=hN σ3 H3 n3
   exact ⟨m',hm,σ3,H3,I3,w3⟩
  |brk=>exact q3
  |ret v=>exact q3
 |false =>
  rw [if_neg Bool.false_ne_true]
  exact wpAny_execs_nil ⟨σ1,H2,I2,q2⟩
end
structure It where
 go:Nat→Hp→Prop
 yld:Nat→Hp→V→Hp→Prop
 stop:Nat→Hp→Prop
noncomputable def fB (X:Cx) (pins:List (Addr×Obj)) (H:Hp) (b:Addr):Prop :=
 H b=none∧b≠X.env.locals∧b∉X.fs∧(b∈X.ex∨X.s₀.heap.objs.size≤b)∧(∀ x c,X.env.cells.lookup x=some c→c≠b)∧∀ p∈X.pn++pins,p.1≠b
theorem Inv.uV {X:Cx}{pins:List (Addr×Obj)}{σ:St}{H H':Hp}{s:Shared}{b:Addr} (I:Inv X pins σ H s) (hb:s.heap.objs.size≤b) (hn:H' b=none):fB X pins H' b:=by
 refine ⟨hn,Nat.ne_of_gt (Nat.lt_of_lt_of_le I.lt hb),I.zd hb,.inr (Nat.le_trans I.sz hb),fun x c e z=>?_,fun p hp z=>?_⟩
 ·obtain ⟨v,q⟩:=I.cell x c e
  exact absurd (Nat.lt_of_lt_of_le q.lt (by rw [z];exact hb)) (Nat.lt_irrefl _)
 ·exact absurd (Nat.lt_of_lt_of_le (Heap.lt_size (I.pin p hp).1) (by rw [z];exact hb)) (Nat.lt_irrefl _)
structure Turn (P:Program) (w:World) (K:PySem.W.Frag) (tg:Expr) (J:It) (fp:List Addr) (it:Addr) (tn:Nat→Heap→Prop):Prop where
 mem:it∈fp
 obj:∀ i h,tn i h→∀ b∈fp,∃ o,h.get? b=some o∧∀ v,o.data≠.cell v
 keep:∀ i h h',tn i h→(∀ b∈fp,∀ o,h.get? b=some o→h'.get? b=some o)→tn i h'
 item:∀ (X:Cx),X.prog=P→X.w=w→X.K=K→X.calm=true→∀ (i:Nat) (pins:List (Addr×Obj)) (s:Shared) (σ:St) (H:Hp) (E:Value→Shared→Prop),Inv X pins σ H s→(∀ b∈fp,fB X pins H b)→tn i s.heap→J.go i H →
  wpAny (model P w) X.A (pyNext (.ref it)) (fun r s1=>∃ u,r=some u ∧
   wpAny (model P w) X.A (letOwnedTupleGo tg (.ref it) u) (fun _ s2=>∃ x H',Inv X pins σ H' s2∧RelV x u∧J.yld i H x H'∧tn (i+1) s2.heap∧∀ b∈fp,H' b=none) E s1) E s
 done:∀ (X:Cx),X.prog=P→X.w=w→X.K=K→X.calm=true→∀ (i:Nat) (pins:List (Addr×Obj)) (s:Shared) (σ:St) (H:Hp) (E:Value→Shared→Prop),Inv X pins σ H s→(∀ b∈fp,fB X pins H b)→tn i s.heap→J.stop i H →
  wpAny (model P w) X.A (pyNext (.ref it)) (fun r s1=>r=none∧Inv X pins σ H s1) E s
 self:∀ (A:Around) (i:Nat) (s:Shared) (Q:Value→Shared→Prop) (E:Value→Shared→Prop),tn i s.heap→Q (.ref it) s→wpAny (model P w) A (pyIter (.ref it)) Q E s
noncomputable abbrev TI:=St→Hp→(It→Hp→Prop)→Prop
noncomputable def PIE (X:Cx) (pins:List (Addr×Obj)) (σ:St) (tg:Expr) (R:It→Hp→Prop) (itv:Value) (s2:Shared):Prop :=
 ∃ (it:Addr) (fp:List Addr) (tn:Nat→Heap→Prop) (J:It) (H':Hp),itv=.ref it∧Inv X pins σ H' s2∧Turn X.prog X.w X.K tg J fp it tn∧tn 0 s2.heap∧(∀ b∈fp,fB X pins H' b)∧R J H'
noncomputable def PI (X:Cx) (tg iter:Expr) (wi:TI):Prop :=
 ∀ (pins:List (Addr×Obj)) (s:Shared) (σ:St) (H:Hp) (R:It→Hp→Prop),Inv X pins σ H s→wi σ H R →
  wpAny (model X.prog X.w) X.A (eval iter X.env) (fun v s1=>wpAny (model X.prog X.w) X.A (pyIter v) (PIE X pins σ tg R) X.xe s1) X.xe s
theorem sd {M : Model} {A : Around} {E : Value → Shared → Prop} {s : Shared} {tg : Expr} {it : Addr} {u : Value} {o : Obj} {n : String} {vs : Array Value} {Q : Unit → Shared → Prop} (ho : s.heap.get? it = some o) (hc : o.cls = .type n) (hd : o.data = .fields vs)
    (hn : ["enumerate", "zip", "dict_itemiterator", "dict_reverseitemiterator", "odict_iterator", "itertools.zip_longest", "itertools.pairwise"].contains n = false) (hQ : Q () s) : wpAny M A (letOwnedTupleGo tg (.ref it) u) Q E s := by
  unfold letOwnedTupleGo
  cases tg <;> first
    | exact wpAny_pure hQ
    | (cases u <;> first
        | exact wpAny_pure hQ
        | (refine wpAny_bind (wpAny_load ho ?_)
           rw [hc, hd]
           show wpAny M A (if (["enumerate", "zip", "dict_itemiterator", "dict_reverseitemiterator", "odict_iterator", "itertools.zip_longest", "itertools.pairwise"].contains n && vs[0]? == some (rawInt _)) = true then _ else _) Q E s
           rw [if_neg (by intro h; rw [hn, Bool.false_and] at h; cases h)]
           exact wpAny_pure hQ))
noncomputable def Itl (K:PySem.W.Frag) (a:Addr):It :=
 ⟨fun i H=>∃ xs x,SqL K H a xs∧xs[i]?=some x,fun i H x H'=>H'=H∧∀ xs,SqL K H a xs→xs[i]?=some x,fun i H=>∃ xs,SqL K H a xs∧xs.length≤i⟩
noncomputable def Itt (K:PySem.W.Frag) (a:Addr):It :=
 ⟨fun i H=>∃ xs x,SqT K H a xs∧xs[i]?=some x,fun i H x H'=>H'=H∧∀ xs,SqT K H a xs→xs[i]?=some x,fun i H=>∃ xs,SqT K H a xs∧xs.length≤i⟩
noncomputable def Itr (lo:Int) (n:Nat):It:=⟨fun i _=>i<n,fun i H x H'=>H'=H∧x=.int (lo+i),fun i _=>n≤i⟩
theorem qI {P:Program}{w:World}{K:PySem.W.Frag}{tg:Expr} (a it:Addr):Turn P w K tg (Itl K a) [it] it (fun i h=>h.IsListIter it a i) where
 mem:=by simp
 obj:=fun i h st b hb=>by
  have e:b=it:=by simpa using hb
  subst e
  obtain ⟨o,e,c,d⟩:=st
  exact ⟨o,e,fun v z=>by rw [d] at z;cases z⟩
 keep:=fun i h h' st k=>st.at fun o e=>k it (by simp) o e
 item:=by
  intro X hP hw hK hc i pins s σ H E I hf st hg
  subst hP hw hK
  obtain ⟨xs,x,hq,hx⟩:=hg
  obtain ⟨its,rv,p,hz⟩:=I.list hq
  obtain ⟨u,hu,ru⟩:=rv.get hx
  obtain ⟨f0,f1,f2,f3,f4,f5⟩:=hf it (by simp)
  refine wpAny_pyNext_list_item st p.isList (x:=u) (by simpa using hu) fun h' st' sb=>?_
  have I1:Inv X pins σ H { s with heap:=h' }:=I.turned (t':=s.toks) (fun b o hb e=>(sb.2 b hb).trans e) f0 f1 f3 f4 f5
  obtain ⟨o,e,c,d⟩:=id st'
  exact ⟨u,rfl,sd (s:={ s with heap:=h' }) e c d (by decide) ⟨x,H,I1,ru,⟨rfl,fun ys hy=>by rw [I.il hy hq];exact hx⟩,st',fun b hb=>(hf b hb).1⟩⟩
 done:=by
  intro X hP hw hK hc i pins s σ H E I hf st hg
  subst hP hw hK
  obtain ⟨xs,hq,hx⟩:=hg
  obtain ⟨its,rv,p,hz⟩:=I.list hq
  obtain ⟨f0,f1,f2,f3,f4,f5⟩:=hf it (by simp)
  have hl:=rv.length
  exact wpAny_pyNext_list_end (I.ok.hd hc) st p.isList (by simp;omega) fun h' eb=>⟨rfl,I.turned (t':=s.toks) (fun b o hb e=>eb b o hb e) f0 f1 f3 f4 f5⟩
 self:=fun _ _ _ _ _ st h=>wpAny_pyIter_listiter st h
theorem oh {P:Program}{w:World}{K:PySem.W.Frag}{tg:Expr} (a it:Addr):Turn P w K tg (Itt K a) [it] it (fun i h=>h.IsTupleIter it a i) where
 mem:=by simp
 obj:=fun i h st b hb=>by
  have e:b=it:=by simpa using hb
  subst e
  obtain ⟨o,e,c,d⟩:=st
  exact ⟨o,e,fun v z=>by rw [d] at z;cases z⟩
 keep:=fun i h h' st k=>st.at fun o e=>k it (by simp) o e
 item:=by
  intro X hP hw hK hc i pins s σ H E I hf st hg
  subst hP hw hK
  obtain ⟨xs,x,hq,hx⟩:=hg
  obtain ⟨its,rv,p,hz⟩:=I.tuple hq
  obtain ⟨u,hu,ru⟩:=rv.get hx
  obtain ⟨f0,f1,f2,f3,f4,f5⟩:=hf it (by simp)
  refine wpAny_pyNext_tuple_item st (show s.heap.IsTuple a its.toArray from p) (x:=u) (by simpa using hu) fun h' st' sb=>?_
  have I1:Inv X pins σ H { s with heap:=h' }:=I.turned (t':=s.toks) (fun b o hb e=>(sb.2 b hb).trans e) f0 f1 f3 f4 f5
  obtain ⟨o,e,c,d⟩:=id st'
  exact ⟨u,rfl,sd (s:={ s with heap:=h' }) e c d (by decide) ⟨x,H,I1,ru,⟨rfl,fun ys hy=>by rw [I.eE hy hq];exact hx⟩,st',fun b hb=>(hf b hb).1⟩⟩
 done:=by
  intro X hP hw hK hc i pins s σ H E I hf st hg
  subst hP hw hK
  obtain ⟨xs,hq,hx⟩:=hg
  obtain ⟨its,rv,p,hz⟩:=I.tuple hq
  obtain ⟨f0,f1,f2,f3,f4,f5⟩:=hf it (by simp)
  have hl:=rv.length
  exact wpAny_pyNext_tuple_end (I.ok.hd hc) st (show s.heap.IsTuple a its.toArray from p) (by simp;omega) fun h' eb=>⟨rfl,I.turned (t':=s.toks) (fun b o hb e=>eb b o hb e) f0 f1 f3 f4 f5⟩
 self:=fun _ _ _ _ _ st h=>wpAny_pyIter_tupleiter st h
theorem oi {P:Program}{w:World}{K:PySem.W.Frag}{tg:Expr} (it:Addr) (lo:Int) (n:Nat):Turn P w K tg (Itr lo n) [it] it (fun i h=>IsRangeIter h it (lo+(i:Nat) * 1) ((n:Int) - (i:Nat)) 1) where
 mem:=by simp
 obj:=fun i h st b hb=>by
  have e:b=it:=by simpa using hb
  subst e
  exact ⟨_,st,fun v z=>by
   have z':Data.fields _=Data.cell v:=z
   cases z'⟩
 keep:=fun i h h' st k=>k it (by simp) _ st
 item:=by
  intro X hP hw hK hc i pins s σ H E I hf st hg
  subst hP hw hK
  obtain ⟨f0,f1,f2,f3,f4,f5⟩:=hf it (by simp)
  have W:=Walks.range (prog:=X.prog) (w:=X.w) (I.ok.hd hc) it lo 1 n
  refine W.item i s _ _ hg st fun v h' tk hv st' kk=>?_
  obtain ⟨t,rfl⟩:=hv
  have I1:Inv X pins σ H { s with heap:=h',toks:=tk }:=I.turned (fun b o hb e=>kk b o (by simpa using hb) e) f0 f1 f3 f4 f5
  refine ⟨_,rfl,sd (s:={ s with heap:=h',toks:=tk }) (n:="range_iterator") st' rfl rfl (by decide) ⟨.int (lo+i),H,I1,⟨t,?_⟩,⟨rfl,rfl⟩,st',fun b hb=>(hf b hb).1⟩⟩
  rw [Int.mul_one]
 done:=by
  intro X hP hw hK hc i pins s σ H E I hf st hg
  subst hP hw hK
  obtain ⟨f0,f1,f2,f3,f4,f5⟩:=hf it (by simp)
  exact wpAny_pyNext_range_end (I.ok.hd hc) st (by have:n≤i:=hg;omega) fun h' eb=>⟨rfl,I.turned (t':=s.toks) (fun b o hb e=>eb b o hb e) f0 f1 f3 f4 f5⟩
 self:=fun _ _ _ _ _ st h=>wpAny_pyIter_rangeiter st h
end L2
namespace L2
open PySem PySem.Spec PyProof.Rows
section
variable {X : Cx} {tg : Expr}
noncomputable def zr (K:PySem.W.Frag) (tl:TE):TI:=fun σ H R=>tl σ H fun x H1=>∃ a,x=.ref a∧(∃ xs,SqL K H1 a xs)∧R (Itl K a) H1
noncomputable def AU (K:PySem.W.Frag) (tl:TE):TI:=fun σ H R=>tl σ H fun x H1=>∃ a,x=.ref a∧(∃ xs,SqT K H1 a xs)∧R (Itt K a) H1
theorem uW {l:Expr}{tl:TE} (hl:PE X l tl):PI X tg l (zr X.K tl):=by
 intro pins s σ H R I h
 refine thn (hl pins s σ H _ I h) fun v s1 ⟨x,H1,I1,r1,q1⟩=>?_
 obtain ⟨a,e,⟨xs,hq⟩,q⟩:=q1
 subst e
 cases r1
 obtain ⟨its,rv,p,hz⟩:=I1.list hq
 refine wpAny_pyIter_list p.isList ?_
 refine ⟨s1.heap.objs.size,[s1.heap.objs.size],_,_,H1,rfl,I1.kept (t':=s1.toks) fun b o e=>Heap.get?_push_of_some _ e,qI a _,⟨_,Heap.get?_push_size _ rfl,rfl,rfl⟩,fun b hb=>?_,q⟩
 have e:b=s1.heap.objs.size:=by simpa using hb
 subst e
 exact I1.uV (Nat.le_refl _) (I1.hok.fresh (Nat.le_refl _))
theorem xJ {l:Expr}{tl:TE} (hl:PE X l tl):PI X tg l (AU X.K tl):=by
 intro pins s σ H R I h
 refine thn (hl pins s σ H _ I h) fun v s1 ⟨x,H1,I1,r1,q1⟩=>?_
 obtain ⟨a,e,⟨xs,hq⟩,q⟩:=q1
 subst e
 cases r1
 obtain ⟨its,rv,p,hz⟩:=I1.tuple hq
 refine wpAny_pyIter_tuple (show s1.heap.IsTuple a its.toArray from p) ?_
 refine ⟨s1.heap.objs.size,[s1.heap.objs.size],_,_,H1,rfl,I1.kept (t':=s1.toks) fun b o e=>Heap.get?_push_of_some _ e,oh a _,⟨_,Heap.get?_push_size _ rfl,rfl,rfl⟩,fun b hb=>?_,q⟩
 have e:b=s1.heap.objs.size:=by simpa using hb
 subst e
 exact I1.uV (Nat.le_refl _) (I1.hok.fresh (Nat.le_refl _))
theorem se {pins:List (Addr×Obj)}{σ:St}{H:Hp}{s:Shared}{R:It→Hp→Prop}{E:Value→Shared→Prop}{lo hi:Int}{t u v:Tok}{tk:Nat} (I:Inv X pins σ H s) (h1:-(2 ^ 62)≤lo) (h2:lo<2 ^ 62) (h3:-(2 ^ 62)≤hi) (h4:hi<2 ^ 62)
  (q:R (Itr lo (hi - lo).toNat) H):wpAny (model X.prog X.w) X.A (pyIter (.ref s.heap.objs.size)) (PIE X pins σ tg R) E { s with heap:=s.heap.push { cls:=.type "range",data:=.fields #[.int lo t,.int hi u,.int 1 v] },toks:=tk }:=by
 refine wpAny_pyIter_range (IsRange.new ..) (small_one h1 h2 h3 h4) ?_
 have I1:Inv X pins σ H { s with heap:=s.heap.push { cls:=.type "range",data:=.fields #[.int lo t,.int hi u,.int 1 v] },toks:=tk }:=I.kept fun b o e=>Heap.get?_push_of_some _ e
 refine ⟨(s.heap.push { cls:=.type "range",data:=.fields #[.int lo t,.int hi u,.int 1 v] }).objs.size,[(s.heap.push { cls:=.type "range",data:=.fields #[.int lo t,.int hi u,.int 1 v] }).objs.size],_,_,H,rfl,
  I1.kept (t':=tk) fun b o e=>Heap.get?_push_of_some _ e,oi _ lo (hi - lo).toNat,?_,fun b hb=>?_,q⟩
 ·have e1:lo+((0:Nat):Int) * 1=lo:=by simp
  have e2:(((hi - lo).toNat:Nat):Int) - ((0:Nat):Int)=Builtin.Range.rangeSize lo hi 1:=by rw [rangeSize_one];split <;> omega
  show IsRangeIter _ _ (lo+((0:Nat):Int) * 1) ((((hi - lo).toNat:Nat):Int) - ((0:Nat):Int)) 1
  rw [e1,e2]
  exact Heap.get?_push_size _ rfl
 ·have e:b=(s.heap.push { cls:=.type "range",data:=.fields #[.int lo t,.int hi u,.int 1 v] }).objs.size:=by simpa using hb
  subst e
  exact I1.uV (Nat.le_refl _) (I1.hok.fresh (Nat.le_refl _))
noncomputable def zt (ta:TA):TI:=fun σ H R=>ta σ H fun vs H1=>∃ j:Int,vs=[.int j]∧-(2 ^ 62)≤j∧j<2 ^ 62∧R (Itr 0 j.toNat) H1
theorem qJ {a:Expr}{ta:TA}{p pos:Pos} (hg:Gl X "range") (hm:X.mg "range"=none) (ha:PA X [a] ta) (hs:starEach [a] X.env=[(false,eval a X.env)]:=by rfl):PI X tg (.Call (.Name "range" p) [a] [] pos) (zt ta):=by
 intro pins s σ H R I h
 refine Call_ (dr I hg hm boot_range (PyProof.Rows.callWith_type1 (thn (ha pos pins s σ H _ I h) fun us s1 ⟨vs,H1,I1,r1,q1⟩=>?_) hs rfl))
 obtain ⟨j,e,q1,q2,q⟩:=q1
 subst e
 cases r1 with
 |cons r rr =>
  cases rr
  obtain ⟨t,rfl⟩:=r
  exact call_range_1 (se I1 (by omega) (by omega) q1 q2 (by simpa using q))
noncomputable def AV (wi:TI) (g:TG) (tb:TS):TS:=fun D σ H=>wi σ H fun J H1=>∃ W:Nat→Nat→St→Hp→Prop,(∃ m,W 0 m σ H1)∧∀ i m σ H,W i m σ H →
 (J.stop i H∧D.nx σ H)∨(J.go i H∧∃ N:St→Hp→Prop,(∀ σ' H',N σ' H'→∃ m',m'<m∧W (i+1) m' σ' H')∧∀ x H',J.yld i H x H'→g x σ H' fun σ2 H2=>tb { D with nx:=N,ct:=N,bk:=D.nx } σ2 H2)
noncomputable def iq (fp:List Addr) (h:Heap):List (Addr×Obj):=fp.filterMap fun b=>(h.get? b).map fun o=>(b,o)
theorem du {fp:List Addr}{h:Heap}{b:Addr}{o:Obj} (hb:b∈fp) (e:h.get? b=some o):(b,o)∈iq fp h:=List.mem_filterMap.mpr ⟨b,hb,by rw [e];rfl⟩
theorem qK {fp:List Addr}{h:Heap}{p:Addr×Obj} (hp:p∈iq fp h):p.1∈fp∧h.get? p.1=some p.2:=by
 obtain ⟨b,hb,e⟩:=List.mem_filterMap.mp hp
 cases q:h.get? b with
 |none=>rw [q] at e;cases e
 |some o =>
  rw [q] at e
  have e':(b,o)=p:=Option.some.inj e
  subst e'
  exact ⟨hb,q⟩
theorem Inv.pinned {pins:List (Addr×Obj)}{σ:St}{H:Hp}{s:Shared}{fp:List Addr} (I:Inv X pins σ H s) (hf:∀ b∈fp,fB X pins H b) (ho:∀ b∈fp,∃ o,s.heap.get? b=some o∧∀ v,o.data≠.cell v):Inv X (pins++iq fp s.heap) σ H s :=
 I.eC fun p hp=>(List.mem_append.mp hp).elim (fun z=>I.pin p (List.mem_append_right _ z)) fun z=>by
  obtain ⟨hb,e⟩:=qK z
  obtain ⟨f0,f1,f2,_⟩:=hf p.1 hb
  obtain ⟨o,e',d⟩:=ho p.1 hb
  rw [e] at e';cases e'
  exact ⟨e,f0,f1,f2,d⟩
theorem Inv.ir {pins pl:List (Addr×Obj)}{σ:St}{H:Hp}{s:Shared} (I:Inv X (pins++pl) σ H s):Inv X pins σ H s:=I.eC fun p hp=>I.pin p (List.mem_append_right _ (List.mem_append_left _ hp))
theorem xK {iter:Expr}{body:List Stmt}{wi:TI}{g:TG}{tb:TS}{pos:Pos} (hp:PassesOwn (model X.prog X.w) X.A X.env X.xe) (hc:X.calm=true) (hi:PI X tg iter wi) (hg:PG X tg g) (hb:PSs X body tb)
  (hs:∀ x,foldedSetIterable iter X.env x=pure x:=by intro _;rfl):PS X (.For tg iter body [] pos) (AV wi g tb):=by
 intro pins s σ H D I h
 refine wpAny_For (thn (hi pins s σ H _ I h) fun v s1 h1=>thn h1 fun itv s2 h2=>?_) hs
 obtain ⟨it,fp,tn,J,H2,e,I2,T,st2,f2,W,⟨m0,w0⟩,turn⟩:=h2
 subst e
 have stat:∀ {H':Hp},(∀ b∈fp,H' b=none)→∀ b∈fp,fB X pins H' b:=fun hn b hb=>⟨hn b hb,(f2 b hb).2⟩
 refine codeAny_forLoop_any (fun n s'=>∃ i σ' H',Inv X pins σ' H' s'∧tn i s'.heap∧(∀ b∈fp,H' b=none)∧W i n σ' H') ?_ m0 ⟨0,σ,H2,I2,st2,fun b hb=>(f2 b hb).1,w0⟩
 rintro n s3 ⟨i,σ3,H3,I3,st3,fr3,w3⟩
 rcases turn i n σ3 H3 w3 with ⟨stop,qn⟩|⟨go,N,hN,step⟩
 ·refine wpAny_passesOwn hp (thn (T.done X rfl rfl rfl hc i pins s3 σ3 H3 X.xe I3 (stat fr3) st3 stop) fun r s4 ⟨hr,I4⟩=>?_)
  subst hr
  exact wpAny_execs_nil ⟨σ3,H3,I4,qn⟩
 ·refine wpAny_passesOwn hp (thn (T.item X rfl rfl rfl hc i pins s3 σ3 H3 X.xe I3 (stat fr3) st3 go) fun r s4 ⟨u,hr,h4⟩=>?_)
  subst hr
  refine wpAny_passesOwn hp (thn h4 fun _ s5 ⟨x,H5,I5,r5,y5,st5,fr5⟩=>?_)
  have I5':=I5.pinned (stat fr5) (T.obj _ _ st5)
  refine wpAny_passesOwn hp (thn (hg _ s5 σ3 H5 x u _ I5' r5 (step x H5 y5)) fun _ s6 ⟨σ6,H6,I6,q6⟩=>?_)
  refine wpAny_passesOwn hp (thn (hb _ s6 σ6 H6 _ I6 q6) fun f s7 q7=>?_)
  have again:∀ {σ7:St} {H7:Hp},Inv X (pins++iq fp s5.heap) σ7 H7 s7→N σ7 H7→∃ m,m<n∧∃ i σ' H',Inv X pins σ' H' s7∧tn i s7.heap∧(∀ b∈fp,H' b=none)∧W i m σ' H':=fun {σ7 H7} I7 n7=>by
   obtain ⟨m',hm,w7⟩:=hN σ7 H7 n7
   refine ⟨m',hm,i+1,σ7,H7,I7.ir,T.keep _ _ _ st5 fun b hb o e=>(I7.pin (b,o) (List.mem_append_right _ (List.mem_append_right _ (du hb e)))).1,fun b hb=>?_,w7⟩
   obtain ⟨o,e,d⟩:=T.obj _ _ st5 b hb
   exact (I7.pin (b,o) (List.mem_append_right _ (List.mem_append_right _ (du hb e)))).2.1
  cases f with
  |next=>obtain ⟨σ7,H7,I7,n7⟩:=q7;exact again I7 n7
  |cont=>obtain ⟨σ7,H7,I7,n7⟩:=q7;exact again I7 n7
  |brk=>obtain ⟨σ7,H7,I7,q7⟩:=q7;exact ⟨σ7,H7,I7.ir,q7⟩
  |ret v=>obtain ⟨x7,σ7,H7,I7,r7,q7⟩:=q7;exact ⟨x7,σ7,H7,I7.ir,r7,q7⟩
end
end L2
namespace L2
open PySem PySem.Spec PyProof.Rows
noncomputable abbrev R2:=V→V→Hp→VK→Prop
noncomputable def OpR (X:Cx) (f:Value→Value→Sem Value) (r:R2):Prop :=
 ∀ (pins:List (Addr×Obj)) (s:Shared) (σ:St) (H:Hp) (x y:V) (v u:Value) (Q:VK),Inv X pins σ H s→RelV x v→RelV y u→r x y H Q →
  wpAny (model X.prog X.w) X.A (f v u) (EP X pins σ Q) X.xe s
noncomputable def iu (X:Cx) (f:Value) (r:List V→Hp→VK→Prop):Prop :=
 ∀ (pins:List (Addr×Obj)) (s:Shared) (σ:St) (H:Hp) (xs:List V) (us:List Value) (Q:VK),Inv X pins σ H s→Vals xs us→r xs H Q →
  wpAny (model X.prog X.w) X.A (call f us) (EP X pins σ Q) X.xe s
noncomputable def AW (X:Cx) (r:V→Hp→(Bool→Hp→Prop)→Prop):Prop :=
 ∀ (pins:List (Addr×Obj)) (s:Shared) (σ:St) (H:Hp) (x:V) (v:Value) (Q:Bool→Hp→Prop),Inv X pins σ H s→RelV x v→r x H Q →
  wpAny (model X.prog X.w) X.A (truthy v) (TP X pins σ Q) X.xe s
noncomputable def rI (C:Int→Int→Prop) (g:Int→Int→V):R2:=fun x y H Q=>∃ i j,x=.int i∧y=.int j∧C i j∧Q (g i j) H
noncomputable def rI0 (g:Int→Int→V):R2:=fun x y H Q=>∃ i j,x=.int i∧y=.int j∧Q (g i j) H
section
variable {X : Cx} {a b c : Expr} {ta tb tc : TE} {pos : Pos}
theorem opI {f:Value→Value→Sem Value}{C:Int→Int→Prop}{g:Int→Int→Int}
  (rule:∀ (i j:Int) (t u:Tok) (s:Shared) (Q:Value→Shared→Prop) (E:Value→Shared→Prop),C i j→Q (.int (g i j) s.toks) { s with toks:=s.toks+1 }→wpAny (model X.prog X.w) X.A (f (.int i t) (.int j u)) Q E s) :
  OpR X f (rI C fun i j=>.int (g i j)):=by
 intro pins s σ H x y v u Q I rx ry h
 obtain ⟨i,j,rfl,rfl,hc,q⟩:=h
 obtain ⟨t,rfl⟩:=rx
 obtain ⟨t',rfl⟩:=ry
 exact rule i j t t' s _ _ hc ⟨.int (g i j),H,I.tok _,⟨_,rfl⟩,q⟩
theorem zu {f:Value→Value→Sem Value}{g:Int→Int→Int}
  (rule:∀ (i j:Int) (t u:Tok) (s:Shared) (Q:Value→Shared→Prop) (E:Value→Shared→Prop),Q (.int (g i j) s.toks) { s with toks:=s.toks+1 }→wpAny (model X.prog X.w) X.A (f (.int i t) (.int j u)) Q E s) :
  OpR X f (rI0 fun i j=>.int (g i j)):=by
 intro pins s σ H x y v u Q I rx ry h
 obtain ⟨i,j,rfl,rfl,q⟩:=h
 obtain ⟨t,rfl⟩:=rx
 obtain ⟨t',rfl⟩:=ry
 exact rule i j t t' s _ _ ⟨.int (g i j),H,I.tok _,⟨_,rfl⟩,q⟩
theorem xM {f:Value→Value→Sem Value}{g:Int→Int→Bool}
  (rule:∀ (i j:Int) (t u:Tok) (s:Shared) (Q:Value→Shared→Prop) (E:Value→Shared→Prop),Q (.bool (g i j)) s→wpAny (model X.prog X.w) X.A (f (.int i t) (.int j u)) Q E s) :
  OpR X f (rI0 fun i j=>.bl (g i j)):=by
 intro pins s σ H x y v u Q I rx ry h
 obtain ⟨i,j,rfl,rfl,q⟩:=h
 obtain ⟨t,rfl⟩:=rx
 obtain ⟨t',rfl⟩:=ry
 exact rule i j t t' s _ _ ⟨.bl (g i j),H,I,rfl,q⟩
noncomputable def AX (i j:Int):Prop:=0<j∧j<1073741824
noncomputable def AY (i j:Int):Prop:=0≤j∧j≤1000000∧i.natAbs<2 ^ 64
noncomputable def xN (i j:Int):Prop:=(-(2 ^ 64)<i∧i<2 ^ 64)∨(-(2 ^ 64)<j∧j<2 ^ 64)
theorem xN.ok {i j:Int} (h:xN i j):IntMulOk i j:=by
 rcases h with ⟨h1,h2⟩|⟨h1,h2⟩
 ·exact .of_left (intBits_le_64 h1 h2)
 ·exact .of_right (intBits_le_64 h1 h2)
theorem iw:OpR X (binaryOp .Add) (rI0 fun i j=>.int (i+j)):=zu fun _ _ _ _ _ _ _ q=>add_int q
theorem oj:OpR X (binaryOp .Sub) (rI0 fun i j=>.int (i - j)):=zu fun _ _ _ _ _ _ _ q=>sub_int q
theorem kJ:OpR X (binaryOp .Mult) (rI xN fun i j=>.int (i * j)):=opI fun _ _ _ _ _ _ _ hc q=>mul_int q hc.ok
theorem uX:OpR X (binaryOp .FloorDiv) (rI AX fun i j=>.int (i / j)):=opI fun i j _ _ _ _ _ hc q=>by
 have h1:(0:Int)<j:=hc.1
 have h2:j<1073741824:=hc.2
 exact floordiv_int (by omega) (by rw [Int.fdiv_eq_ediv_of_nonneg i (by omega)];exact q) (.inl (PyProof.noPylong_small (by omega)))
theorem cA:OpR X (binaryOp .Mod) (rI (fun _ j=>0<j) fun i j=>.int (i % j)):=opI fun i j _ _ _ _ _ hc q=>by
 have h1:(0:Int)<j:=hc
 exact mod_int' (by omega) (by rw [Int.fmod_eq_emod_of_nonneg i (by omega)];exact q)
theorem kK:OpR X (binaryOp .Pow) (rI AY fun i j=>.int (i ^ j.toNat)):=opI fun _ _ _ _ _ _ _ hc q=>pow_int_small hc.1 hc.2.1 hc.2.2 q
end
section
variable {X : Cx} {a b c : Expr} {ta tb tc : TE} {pos : Pos}
theorem zv:OpR X (compareOp .Lt) (rI0 fun i j=>.bl (decide (i<j))):=xM fun _ _ _ _ _ _ _ q=>lt_int q
theorem zw:OpR X (compareOp .Gt) (rI0 fun i j=>.bl (decide (j<i))):=xM fun _ _ _ _ _ _ _ q=>gt_int q
theorem zx:OpR X (compareOp .GtE) (rI0 fun i j=>.bl (decide (j≤i))):=xM fun _ _ _ _ _ _ _ q=>ge_int q
noncomputable def zy (K:PySem.W.Frag) (x:V) (H:Hp) (k:Bool):Prop :=
 match x with
 |.non=>k=false
 |.bl b=>k=b
 |.int i=>k=(i != 0)
 |.str y=>y.length≤sizeLine∧k=((y.length:Int) != 0)
 |.byt y=>y.size≤sizeLine∧k=((y.size:Int) != 0)
 |.ref p=>(∃ xs,SqL K H p xs∧k=!xs.isEmpty)∨(∃ xs,SqT K H p xs∧k=!xs.isEmpty)∨∃ kvs,H p=some (.dK kvs)∧k=!kvs.isEmpty
 |_=>False
theorem om {κ:Type}{kvs:List (κ×V)}{vs:List (κ×Value)} (r:KV kvs vs):(!vs.isEmpty)=!kvs.isEmpty:=by
 cases r <;> rfl
theorem ix {xs:List V}{its:List Value} (r:Vals xs its):(!its.toArray.isEmpty)=!xs.isEmpty:=by
 cases r <;> simp
theorem dY:(sizeLine:Nat)<2 ^ 63:=by rw [sizeLine_eq];decide
theorem xO:AW X (fun x H Q=>∃ k,zy X.K x H k∧Q k H):=by
 intro pins s σ H x v Q I rx h
 obtain ⟨k,e,q⟩:=h
 have hl:=dY
 have hs:sizeLine=16777216:=sizeLine_eq
 cases x with
 |non =>
  cases rx
  have e':k=false:=e
  subst e'
  exact truthy_none ⟨H,I,q⟩
 |bl b =>
  cases rx
  have e':k=b:=e
  subst e'
  exact wpAny_truthy_bool ⟨H,I,q⟩
 |int i =>
  obtain ⟨t,rfl⟩:=rx
  have e':k=(i != 0):=e
  subst e'
  exact PySem.P.truthy_int ⟨H,I,q⟩
 |str y =>
  obtain ⟨t,rfl⟩:=rx
  obtain ⟨hy,e'⟩:y.length≤sizeLine∧k=((y.length:Int) != 0):=e
  subst e'
  exact PySem.P.truthy_str (by omega) ⟨H,I.tok _,q⟩
 |byt y =>
  obtain ⟨t,rfl⟩:=rx
  obtain ⟨hy,e'⟩:y.size≤sizeLine∧k=((y.size:Int) != 0):=e
  subst e'
  exact PySem.W.truthy_bytes (by omega) ⟨H,I.tok _,q⟩
 |ref p =>
  cases rx
  have e':(∃ xs,SqL X.K H p xs∧k=!xs.isEmpty)∨(∃ xs,SqT X.K H p xs∧k=!xs.isEmpty)∨∃ kvs,H p=some (.dK kvs)∧k=!kvs.isEmpty:=e
  rcases e' with ⟨xs,hx,e'⟩|⟨xs,hx,e'⟩|⟨kvs,hx,e'⟩
  ·subst e'
   obtain ⟨its,r,pl,hz⟩:=I.list hx
   have hlen:=r.length
   exact wpAny_truthy_list pl.isList (by simp only [List.size_toArray];omega) ⟨H,I.tok _,by rw [ix r];exact q⟩
  ·subst e'
   obtain ⟨its,r,pl,hz⟩:=I.tuple hx
   have hlen:=r.length
   exact truthy_tuple pl (by simp only [List.size_toArray];omega) ⟨H,I.tok _,by rw [ix r];exact q⟩
  ·subst e'
   obtain ⟨hz,hS,vs,r,m⟩:kvs.length≤sizeLine∧(p==sysModules)=false∧∃ vs,KV kvs vs∧s.heap.DictOf (aM X.prog X.w) p vs:=I.hok p _ hx
   have hlen:kvs.length=vs.length:=Paired.length r
   exact wpAny_truthy_dict hS m (by omega) ⟨H,I.tok _,by rw [om r];exact q⟩
 |_=>exact (show False from e).elim
theorem sf (ha:PE X a ta) (he:∀ whole,isTrue a X.env whole=(do let v ←whole;standAt a.pos;holding [v] (truthy v))) :
  PT X a (fun σ H Q=>ta σ H fun x H'=>∃ k,zy X.K x H' k∧Q k H'):=by
 intro pins s σ H Q I h
 exact isTrue_plain (thn (ha pins s σ H _ I h) fun v s1 ⟨x,H1,I1,r1,q1⟩=>xO pins s1 σ H1 x v Q I1 r1 q1) (he _)
theorem oo:OpR X (binaryOp .Add) (fun x y H Q=>∃ i j,x=.str i∧y=.str j∧i.length+j.length≤sizeLine∧Q (.str (i++j)) H):=by
 intro pins s σ H x y v u Q I rx ry h
 obtain ⟨i,j,rfl,rfl,hz,q⟩:=h
 obtain ⟨t,rfl⟩:=rx
 obtain ⟨t',rfl⟩:=ry
 exact add_str (fun t' tk=>⟨.str (i++j),H,I.tok _,⟨_,rfl⟩,q⟩) hz
theorem vals1 {x:V}{us:List Value} (r:Vals [x] us):∃ u,us=[u]∧RelV x u:=by
 cases r with
 |cons r1 r2=>cases r2;exact ⟨_,rfl,r1⟩
theorem vals2 {x y:V}{us:List Value} (r:Vals [x,y] us):∃ u w',us=[u,w']∧RelV x u∧RelV y w':=by
 cases r with
 |cons r1 r2 =>
  cases r2 with
  |cons r3 r4=>cases r4;exact ⟨_,_,rfl,r1,r3⟩
theorem kL:iu X (.type "str") (fun xs H Q=>∃ i,xs=[.int i]∧i.natAbs.log2<1920∧Q (.str (toString i)) H):=by
 intro pins s σ H xs us Q I r h
 obtain ⟨i,rfl,hz,q⟩:=h
 obtain ⟨u,rfl,t,rfl⟩:=vals1 r
 exact PySem.P.str_of_int hz ⟨.str _,H,I.tok _,⟨_,rfl⟩,q⟩
end
end L2
namespace L2
open PySem PySem.Spec PyProof.Rows
structure Bl (h:Heap) (x dx C:Addr) (mA:Str→Option Value):Prop where
 obj:h.get? x=some (PySem.W.instObj C dx)
 ns:h.Ns1 dx mA
 ne:dx≠x
section
variable {prog : Program} {w : World} {A : Around} {E : Value → Shared → Prop} {s : Shared} {K : PySem.W.Frag} {x dx C f : Addr} {mA : Str → Option Value} {name : Str} {v : Value}
end
theorem gU.some_of {v:V}{o:Option Value} (r:gU (some v) o):∃ u,o=some u∧RelV v u:=by
 cases o with
 |none=>exact (show False from r).elim
 |some u=>exact ⟨u,rfl,r⟩
section
variable {P : Program} {w : World} {H H' : Hp} {h h' : Heap} {a C dx : Addr} {fs fs' : List (Str × V)}
end
structure Cls (K:PySem.W.Frag) (C:Addr):Prop where
 pg:PySem.W.plainGet K C Str.empty=true
 hd:PySem.W.hasDictIn K C=true
 po:PySem.W.plainOver K C=true
 sa:PySem.W.findIn K (.ref C) "__setattr__"=some (some (.builtin "object.__setattr__"))
structure Con (K:PySem.W.Frag) (C:Addr) (f:Str) (v:V) (u:Value):Prop where
 at_:PySem.W.findIn K (.ref C) f=some (some u)
 rel:RelV v u
 get:PySem.W.specialIn K u "__get__"=some none
 cp:PySem.W.copiedNames.contains f=false
structure Meth (K:PySem.W.Frag) (C:Addr) (m:Str) (f:Addr):Prop where
 at_:PySem.W.findIn K (.ref C) m=some (some (.ref f))
 fn:PySem.W.isFn K (.ref f)=true
 kp:PySem.W.keepIn K (.ref f)=true
section
variable {X : Cx} {pins : List (Addr × Obj)} {σ : St} {H : Hp} {s : Shared} {a C dx : Addr} {fs : List (Str × V)} {f : Str} {v : V} {A : Around} {E : Value → Shared → Prop}
end
section
variable {X : Cx} {o e value : Expr} {f : Str} {pos pos' tpos : Pos} {ta tv : TE}
end
section
variable {X : Cx} {pins : List (Addr × Obj)} {σ : St} {H : Hp} {s : Shared} {A : Around} {E : Value → Shared → Prop} {Q : Value → Shared → Prop} {c : Value} {b : Bool}
inductive iy (K:PySem.W.Frag) (H:Hp):V→Value→Prop where
 |non:iy K H .non (.type "NoneType")
 |bl (x:Bool):iy K H (.bl x) (.type "bool")
 |int (i:Int):iy K H (.int i) (.type "int")
 |str (x:Str):iy K H (.str x) (.type "str")
 |flt (x:UInt64):iy K H (.flt x) (.type "float")
 |lst {a:Addr} {xs:List V} (e:H a=some (.lst xs)):iy K H (.ref a) (.type "list")
 |frz {a:Addr} {o:Obj} {xs:List V} (e:H a=some (.frz o (.lst xs))):iy K H (.ref a) (.type "list")
 |tup {a:Addr} {xs:List V} (e:H a=some (.tup xs)):iy K H (.ref a) (.type "tuple")
 |dK {a:Addr} {kvs:List (Key×V)} (e:H a=some (.dK kvs)):iy K H (.ref a) (.type "dict")
 |dT {a:Addr} {kvs:List (List Key×V)} (e:H a=some (.dT kvs)):iy K H (.ref a) (.type "dict")
 |ins {a C dx:Addr} {fs:List (Str×V)} (e:H a=some (.ins C dx fs)) (cl:Cls K C) (ha:PySem.W.findIn K (.ref C) "__class__"=some (some (.builtin "object.__class__")))
   (hn:PySem.W.specialIn K (.builtin "object.__class__") "__get__"=some (some (.builtin "getset_descriptor.__get__"))) (htk:PySem.W.takesIn K (.builtin "object.__class__")=some true)
   (hm:PySem.W.mroIn K C (.type "object")=some true):iy K H (.ref a) (.ref C)
end
end L2
namespace L2
open PySem PySem.Spec PyProof.Rows
structure fC (k:Nat) (A:Around):Prop where
 hd:A.handled=none
 dp:A.depth+3 * k+5<recursionLimit
 un:A.units+16 * k+200<cLine
 gd:A.guards=some []
theorem fC.deeper {k:Nat}{A:Around} (r:fC (k+1) A) (env:Env):fC k (A.deeper env) :=
 ⟨r.hd,by have:=r.dp;show A.depth+1+3 * k+5 < _;omega,by have:=r.un;show A.units+3+16 * k+200 < _;omega,r.gd⟩
theorem fC.depth {k:Nat}{A:Around} (r:fC k A):A.depth<recursionLimit:=by have:=r.dp;omega
noncomputable def AZ:TA:=fun _ H Q=>Q [] H
noncomputable def zA (ta:TE) (tr:TA):TA:=fun σ H Q=>ta σ H fun x H1=>tr σ H1 fun xs H2=>Q (x::xs) H2
section
variable {X : Cx} {e : Expr} {es : List Expr} {te : TE} {t : TA} {pos : Pos}
theorem iz:PA X [] AZ:=fun _ _ _ _ H Q I h=>Calls.spliced_nil ⟨[],H,I,.nil,h⟩
theorem eF (ha:PE X e te) (hr:PA X es t) (hs:starEach (e::es) X.env=(false,eval e X.env)::starEach es X.env:=by rfl):PA X (e::es) (zA te t):=by
 intro pos pins s σ H Q I h
 rw [hs]
 show wpAny _ _ (spliced ((false,eval e X.env)::backTo pos (starEach es X.env))) _ _ s
 refine Calls.spliced_cons (thn (ha pins s σ H _ I h) fun u s1 ⟨x,H1,I1,r1,q1⟩=>?_)
 exact thn (hr pos pins s1 σ H1 _ I1 q1) fun us s2 ⟨xs,H2,I2,r2,q2⟩=>⟨x::xs,H2,I2,.cons r1 r2,q2⟩
end
noncomputable abbrev Sp:=List V→Hp→VK→XK→Prop
noncomputable abbrev CXT:=List Env→Hp→Shared→XK→Value→Shared→Prop
structure uY (P:Program) (w:World) (K:PySem.W.Frag) (mg:Str→Option Value) (base:Heap) (A:Around) (outer:List Env) (s:Shared) (H:Hp):Prop where
 frames:A.frames=some outer
 mod:Mod K mg base
 bs:∀ b o,base.get? b=some o→s.heap.get? b=some o∧H b=none
 bsz:base.objs.size≤s.heap.objs.size
 ie:s.heap.FunFrames base outer
 frf:∀ b∈frs outer,H b=none
 hok:HOk P w H s.heap
 bare:AllBare s.gens
noncomputable def CE (outer:List Env) (P:Program) (w:World) (H:Hp) (s:Shared) (Q:VK) (u:Value) (s':Shared):Prop :=
 ∃ v H',s'.os=s.os∧AllBare s'.gens∧Un (frs outer) [] H H' s.heap s'.heap∧HOk P w H' s'.heap∧RelV v u∧Q v H'
noncomputable def CR (CX:CXT) (outer:List Env) (P:Program) (w:World) (H:Hp) (s:Shared) (Q:VK) (E:XK) (r:Result) (s':Shared):Prop :=
 match r with
 |.ok (.ret u)=>CE outer P w H s Q u s'
 |.ok _=>False
 |.error e=>CX outer H s E e s'
structure mF (P:Program) (w:World) (K:PySem.W.Frag) (mg:Str→Option Value) (base:Heap) (CX:CXT) (k:Nat) (f:Addr) (fd:FuncData) (ps:List Str) (sp:Sp):Prop where
 len:∀ vs H Q E,sp vs H Q E→vs.length=ps.length
 run:∀ (A:Around) (outer:List Env) (s:Shared) (H:Hp) (args:Args) (us:List Value) (vs:List V) (Q:VK) (E:XK),fC k A→uY P w K mg base A outer s H→BindsTo s fd args (ps.zip us)→Vals vs us→sp vs H Q E →
  codeAny (model P w) A (.call (.ref f) args) (CR CX outer P w H s Q E) s
section
variable {X : Cx} {pins : List (Addr × Obj)} {σ : St} {H : Hp} {s s' : Shared}
theorem Inv.A0 (I:Inv X pins σ H s):uY X.prog X.w X.K X.mg X.base X.A X.stack s H :=
 ⟨I.ok.frames,I.ok.mod,I.bs,Nat.le_trans I.ok.bsz I.sz,I.stack,I.pM,I.hok,I.bare⟩
theorem Inv.after {Q:VK}{u:Value} (I:Inv X pins σ H s) (h:CE X.stack X.prog X.w H s Q u s'):EP X pins σ Q u s':=by
 obtain ⟨v,H',os,bare,un,hok,r,q⟩:=h
 obtain ⟨hh,g,d,t,os'⟩:=s'
 obtain rfl:os'=s.os:=os
 exact ⟨v,H',I.call (h':=hh) (g':=g) (d':=d) (t':=t) (ch:=[]) un hok bare (fun b z=>absurd z (by simp)),r,q⟩
end
noncomputable def Binds (K:PySem.W.Frag) (fd:FuncData) (ps:List Str) (ds:List Value):Prop :=
 ∀ (s:Shared) (us:List Value),K.In s.heap→(us++ds).length=ps.length→BindsTo s fd ⟨us,[]⟩ (ps.zip (us++ds))
theorem Binds.all {K:PySem.W.Frag}{fd:FuncData}{ps:List Str} (h:∀ us:List Value,us.length=ps.length→bindArgs fd ⟨us,[]⟩=pure (ps.zip us)):Binds K fd ps []:=fun s us _ hl=>by
 rw [List.append_nil] at hl ⊢
 exact .of_eq (h us hl)
noncomputable def Passes (CX:CXT) (X:Cx) (E:XK):Prop:=∀ (pins:List (Addr×Obj)) (σ:St) (H:Hp) (s:Shared) (e:Value) (s':Shared),Inv X pins σ H s→CX X.stack H s E e s'→X.xe e s'
section
variable {X : Cx} {CX : CXT} {k : Nat} {f C : Addr} {fd : FuncData} {ps : List Str} {sp : Sp} {dvs : List V} {ds : List Value} {E : XK} {x m : Str} {p pos apos : Pos} {e o : Expr} {es : List Expr} {ta : TE} {t : TA}
theorem xP {pins:List (Addr×Obj)}{σ:St}{H:Hp}{s:Shared}{Q:VK}{us:List Value}{vs:List V} (F:mF X.prog X.w X.K X.mg X.base CX k f fd ps sp) (hr:fC k X.A) (hb:Binds X.K fd ps ds) (hd:Vals dvs ds) (hx:Passes CX X E)
  (I:Inv X pins σ H s) (r:Vals vs us) (h:sp (vs++dvs) H Q E):wpAny (model X.prog X.w) X.A (call (.ref f) us) (EP X pins σ Q) X.xe s:=by
 have r2:Vals (vs++dvs) (us++ds):=r.append hd
 have hl:(us++ds).length=ps.length:=by rw [←r2.length];exact F.len _ _ _ _ h
 refine wpAny_call (codeAny_mono (F.run X.A X.stack s H ⟨us,[]⟩ (us++ds) (vs++dvs) Q E hr I.A0 (hb s us I.kIn hl) r2 h) fun r s' hq=>?_)
 cases r with
 |error e=>exact hx pins σ H s e s' I hq
 |ok fl =>
  cases fl with
  |ret u=>exact I.after hq
  |next=>exact False.elim hq
  |brk=>exact False.elim hq
  |cont=>exact False.elim hq
structure Mk (K:PySem.W.Frag) (C f:Addr):Prop where
 makes:PySem.W.makesIn K C=true
 init:PySem.W.findIn K (.ref C) "__init__"=some (some (.ref f))
 fn:PySem.W.isFn K (.ref f)=true
 kp:PySem.W.keepIn K (.ref C)=true
end
section
variable {X : Cx} {CX : CXT} {k : Nat} {f C : Addr} {fd : FuncData} {ps ks : List Str} {sp : Sp} {E : XK} {x m : Str} {p pos apos kpos : Pos} {e o : Expr} {es : List Expr} {kws : List Keyword} {te ta : TE} {t tk : TA} {nm : Option Str}
structure A1 (K:PySem.W.Frag) (fd:FuncData) (ps ks:List Str) (g:List Value→List Value→List Value) (gV:List V→List V→List V):Prop where
 to:∀ (s:Shared) (us ws:List Value),K.In s.heap→(g us ws).length=ps.length→BindsTo s fd ⟨us,ks.zip ws⟩ (ps.zip (g us ws))
 rel:∀ {vs:List V} {us:List Value} {zs:List V} {ws:List Value},Vals vs us→Vals zs ws→Vals (gV vs zs) (g us ws)
variable {g : List Value → List Value → List Value} {gV : List V → List V → List V}
end
structure aG (N P:List Str) (sc:Scope):Prop where
 kind:sc.kind=.function
 co:sc.isCoroutine=false
 gen:sc.isGenerator=false
 nd:N.Nodup
 pre:N.take P.length=P
 par:∀ x∈P,sc.names.lookup x=some .local∨sc.names.lookup x=some .cell
 nofree:∀ y∈sc.names,y.2≠.free
theorem jN {kindOf:Str→Option NameKind}{x:Str}:∀ {binds:List (Str×Value)}{m:Str→Option Value},(∀ v,(x,v)∉binds)→bindL kindOf binds m x=m x
 |[],_,_=>rfl
 |(n,v)::r,m,h=>by
  unfold bindL
  rw [jN fun w hw=>h w (List.mem_cons_of_mem _ hw)]
  split
  ·have:x≠n:=by rintro rfl;exact h v List.mem_cons_self
   simp [this]
  ·rfl
theorem jO {kindOf:Str→Option NameKind}{x:Str}:∀ {binds:List (Str×Value)}{m:Str→Option Value},(∀ v,(x,v)∉binds)→bindC kindOf binds m x=m x
 |[],_,_=>rfl
 |(n,v)::r,m,h=>by
  unfold bindC
  rw [jO fun w hw=>h w (List.mem_cons_of_mem _ hw)]
  split
  ·rfl
  ·have:x≠n:=by rintro rfl;exact h v List.mem_cons_self
   simp [this]
theorem jP {kindOf:Str→Option NameKind}{x:Str}{v:Value}:∀ {P:List Str}{vs:List Value}{i:Nat}{m:Str→Option Value},P.Nodup→P[i]?=some x→vs[i]?=some v→kindOf x=some .local →
  bindL kindOf (P.zip vs) m x=some v
 |[],_,_,_,_,h,_,_=>by simp at h
 |_::_,[],_,_,_,_,h,_=>by simp at h
 |p::P,w::vs,0,m,nd,h1,h2,hk=>by
  simp at h1 h2;subst h1;subst h2
  show bindL kindOf ((p,w)::P.zip vs) m p=_
  unfold bindL
  rw [jN fun v hv=>(List.nodup_cons.mp nd).1 (List.of_mem_zip hv).1,if_pos hk]
  simp
 |p::P,w::vs,i+1,m,nd,h1,h2,hk=>by
  show bindL kindOf ((p,w)::P.zip vs) m x=_
  unfold bindL
  exact jP (i:=i) (List.nodup_cons.mp nd).2 (by simpa using h1) (by simpa using h2) hk
theorem jQ {kindOf:Str→Option NameKind}{x:Str}{v:Value}:∀ {P:List Str}{vs:List Value}{i:Nat}{m:Str→Option Value},P.Nodup→P[i]?=some x→vs[i]?=some v→kindOf x≠some .local →
  bindC kindOf (P.zip vs) m x=some v
 |[],_,_,_,_,h,_,_=>by simp at h
 |_::_,[],_,_,_,_,h,_=>by simp at h
 |p::P,w::vs,0,m,nd,h1,h2,hk=>by
  simp at h1 h2;subst h1;subst h2
  show bindC kindOf ((p,w)::P.zip vs) m p=_
  unfold bindC
  rw [jO fun v hv=>(List.nodup_cons.mp nd).1 (List.of_mem_zip hv).1,if_neg hk]
  simp
 |p::P,w::vs,i+1,m,nd,h1,h2,hk=>by
  show bindC kindOf ((p,w)::P.zip vs) m x=_
  unfold bindC
  exact jQ (i:=i) (List.nodup_cons.mp nd).2 (by simpa using h1) (by simpa using h2) hk
noncomputable def start (N:List Str) (vs:List V):St:=vs.map some++List.replicate (N.length - vs.length) none
noncomputable def oq (CX:CXT) (P:Program) (w:World) (K:PySem.W.Frag) (mg:Str→Option Value) (base:Heap) (N:List Str) (qual:Str) (scope:Scope) (f:Addr) (cd:Value) (A:Around) (outer:List Env) (s:Shared) (H:Hp) (E:XK):Cx where
 prog:=P
 w:=w
 K:=K
 mg:=mg
 base:=base
 A:=A.deeper (envOfC qual scope s.heap.objs.size f cd)
 N:=N
 s₀:=s
 H₀:=H
 env:=envOfC qual scope s.heap.objs.size f cd
 outer:=outer
 stack:=envOfC qual scope s.heap.objs.size f cd::outer
 ex:=[]
 calm:=true
 fn:=fun _=>true
 pn:=[]
 xe:=fun e s'=>wpAny (model P w) (A.deeper (envOfC qual scope s.heap.objs.size f cd)) (leaving (envOfC qual scope s.heap.objs.size f cd) e) (fun _ s''=>CX outer H s E e s'') (fun e' s''=>CX outer H s E e' s'') s'
theorem mG {sc:Scope}{n:Nat}{x:Str} (h:sc.names.lookup x=some .cell):∃ c,(cellsFrom n sc.names []).lookup x=some c:=by
 have q:=PySem.W.cellsFrom_some sc.names n [] (.inl h)
 exact Option.isSome_iff_exists.mp q
theorem qL {CX:CXT}{P:Program}{w:World}{K:PySem.W.Frag}{mg:Str→Option Value}{base:Heap}{N ps:List Str}{qual:Str}{scope:Scope}{f:Addr}{cd:Value}{A:Around}{outer:List Env}{s s1:Shared}{H:Hp}{E:XK}{us:List Value}{vs:List V}
  (S:aG N ps scope) (hd:A.handled=none) (e0:uY P w K mg base A outer s H) (hl:vs.length=ps.length) (r:Vals vs us)
  (x:InCallC s s.heap.objs.size (bindL (envOfC qual scope s.heap.objs.size f cd).kindOf (ps.zip us) fun _=>none) (cellsFrom (s.heap.objs.size+1) scope.names []) (bindC (envOfC qual scope s.heap.objs.size f cd).kindOf (ps.zip us) fun _=>none) s1) :
  Inv (oq CX P w K mg base N qual scope f cd A outer s H E) [] (start N vs) H s1:=by
 have hpl:ps.length≤N.length:=by have:=congrArg List.length S.pre;rw [List.length_take] at this;omega
 obtain ⟨h1,tk,rfl,hk⟩:=x.done
 have noA:∀ b:Addr,b∉(oq CX P w K mg base N qual scope f cd A outer s H E).ex:=fun b z=>absurd (show b∈([]:List Addr) from z) (by simp)
 refine ⟨⟨e0.mod,S.kind,rfl,rfl,Nat.le_refl _,fun y z c h1 h2=>?_,fun y hy=>?_,fun y c _ h=>?_,fun _=>hd,Around.frames_deeper e0.frames,.inr ⟨rfl,rfl⟩,fun b z=>absurd z (noA b),e0.bs,e0.bsz,fun b _ _=>noA b,fun b z=>absurd z (noA b),e0.ie,e0.frf⟩,
  rfl,e0.bare,Un.kept hk,⟨_,x.toInCall.ns,fun i y v h1 h2 h3=>?_⟩,fun y c h=>⟨_,x.cell y c h⟩,e0.hok.fresh (Nat.le_refl _),fun y c h=>?_,fun p hp=>absurd (show p∈([]:List (Addr×Obj)) from hp) (by simp),e0.hok.kept hk,?_⟩
 ·exact name_of_addr x.apart (PySem.mem_of_lookup h1) (PySem.mem_of_lookup h2)
 ·have hy:scope.names.lookup y=some .cell∨scope.names.lookup y=some .free:=hy
  rcases hy with hy|hy
  ·exact mG hy
  ·exact absurd rfl (S.nofree _ (PySem.mem_of_lookup hy))
 ·exact Nat.le_of_lt (x.above y c (PySem.mem_of_lookup h))
 ·have hi:i<vs.length:=by
   unfold start at h2
   by_cases hi:i<vs.length
   ·exact hi
   ·rw [List.getElem?_append_right (by simpa using hi)] at h2
    rw [List.getElem?_replicate] at h2
    split at h2 <;> cases h2
  have ha:vs[i]?=some v:=by
   unfold start at h2
   rw [List.getElem?_append_left (by simpa using hi),List.getElem?_map] at h2
   cases e:vs[i]? with
   |none=>rw [e] at h2;cases h2
   |some a=>rw [e] at h2;cases h2;rfl
  obtain ⟨u,hu,rv⟩:=r.get ha
  have hp:ps[i]?=some y:=by
   rw [←S.pre,List.getElem?_take_of_lt (by omega)];exact h1
  have ndP:ps.Nodup:=by rw [←S.pre];exact S.nd.sublist (List.take_sublist _ _)
  refine ⟨u,rv,?_⟩
  rcases S.par y (List.mem_of_getElem? hp) with k|k
  ·exact .inl ⟨k,jP ndP hp hu k⟩
  ·obtain ⟨c,e⟩:=mG (n:=s.heap.objs.size+1) k
   refine .inr ⟨.inl k,c,e,?_⟩
   have q:=x.cell y c e
   rw [jQ ndP hp hu (by show scope.names.lookup y≠_;rw [k];decide)] at q
   exact q
 ·exact e0.hok.fresh (Nat.le_of_lt (x.above y c (PySem.mem_of_lookup h)))
 ·unfold start
  show _=N.length
  rw [List.length_append,List.length_map,List.length_replicate]
  omega
theorem zB {CX:CXT}{P:Program}{w:World}{K:PySem.W.Frag}{mg:Str→Option Value}{base:Heap}{k:Nat}{f:Addr}{name qual:Str}{params:Arguments}{body:List Stmt}{scope:Scope}{dV kV doc pm cdv ct oc:Value}{an od:Option Addr}
  {osl:Array (Option Value)} {N ps:List Str} {sp:Sp} (lk:K.lookup f=some ⟨oc,od,.func (PySem.W.fnOf name qual params body scope dV kV doc pm an cdv ct),osl⟩) (hcd:PySem.W.codeIn K cdv qual=true) (S:aG N ps scope)
  (len:∀ vs H Q E,sp vs H Q E→vs.length=ps.length)
  (hbody:∀ (A:Around) (outer:List Env) (s:Shared) (H:Hp) (vs:List V) (Q:VK) (E:XK),fC k (A.deeper (envOfC qual scope s.heap.objs.size f cdv))→sp vs H Q E →
   ∃ t,PSs (oq CX P w K mg base N qual scope f cdv A outer s H E) body t∧t { nx:=fun _ H'=>Q .non H',rt:=Q } (start N vs) H) :
  mF P w K mg base CX (k+1) f (PySem.W.fnOf name qual params body scope dV kV doc pm an cdv ct) ps sp:=by
 refine ⟨len,fun A outer s H args us vs Q E hr e0 hb r hsp=>?_⟩
 have hl:=len _ _ _ _ hsp
 have KX:K.In s.heap:=e0.mod.kin.keeps fun b o e=>(e0.bs b o e).1
 have lim:s.heap.NoLimit:=e0.mod.nolimit.keeps fun b o e=>(e0.bs b o e).1
 have hkind:∀ y∈ps.zip us,scope.names.lookup y.1=some .local∨(scope.names.lookup y.1=some .cell∧((cellsFrom (s.heap.objs.size+1) scope.names []).lookup y.1).isSome=true):=fun ⟨n,v⟩ hy=>by
  rcases S.par n (List.of_mem_zip hy).1 with q|q
  ·exact .inl q
  ·exact .inr ⟨q,PySem.W.cellsFrom_some _ _ _ (.inl q)⟩
 refine codeAny_call_function hr.depth (KX _ _ lk) rfl S.co S.gen rfl (PySem.W.codeRec_of KX hcd) (hb _ _ _ _ ?_)
 refine wpAny_newFunctionEnv_cells S.kind hkind fun env he s1 x=>?_
 subst he
 refine ⟨lim.keeps x.toInCall.keep,codeAny_func ?_⟩
 obtain ⟨t,ht,hq⟩:=hbody A outer s H vs Q E (hr.deeper _) hsp
 have I:Inv (oq CX P w K mg base N qual scope f cdv A outer s H E) [] (start N vs) H s1:=qL S hr.hd e0 hl r x
 refine wpAny_mono (ht [] s1 (start N vs) H _ I hq) (fun fl s' hs=>?_) fun e s' hs=>hs
 have fin:∀ {σ':St} {H':Hp} {v:V} {u:Value},Inv (oq CX P w K mg base N qual scope f cdv A outer s H E) [] σ' H' s'→RelV v u→Q v H'→CE outer P w H s Q u s' :=
  fun {σ' H' v u} J rv q=>⟨v,H',J.os,J.bare,J.base,J.hok,rv,q⟩
 cases fl with
 |ret u =>
  obtain ⟨v,σ',H',J,rv,q⟩:=hs
  exact fin J rv q
 |next =>
  obtain ⟨σ',H',J,q⟩:=hs
  exact fin (v:=V.non) (u:=Value.none) J rfl q
 |brk =>
  obtain ⟨_,_,_,q⟩:=hs
  exact False.elim q
 |cont =>
  obtain ⟨_,_,_,q⟩:=hs
  exact False.elim q
end L2
namespace L2
open PySem PySem.Spec PyProof.Rows
section
variable {X : Cx} {x : Str} {p pos : Pos} {e : Expr} {es : List Expr} {t : TA} {id T : String} {r : List V → Hp → VK → Prop}
end
end L2
namespace HT
open PySem PyProof.Rows
section
open PySem.SeqAt
open PySem.AutoSeq1 (wpAny_loadPart')
open PySem.MeetsSeq PySem.MeetsSeq2 PySem.MeetsSeq3
end
section
variable {prog : Program} {w : World} {A : Around} {E : Value → Shared → Prop} {s : Shared}
noncomputable def sIx (n d:Nat):Option Int→Nat
 |none=>d
 |some v=>if v<0 then (v+(n:Int)).toNat else min v.toNat n
theorem xQ (n d:Nat) (hd:d≤n) (o:Option Int):sIx n d o≤n:=by
 cases o with
 |none=>exact hd
 |some v =>
  show (if v<0 then (v+(n:Int)).toNat else min v.toNat n)≤n
  by_cases hv:v<0
  ·rw [if_pos hv];omega
  ·rw [if_neg hv];exact Nat.min_le_right _ _
theorem pP (v:Int) (n d:Nat):(if v<0 then max (v+(n:Int)) 0 else min v (n:Int))=((sIx n d (some v):Nat):Int):=by
 show (if v<0 then max (v+(n:Int)) 0 else min v (n:Int))=(((if v<0 then (v+(n:Int)).toNat else min v.toNat n):Nat):Int)
 by_cases hv:v<0
 ·simp only [if_pos hv];omega
 ·simp only [if_neg hv];omega
theorem ot (lo hi:Option Int) (n:Nat):Builtin.Slice.sliceAdjust lo hi 1 (n:Int)=(((sIx n 0 lo:Nat):Int),((sIx n n hi:Nat):Int)):=by
 have h1:¬ ((1:Int)<0):=by omega
 unfold Builtin.Slice.sliceAdjust
 simp only [h1,if_false]
 refine Prod.ext ?_ ?_
 ·cases lo with
  |none=>rfl
  |some v=>exact pP v n 0
 ·cases hi with
  |none=>rfl
  |some v=>exact pP v n n
theorem ou (i j:Nat):Builtin.Slice.slicePlaces (i:Int) (j:Int) 1=j - i:=by
 unfold Builtin.Slice.slicePlaces
 have h1:(1:Int) > 0:=by omega
 simp only [h1,if_true,Int.ediv_one]
 split <;> omega
theorem iA {v:Value}{o:Option Int}{Q:Option Int→Shared→Prop} (p:IsPart v o) (h:Q o s):wpAny (model prog w) A (Builtin.Slice.slicePartIndex v) Q E s:=by
 cases p with
 |none=>exact slicePart_none h
 |int i t=>exact slicePart_int h
theorem dc {sl:Addr}{vl vu:Value}{lo hi:Option Int}{n:Nat}{Q:Int×Int×Nat→Shared→Prop} (hs:s.heap.IsSliceOf sl vl vu .none) (pl:IsPart vl lo) (pu:IsPart vu hi)
  (h:Q (((sIx n 0 lo:Nat):Int),1,sIx n n hi - sIx n 0 lo) s):wpAny (model prog w) A (Builtin.Slice.sliceApplied (.ref sl) (pure (n:Int))) Q E s:=by
 obtain ⟨os,hos,hcs,hds⟩:=id hs
 unfold Builtin.Slice.sliceApplied Builtin.Slice.sliceFields
 refine wpAny_bind (wpAny_bind (wpAny_field hos hds (x:=vl) rfl (wpAny_bind (wpAny_field hos hds (x:=vu) rfl (wpAny_bind (wpAny_field hos hds (x:=.none) rfl (wpAny_pure ?_)))))))
 refine wpAny_bind (slicePart_none ?_)
 show wpAny _ _ (if ((1:Int)==0)=true then _ else _) _ _ s
 rw [if_neg (by decide)]
 refine wpAny_bind (iA pl (wpAny_bind (iA pu (wpAny_bind (wpAny_pure ?_)))))
 show wpAny _ _ (match Builtin.Slice.sliceAdjust lo hi 1 (n:Int) with|(lo,hi)=>pure (lo,(1:Int),Builtin.Slice.slicePlaces lo hi 1)) _ _ s
 rw [ot lo hi n]
 show wpAny _ _ (pure (((sIx n 0 lo:Nat):Int),(1:Int),Builtin.Slice.slicePlaces ((sIx n 0 lo:Nat):Int) ((sIx n n hi:Nat):Int) 1)) _ _ s
 rw [ou]
 exact wpAny_pure h
theorem sg (xs:Array Value) (i k:Nat):((List.range k).filterMap fun (m:Nat)=>xs[((i:Int)+(m:Int) * 1).toNat]?).toArray=((xs.toList.drop i).take k).toArray:=by
 have e:(fun (m:Nat)=>xs[((i:Int)+(m:Int) * 1).toNat]?)=fun m=>xs[i+m]?:=by
  funext m
  have:((i:Int)+(m:Int) * 1).toNat=i+m:=by omega
  rw [this]
 rw [e]
 have:=pick_run xs i k
 rw [List.filterMap_map] at this
 have e2:((fun x=>xs[x]?) ∘ fun x=>i+x)=fun m=>xs[i+m]?:=rfl
 rw [e2] at this
 rw [this]
theorem fD {t sl:Addr}{items:Array Value}{vl vu:Value}{lo hi:Option Int}{Q:Value→Shared→Prop} (ht:IsTup s.heap t items) (hs:s.heap.IsSliceOf sl vl vu .none) (pl:IsPart vl lo) (pu:IsPart vu hi)
  (hw:¬ (sIx items.size 0 lo=0∧sIx items.size items.size hi=items.size))
  (h:Q (.ref s.heap.objs.size) { s with heap:=s.heap.push { cls:=.type "tuple",data:=.seq ((items.toList.drop (sIx items.size 0 lo)).take (sIx items.size items.size hi - sIx items.size 0 lo)).toArray } })
  (hsz:items.size≤sizeLine):wpAny (model prog w) A (getItem (.ref t) (.ref sl)) Q E s:=by
 have htake:sizeOk (.seq ((items.toList.drop (sIx items.size 0 lo)).take (sIx items.size items.size hi - sIx items.size 0 lo)).toArray):=by
  show ((items.toList.drop (sIx items.size 0 lo)).take (sIx items.size items.size hi - sIx items.size 0 lo)).toArray.size≤sizeLine
  rw [List.size_toArray,List.length_take,List.length_drop,Array.length_toList]
  omega
 have hj:sIx items.size items.size hi≤items.size:=xQ _ _ (Nat.le_refl _) hi
 obtain ⟨os,hos,hcs,hds⟩:=id hs
 have hTs:s.TypeIs (.ref sl) "slice":=⟨os,hos,hcs⟩
 unfold getItem
 try with_reducible refine wpAny_holding ?_
 first|refine wpAny_bind (wpAny_pure ?_)|skip
 refine wpAny_bind (wpAny_sequenceKey ht.typeIs (by decide) ?_)
 refine wpAny_bind (wpAny_callSpecial?_slot (name:=Str.ofString "__getitem__") ht.typeIs PyProof.Rows.slot_tuple_getitem
  (wpAny_call_entry PyProof.Rows.slot_tuple_getitem ht.typeIs entry_tuple_getitem ?_ (args_tuple_getitem _ _)))
 show wpAny _ _ (Builtin.Tuple.tupleItemsOf (.ref t) >>= _) _ _ s
 refine wpAny_bind (tupleItemsOf_ ht ?_)
 refine wpAny_bind (wpAny_typeOf hTs ?_)
 rw [if_pos (by decide)]
 refine wpAny_bind (dc hs pl pu ?_)
 have hno:¬ ((((sIx items.size 0 lo:Nat):Int)==0&&(1:Int)==1&&(sIx items.size items.size hi - sIx items.size 0 lo)==items.size)=true):=by
  intro q
  rw [Bool.and_eq_true,Bool.and_eq_true] at q
  have q1:((sIx items.size 0 lo:Nat):Int)=0:=eq_of_beq q.1.1
  have q2:sIx items.size items.size hi - sIx items.size 0 lo=items.size:=eq_of_beq q.2
  exact hw ⟨by omega,by omega⟩
 show wpAny _ _ (if (((sIx items.size 0 lo:Nat):Int)==0&&(1:Int)==1&&(sIx items.size items.size hi - sIx items.size 0 lo)==items.size)=true then _ else _) _ _ s
 rw [if_neg hno,sg]
 first
  |exact wpAny_bind (m:=Builtin.Tuple.tupleExact _) (wpAny_newObj_type (wpAny_pure ⟨_,rfl,wpAny_pure h⟩) htake)
  |exact wpAny_bind (m:=Builtin.Tuple.tupleExact _) (wpAny_newObj_type (wpAny_bind (wpAny_pure (wpAny_pure ⟨_,rfl,wpAny_pure h⟩))) htake)
  |exact wpAny_bind (wpAny_bind (m:=Builtin.Tuple.tupleExact _) (wpAny_newObj_type (wpAny_pure (wpAny_pure ⟨_,rfl,wpAny_pure h⟩)) htake))
  |exact wpAny_bind (wpAny_bind (m:=Builtin.Tuple.tupleExact _) (wpAny_newObj_type (wpAny_pure ⟨_,rfl,wpAny_pure h⟩) htake))
end
end HT
namespace L2
open PySem PySem.Spec PyProof.Rows
noncomputable abbrev TO:=St→Hp→(Option Int→Hp→Prop)→Prop
noncomputable def PO (X:Cx) (e:Option Expr) (t:TO):Prop :=
 ∀ (pins:List (Addr×Obj)) (s:Shared) (σ:St) (H:Hp) (Q:Option Int→Hp→Prop),Inv X pins σ H s→t σ H Q →
  wpAny (model X.prog X.w) X.A (evalPart e X.env) (fun u s'=>∃ o H',Inv X pins σ H' s'∧IsPart u o∧Q o H') X.xe s
noncomputable def uZ:TO:=fun _ H Q=>Q none H
noncomputable def zC (t:TE):TO:=fun σ H Q=>t σ H fun x H1=>∃ i,x=.int i∧Q (some i) H1
section
variable {X : Cx} {e : Expr} {te : TE} {lo hi : Option Expr} {tl th : TO} {pos p2 : Pos}
theorem u3:PO X none uZ:=by
 intro pins s σ H Q I h
 rw [evalPart_none]
 exact wpAny_pure ⟨none,H,I,.none,h⟩
theorem u4 (h:PE X e te):PO X (some e) (zC te):=by
 intro pins s σ H Q I hw
 rw [evalPart_some]
 refine thn (h pins s σ H _ I hw) fun u s1 ⟨x,H1,I1,r1,q1⟩=>?_
 obtain ⟨i,rfl,q⟩:=q1
 obtain ⟨t,rfl⟩:=r1
 exact ⟨some i,H1,I1,.int i t,q⟩
noncomputable def SlR (X:Cx) (r:V→Option Int→Option Int→Hp→VK→Prop):Prop :=
 ∀ (pins:List (Addr×Obj)) (s:Shared) (σ:St) (H:Hp) (x:V) (v vl vu:Value) (lo hi:Option Int) (sl:Addr) (Q:VK),Inv X pins σ H s→RelV x v→s.heap.IsSliceOf sl vl vu .none→IsPart vl lo→IsPart vu hi→r x lo hi H Q →
  ∃ T id,typeLookup (.type T) "__getitem__"=pure (some (.builtin id))∧s.TypeIs v T∧wpAny (model X.prog X.w) X.A (getItem v (.ref sl)) (EP X pins σ Q) X.xe s
theorem SlR.or {r r':V→Option Int→Option Int→Hp→VK→Prop} (h:SlR X r) (h':SlR X r'):SlR X (fun x lo hi H Q=>r x lo hi H Q∨r' x lo hi H Q):=by
 intro pins s σ H x v vl vu lo hi sl Q I rx hs pl pu q
 rcases q with q|q
 ·exact h pins s σ H x v vl vu lo hi sl Q I rx hs pl pu q
 ·exact h' pins s σ H x v vl vu lo hi sl Q I rx hs pl pu q
noncomputable def tSl (r:V→Option Int→Option Int→Hp→VK→Prop) (te:TE) (tl th:TO):TE:=fun σ H Q=>te σ H fun x H1=>tl σ H1 fun l H2=>th σ H2 fun u H3=>r x l u H3 Q
theorem si {r:V→Option Int→Option Int→Hp→VK→Prop} (hr:SlR X r) (he:PE X e te) (hl:PO X lo tl) (hu:PO X hi th):PE X (.Subscript e (.Slice lo hi none p2) pos) (tSl r te tl th):=by
 intro pins s σ H Q I h
 refine Subscript_ (thn (he pins s σ H _ I h) fun v s1 ⟨x,H1,I1,r1,q1⟩=>?_)
 refine wpAny_Slice (thn (hl pins s1 σ H1 _ I1 q1) fun vl s2 ⟨l,H2,I2,pl,q2⟩=>thn (hu pins s2 σ H2 _ I2 q2) fun vu s3 ⟨u,H3,I3,pu,q3⟩=>?_)
 rw [evalPart_none]
 refine wpAny_pure ?_
 have I4:Inv X pins σ H3 { s3 with heap:=s3.heap.push { cls:=.type "slice",data:=.fields #[vl,vu,.none] } }:=I3.kept (t':=s3.toks) fun b ob q=>Heap.get?_push_of_some _ q
 obtain ⟨T,id,hT,ht,hg⟩:=hr pins { s3 with heap:=s3.heap.push { cls:=.type "slice",data:=.fields #[vl,vu,.none] } } σ H3 x v vl vu l u s3.heap.objs.size Q I4 r1 (Heap.IsSliceOf.new ..) pl pu q3
 show wpAny (model X.prog X.w) X.A (subscriptTail e (.Slice lo hi none p2) v (.ref s3.heap.objs.size)) (EP X pins σ Q) X.xe { s3 with heap:=s3.heap.push { cls:=.type "slice",data:=.fields #[vl,vu,.none] } }
 exact tail_any (ops:=[.ref s3.heap.objs.size,v]) ht hT hg (by with_unfolding_all rfl)
noncomputable def mH (xs:List V) (lo hi:Option Int):List V:=(xs.drop (HT.sIx xs.length 0 lo)).take (HT.sIx xs.length xs.length hi - HT.sIx xs.length 0 lo)
theorem gG (xs:List V) (lo hi:Option Int):(mH xs lo hi).length≤xs.length:=by
 unfold mH
 rw [List.length_take,List.length_drop]
 omega
noncomputable def zD (K:PySem.W.Frag):V→Option Int→Option Int→Hp→VK→Prop:=fun x lo hi H Q=>∃ a xs,x=.ref a∧SqT K H a xs ∧
 ¬ (HT.sIx xs.length 0 lo=0∧HT.sIx xs.length xs.length hi=xs.length)∧∀ p,H p=none→Q (.ref p) (upd H p (.tup (mH xs lo hi)))
theorem xR:SlR X (zD X.K):=by
 intro pins s σ H x v vl vu lo hi sl Q I rx hs pl pu h
 obtain ⟨a,xs,rfl,hx,hw,q⟩:=h
 cases rx
 obtain ⟨its,r,ht,hz⟩:=I.tuple hx
 have hlen:its.toArray.size=xs.length:=by rw [List.size_toArray];exact r.length.symm
 refine ⟨"tuple",_,PyProof.Rows.slot_tuple_getitem.lookup,ht.typeIs,?_⟩
 refine HT.fD ht hs pl pu (by rw [hlen];exact hw) ?_ (by rw [hlen];exact hz)
 rw [hlen]
 refine ⟨.ref s.heap.objs.size,_,I.laid (t':=s.toks) (o:=.tup (mH xs lo hi)) (fun b ob q=>Heap.get?_push_of_some _ q) (Nat.le_refl _) ?_,rfl,q _ (I.hok.fresh (Nat.le_refl _))⟩
 exact ⟨Nat.le_trans (gG xs lo hi) hz,_,(r.drop (HT.sIx xs.length 0 lo)).take (HT.sIx xs.length xs.length hi - HT.sIx xs.length 0 lo),IsTup.new _ _⟩
end
end L2
namespace L2
open PySem PySem.Spec PyProof.Rows
noncomputable def ixN (n:Nat) (i:Int):Option Nat:=if 0≤i then (if i<n then some i.toNat else none) else if -(n:Int)≤i then some (i+n).toNat else none
noncomputable def atI {α:Type} (xs:List α) (i:Int):Option α:=(ixN xs.length i).bind fun j=>xs[j]?
theorem pQ {n:Nat}{i:Int}{j:Nat} (h:ixN n i=some j):seqIndex? i n=some j∧j<n∧-(n:Int)≤i∧i<n:=by
 unfold ixN at h
 by_cases h0:0≤i
 ·rw [if_pos h0] at h
  by_cases h1:i<n
  ·rw [if_pos h1] at h
   have e:i.toNat=j:=Option.some.inj h
   exact ⟨by rw [seqIndex_of h0 h1,e],by omega,by omega,h1⟩
  ·rw [if_neg h1] at h;cases h
 ·rw [if_neg h0] at h
  by_cases h1:-(n:Int)≤i
  ·rw [if_pos h1] at h
   have e:(i+n).toNat=j:=Option.some.inj h
   exact ⟨by rw [seqIndex_neg (by omega) h1,e],by omega,h1,by omega⟩
  ·rw [if_neg h1] at h;cases h
theorem kM {α:Type}{xs:List α}{i:Int}{v:α} (h:atI xs i=some v):∃ j,seqIndex? i xs.length=some j∧xs[j]?=some v∧j<xs.length∧-(xs.length:Int)≤i∧i<xs.length:=by
 unfold atI at h
 cases e:ixN xs.length i with
 |none=>rw [e] at h;cases h
 |some j =>
  rw [e] at h
  obtain ⟨h1,h2,h3,h4⟩:=pQ e
  exact ⟨j,h1,h,h2,h3,h4⟩
theorem cq {α:Type}{xs:List α}{j:Nat}{v:α} (h:xs[j]?=some v):atI xs (j:Int)=some v:=by
 have hj:j<xs.length:=(List.getElem?_eq_some_iff.mp h).1
 have e:ixN xs.length (j:Int)=some j:=by
  unfold ixN
  rw [if_pos (by omega),if_pos (by omega)];simp
 unfold atI;rw [e];exact h
noncomputable def kN (b:Expr):Prop:=∀ o i,subscripted b false o i=operate [o,i] (getItem o i)
noncomputable def IxR (X:Cx) (r:R2):Prop :=
 ∀ (value slice:Expr) (pins:List (Addr×Obj)) (s:Shared) (σ:St) (H:Hp) (x y:V) (v u:Value) (Q:VK),Inv X pins σ H s→RelV x v→RelV y u→r x y H Q →
  subscripted slice false v u=operate [v,u] (getItem v u)→wpAny (model X.prog X.w) X.A (subscriptTail value slice v u) (EP X pins σ Q) X.xe s
noncomputable def MtR (X:Cx) (id:String) (r:V→List V→Hp→VK→Prop):Prop :=
 ∀ (pins:List (Addr×Obj)) (s:Shared) (σ:St) (H:Hp) (x:V) (xs:List V) (v:Value) (us:List Value) (Q:VK),Inv X pins σ H s→RelV x v→Vals xs us→r x xs H Q →
  wpAny (model X.prog X.w) X.A (call (.builtin id) (v::us)) (EP X pins σ Q) X.xe s
section
variable {X : Cx} {a b : Expr} {ta tb : TE} {pos : Pos}
noncomputable def A2 (K:PySem.W.Frag):R2:=fun x y H Q=>∃ p xs i v,x=.ref p∧y=.int i∧SqL K H p xs∧atI xs i=some v∧Q v H
noncomputable def A3 (K:PySem.W.Frag):R2:=fun x y H Q=>∃ p xs i v,x=.ref p∧y=.int i∧SqT K H p xs∧atI xs i=some v∧Q v H
noncomputable def A4:R2:=fun x y H Q=>∃ z i c,x=.str z∧y=.int i∧z.length≤sizeLine∧atI z.cps.toList i=some c∧Q (.str ⟨#[c]⟩) H
theorem u5:IxR X (A2 X.K):=by
 intro value slice pins s σ H x y v u Q I rx ry h hs
 obtain ⟨p,xs,i,z,rfl,rfl,hq,he,q⟩:=h
 cases rx
 obtain ⟨t,rfl⟩:=ry
 obtain ⟨its,r,pl,hz⟩:=I.list hq
 obtain ⟨j,h1,h2,h3,h4,h5⟩:=kM he
 obtain ⟨w,ew,rw'⟩:=r.get h2
 have hl:=r.length
 have hn:=dY
 have fin:EP X pins σ Q w s:=⟨z,H,I,rw',q⟩
 by_cases h0:0≤i
 ·have hj:i.toNat=j:=by
   rw [seqIndex_of h0 h5] at h1
   exact Option.some.inj h1
  exact item_listR pl.isList h0 (by omega) (by rw [hj];simpa using ew) fin hs
 ·have hj:(i+(its.toArray.size:Int)).toNat=j:=by
   rw [seqIndex_neg (by omega) h4] at h1
   rw [List.size_toArray,←hl]
   exact Option.some.inj h1
  exact subscriptTail_builtinR (x:=w) pl.isList.typeIs slot_list_getitem.lookup
   (wpAny_getItem_list_neg (Q:=fun r s'=>r=w∧EP X pins σ Q r s') pl.isList (by omega) (by rw [List.size_toArray] <;> omega) (by omega) (by rw [hj];simpa using ew) ⟨rfl,fin⟩) hs
theorem kO:IxR X (A3 X.K):=by
 intro value slice pins s σ H x y v u Q I rx ry h hs
 obtain ⟨p,xs,i,z,rfl,rfl,hq,he,q⟩:=h
 cases rx
 obtain ⟨t,rfl⟩:=ry
 obtain ⟨its,r,pl,hz⟩:=I.tuple hq
 obtain ⟨j,h1,h2,h3,h4,h5⟩:=kM he
 obtain ⟨w,ew,rw'⟩:=r.get h2
 have hl:=r.length
 have hn:=dY
 have fin:EP X pins σ Q w s:=⟨z,H,I,rw',q⟩
 exact subscriptTail_builtinR (x:=w) pl.typeIs slot_tuple_getitem.lookup
  (getItem_tuple (j:=j) (Q:=fun r s'=>r=w∧EP X pins σ Q r s') pl (by omega) (by omega) (by rw [List.size_toArray,←hl];exact h1) (by simpa using ew) ⟨rfl,fin⟩) hs
theorem iB:IxR X A4:=by
 intro value slice pins s σ H x y v u Q I rx ry h hs
 obtain ⟨z,i,c,rfl,rfl,hz,he,q⟩:=h
 obtain ⟨t,rfl⟩:=rx
 obtain ⟨t',rfl⟩:=ry
 obtain ⟨j,h1,h2,h3,h4,h5⟩:=kM he
 have hl:z.cps.toList.length=z.length:=by simp [Str.length]
 rw [hl] at h1 h4 h5
 have hn:=dY
 exact tail_any (typeIs_str s z t) slot_str_getitem.lookup (getItem_str (c:=c) (by
  have e1:decide (i < -(2 ^ 63:Int))=false:=decide_eq_false (by omega)
  have e2:decide (i ≥ 2 ^ 63)=false:=decide_eq_false (by omega)
  rw [e1,e2,Bool.or_false]) (by rw [h1];simpa using h2) ⟨.str ⟨#[c]⟩,H,I.tok _,⟨_,rfl⟩,q⟩) hs
theorem ox (its:List Value) (n j:Nat) (u:Value):Obj.mapSeq (·.setIfInBounds j u) { cls:=.type "list",data:=.seq its.toArray n }={ cls:=.type "list",data:=.seq (its.set j u).toArray n }:=by
 simp [Obj.mapSeq]
theorem Inv.lst {pins:List (Addr×Obj)}{σ:St}{H:Hp}{s:Shared}{p:Addr}{xs:List V} (I:Inv X pins σ H s) (h:H p=some (.lst xs)) :
  ∃ (its:List Value) (n:Nat),Vals xs its∧s.heap.get? p=some { cls:=.type "list",data:=.seq its.toArray n }∧xs.length≤sizeLine:=by
 obtain ⟨z,its,n,r,e⟩:=I.hok p _ h
 exact ⟨its,n,r,e,z⟩
theorem Inv.xS {pins:List (Addr×Obj)}{σ:St}{H:Hp}{s:Shared}{p:Addr}{xs ys:List V}{its its':List Value}{n n':Nat}{f:Obj→Obj} (I:Inv X pins σ H s) (h:H p=some (.lst xs))
  (ho:s.heap.get? p=some { cls:=.type "list",data:=.seq its.toArray n }) (hf:f { cls:=.type "list",data:=.seq its.toArray n }={ cls:=.type "list",data:=.seq its'.toArray n' }) (r:Vals ys its') (hz:ys.length≤sizeLine) (t:Nat) :
  Inv X pins σ (upd H p (.lst ys)) { s with heap:=s.heap.update p f,toks:=t }:=by
 have e:(s.heap.update p f).get? p=some { cls:=.type "list",data:=.seq its'.toArray n' }:=by
  rw [Heap.get?_update_self f ho (by rw [hf] <;> rfl),hf]
 refine I.write (x:=p) (e:=p) (by rw [h];trivial) (.inl rfl) (fun b u hb q=>(Heap.get?_update_other _ _ (Ne.symm hb)).trans q) ⟨_,e⟩ ?_
 exact ⟨hz,its',n',r,e⟩
noncomputable def zE:V→V→V→Hp→(Hp→Prop)→Prop:=fun o i v H Q=>∃ p xs k j,o=.ref p∧i=.int k∧H p=some (.lst xs)∧ixN xs.length k=some j∧Q (upd H p (.lst (xs.set j v)))
theorem set_list:ip X zE:=by
 intro pins s σ H o i v ov iv u Q I ro ri rv h
 obtain ⟨p,xs,k,j,rfl,rfl,hp,hj,q⟩:=h
 cases ro
 obtain ⟨t,rfl⟩:=ri
 obtain ⟨its,n,r,ho,hz⟩:=I.lst hp
 obtain ⟨h1,h2,h3,h4⟩:=pQ hj
 have hl:=r.length
 have hn:=dY
 have I':Inv X pins σ (upd H p (.lst (xs.set j v))) { s with heap:=s.heap.update p (Obj.mapSeq (·.setIfInBounds j u)) } :=
  I.xS hp ho (ox its n j u) (r.set rv j) (by rw [List.length_set];exact hz) s.toks
 by_cases h0:0≤k
 ·have hk:k.toNat=j:=by
   rw [seqIndex_of h0 h4] at h1
   exact Option.some.inj h1
  exact PySem.W.ki_setAt ho h0 (by omega) (by rw [List.size_toArray,←hl];exact h4) (by rw [hk];exact ⟨_,I',q⟩)
 ·have hk:(k+(its.toArray.size:Int)).toNat=j:=by
   rw [seqIndex_neg (by omega) h3] at h1
   rw [List.size_toArray,←hl]
   exact Option.some.inj h1
  exact PySem.W.ki_setBack ho (by omega) (by rw [List.size_toArray,←hl];exact h3) (by omega) (by rw [hk];exact ⟨_,I',q⟩)
theorem kP (lo hi:Option Int) (n:Nat):(sliceBounds lo hi none n).1=((HT.sIx n 0 lo:Nat):Int)∧(sliceBounds lo hi none n).2.1=((HT.sIx n n hi:Nat):Int)∧(sliceBounds lo hi none n).2.2=1:=by
 refine ⟨?_,?_,rfl⟩
 ·cases lo with
  |none=>simp [sliceBounds,HT.sIx]
  |some i =>
   simp only [sliceBounds,HT.sIx,Option.getD_none,show (1:Int) > 0 by decide,if_true]
   by_cases h:i<0
   ·simp only [h,if_true] <;> omega
   ·simp only [h,if_false] <;> omega
 ·cases hi with
  |none=>simp [sliceBounds,HT.sIx]
  |some i =>
   simp only [sliceBounds,HT.sIx,Option.getD_none,show (1:Int) > 0 by decide,if_true]
   by_cases h:i<0
   ·simp only [h,if_true] <;> omega
   ·simp only [h,if_false] <;> omega
theorem jw (its:List Value) (lo hi:Option Int):slicePick its.toArray lo hi none=((its.drop (HT.sIx its.length 0 lo)).take (HT.sIx its.length its.length hi - HT.sIx its.length 0 lo)).toArray:=by
 obtain ⟨h1,h2,h3⟩:=kP lo hi its.toArray.size
 unfold slicePick
 rw [h1,h2,h3]
 simp only [sliceRange_one,pick_run,List.size_toArray] <;> rfl
noncomputable def zF (K:PySem.W.Frag):V→Option Int→Option Int→Hp→VK→Prop:=fun x lo hi H Q=>∃ a xs,x=.ref a∧SqL K H a xs∧∀ p,H p=none→Q (.ref p) (upd H p (.lst (mH xs lo hi)))
theorem u6:SlR X (zF X.K):=by
 intro pins s σ H x v vl vu lo hi sl Q I rx hs pl pu h
 obtain ⟨a,xs,rfl,hx,q⟩:=h
 cases rx
 obtain ⟨its,r,ht,hz⟩:=I.list hx
 have hlen:=r.length
 refine ⟨"list",_,slot_list_getitem.lookup,ht.isList.typeIs,?_⟩
 refine wpAny_getItem_list_slice ht.isList hs pl pu .none (by simp) ?_ (by rw [List.size_toArray] <;> omega)
 rw [jw,←hlen]
 refine ⟨.ref s.heap.objs.size,_,I.laid (t':=s.toks) (o:=.lst (mH xs lo hi)) (fun b ob q=>Heap.get?_push_of_some _ q) (Nat.le_refl _) ?_,rfl,q _ (I.hok.fresh (Nat.le_refl _))⟩
 exact ⟨Nat.le_trans (gG xs lo hi) hz,_,0,(r.drop (HT.sIx xs.length 0 lo)).take (HT.sIx xs.length xs.length hi - HT.sIx xs.length 0 lo),Heap.get?_push_size _ rfl⟩
theorem fE:iu X (.builtin "len") (fun xs H Q=>∃ p ys,xs=[.ref p]∧(SqL X.K H p ys∨SqT X.K H p ys)∧Q (.int ys.length) H):=by
 intro pins s σ H xs us Q I r h
 obtain ⟨p,ys,rfl,hq,q⟩:=h
 obtain ⟨u,rfl,rx⟩:=vals1 r
 cases rx
 have hn:=dY
 rcases hq with hq|hq
 ·obtain ⟨its,r',pl,hz⟩:=I.list hq
  have hlen:=r'.length
  exact Calls.call_len_list pl.isList (by simp only [List.size_toArray] <;> omega) ⟨.int ys.length,H,I.tok _,⟨s.toks+1,by rw [List.size_toArray,hlen]⟩,q⟩
 ·obtain ⟨its,r',pl,hz⟩:=I.tuple hq
  have hlen:=r'.length
  exact len_tuple pl (by simp only [List.size_toArray] <;> omega) ⟨.int ys.length,H,I.tok _,⟨s.toks+1,by rw [List.size_toArray,hlen]⟩,q⟩
theorem kQ:iu X (.builtin "len") (fun xs H Q=>∃ z,xs=[.str z]∧z.length≤sizeLine∧Q (.int z.length) H):=by
 intro pins s σ H xs us Q I r h
 obtain ⟨z,rfl,hz,q⟩:=h
 obtain ⟨u,rfl,t,rfl⟩:=vals1 r
 have hn:=dY
 exact len_str (by omega) ⟨.int z.length,H,I.tok _,⟨_,rfl⟩,q⟩
theorem eW:iu X (.type "tuple") (fun xs H Q=>∃ p ys,xs=[.ref p]∧((SqL X.K H p ys∧∀ l,H l=none→Q (.ref l) (upd H l (.tup ys)))∨(SqT X.K H p ys∧Q (.ref p) H))):=by
 intro pins s σ H xs us Q I r h
 obtain ⟨p,ys,rfl,h⟩:=h
 obtain ⟨u,rfl,rx⟩:=vals1 r
 cases rx
 rcases h with ⟨hq,q⟩|⟨hq,q⟩
 ·obtain ⟨its,r',pl,hz⟩:=I.list hq
  have hlen:=r'.length
  refine call_tuple_list pl.isList (fun h' kp=>?_) (by simp only [List.size_toArray] <;> omega)
  have I1:Inv X pins σ H { s with heap:=h' }:=I.kept (t':=s.toks) kp
  have I2:Inv X pins σ (upd H h'.objs.size (.tup ys)) { s with heap:=h'.push { cls:=.type "tuple",data:=.seq its.toArray } } :=
   I1.laid (t':=s.toks) (fun b o e=>Heap.get?_push_of_some _ e) (Nat.le_refl _) (show bG X.prog X.w _ _ _ (.tup ys) from ⟨hz,its,r',IsTup.new _ _⟩)
  exact ⟨.ref h'.objs.size,_,I2,rfl,q _ (I1.hok.fresh (Nat.le_refl _))⟩
 ·obtain ⟨its,r',pl,hz⟩:=I.tuple hq
  exact call_tuple_same pl ⟨.ref p,H,I,rfl,q⟩
noncomputable def tyV (K:PySem.W.Frag) (T:String) (x:V) (H:Hp):Prop:=match x with
 |.str _=>T="str"
 |.int _=>T="int"
 |.ref p=>(T="list"∧∃ xs,SqL K H p xs)∨(T="tuple"∧∃ o,K.lookup p=some o∧o.cls=.type "tuple"∧o.dict=none) ∨
   (T="dict"∧((∃ kvs,H p=some (.dK kvs))∨∃ kvs,H p=some (.dT kvs)))∨(T="set"∧∃ S n,H p=some (.set S n))
 |_=>False
theorem kR {pins:List (Addr×Obj)}{σ:St}{H:Hp}{s:Shared}{T:String}{x:V}{v:Value} (I:Inv X pins σ H s) (r:RelV x v) (ty:tyV X.K T x H) :
  s.TypeIs v T∧∀ a,v=.ref a→∃ ob,s.heap.get? a=some ob∧ob.dict=none:=by
 cases x with
 |str z =>
  obtain ⟨t,rfl⟩:=r
  cases (show T="str" from ty)
  exact ⟨typeIs_str s z t,fun _ e=>nomatch e⟩
 |int i =>
  obtain ⟨t,rfl⟩:=r
  cases (show T="int" from ty)
  exact ⟨typeIs_int s i t,fun _ e=>nomatch e⟩
 |ref p =>
  cases r
  rcases ty with ⟨rfl,xs,hq⟩|⟨rfl,o,hk,hc,hd⟩|⟨rfl,hk⟩|⟨rfl,S,n,hk⟩
  ·obtain ⟨its,_,pl,_⟩:=I.list hq
   refine ⟨pl.isList.typeIs,fun a e=>?_⟩
   cases e
   obtain ⟨o,n,e,c,hd,_⟩:=pl
   exact ⟨o,e,hd⟩
  ·refine ⟨⟨o,I.kIn p o hk,hc⟩,fun a e=>?_⟩
   cases e
   exact ⟨o,I.kIn _ o hk,hd⟩
  ·have z:∃ o,s.heap.get? p=some o∧o.ExactDict:=by
    rcases hk with ⟨kvs,hk⟩|⟨kvs,hk⟩
    ·obtain ⟨_,_,_,_,o,_,_,e,ex,_⟩:=I.hok p _ hk
     exact ⟨o,e,ex⟩
    ·obtain ⟨_,_,_,_,o,_,_,e,ex,_⟩:=I.hok p _ hk
     exact ⟨o,e,ex⟩
   obtain ⟨o,e,ex⟩:=z
   refine ⟨⟨o,e,ex.1⟩,fun a e2=>?_⟩
   cases e2
   exact ⟨o,e,ex.2.1⟩
  ·obtain ⟨o,_,_,_,e,ex,_⟩:=I.hok p _ hk
   refine ⟨⟨o,e,ex.1⟩,fun a e2=>?_⟩
   cases e2
   exact ⟨o,e,ex.2.1⟩
 |_=>exact False.elim ty
noncomputable def A5 (K:PySem.W.Frag) (T:String) (r:V→List V→Hp→VK→Prop) (to:TE):TE:=fun σ H Q=>to σ H fun x H1=>tyV K T x H1∧r x [] H1 Q
noncomputable def tBM (K:PySem.W.Frag) (T:String) (r:V→List V→Hp→VK→Prop) (to:TE) (t:TA):TE:=fun σ H Q=>to σ H fun x H1=>tyV K T x H1∧t σ H1 fun xs H2=>r x xs H2 Q
variable {o e : Expr} {es : List Expr} {to : TE} {t : TA} {name : Str} {apos cpos : Pos} {T id : String} {r : V → List V → Hp → VK → Prop}
theorem xT (pa:PlainAttrs T) (slot:Slot T name id) (hty:typeOf (.builtin id)=pure (.type "method_descriptor")) (hm:MtR X id r) (ho:PE X o to)
  (hbase:attributeBase o name X.env (eval o X.env)=eval o X.env:=by rfl) (hline:(apos.endLine==cpos.line)=true:=by rfl):PE X (.Call (.Attribute o name apos) [] [] cpos) (A5 X.K T r to):=by
 intro pins s σ H Q I h
 refine wpAny_Call_method0_late hbase hline (thn (ho pins s σ H _ I h) fun v s1 ⟨x,H1,I1,r1,ty,q1⟩=>?_)
 obtain ⟨h1,h2⟩:=kR I1 r1 ty
 exact ⟨T,id,pa,slot,hty,h1,h2,Calls.callWith_builtin rfl (PySem.evalArgs_none (hm pins s1 σ H1 x [] v [] Q I1 r1 .nil q1))⟩
theorem sj (pa:PlainAttrs T) (slot:Slot T name id) (hty:typeOf (.builtin id)=pure (.type "method_descriptor")) (hm:MtR X id r) (ho:PE X o to) (ha:PA X (e::es) t)
  (hbase:attributeBase o name X.env (eval o X.env)=eval o X.env:=by rfl)
  (hfew:((backTo cpos (starEach (e::es) X.env)).all (fun x=>!x.1)&&(backToKw cpos (keywordEach [] X.env)).all (fun x=>x.1.isSome)
   && decide ((e::es).length+([]:List Keyword).length+(if ([]:List Keyword).isEmpty then 0 else 1)<30))=true:=by rfl)
  (hline:(apos.endLine==cpos.line)=true:=by rfl) (hs:starEach (e::es) X.env=(false,eval e X.env)::starEach es X.env:=by rfl) (hplain:(backTo cpos (starEach es X.env)).any (·.1)=false:=by rfl) :
  PE X (.Call (.Attribute o name apos) (e::es) [] cpos) (tBM X.K T r to t):=by
 intro pins s σ H Q I h
 refine wpAny_Call_method_late hbase hfew hline rfl (thn (ho pins s σ H _ I h) fun v s1 ⟨x,H1,I1,r1,ty,q1⟩=>?_)
 obtain ⟨h1,h2⟩:=kR I1 r1 ty
 refine ⟨T,id,pa,slot,hty,h1,h2,?_⟩
 have hA:=ha cpos pins s1 σ H1 _ I1 q1
 rw [hs] at hA ⊢
 refine Calls.callWith_builtin (by show (false||(backTo cpos (starEach es X.env)).any (·.1))=false;rw [hplain] <;> rfl) (Calls.evalArgs_plain ?_)
 exact thn hA fun us s2 ⟨vs,H2,I2,r2,q2⟩=>hm pins s2 σ H2 x vs v us Q I2 r1 r2 q2
end
end L2
namespace L2
open PySem PySem.Spec PyProof.Rows
noncomputable def MtM (X:Cx) (id:String) (r:V→List V→Hp→VK→Prop):Prop :=
 ∀ (pins:List (Addr×Obj)) (s:Shared) (σ:St) (H:Hp) (x:V) (xs:List V) (v:Value) (us:List Value) (Q:VK),Inv X pins σ H s→RelV x v→Vals xs us→r x xs H Q →
  wpAny (model X.prog X.w) X.A (call (.builtin id) (v::us)) (EP X pins σ Q) X.xe s
theorem Vals.one:∀ {x:V}{us:List Value},Vals [x] us→∃ u,us=[u]∧RelV x u
 |_,_,.cons r .nil=>⟨_,rfl,r⟩
theorem Vals.zero:∀ {us:List Value},Vals [] us→us=[]
 |_,.nil=>rfl
theorem Vals.reverse {xs:List V}{us:List Value} (h:Vals xs us):Vals xs.reverse us.reverse:=by
 induction h with
 |nil=>exact .nil
 |cons r t ih=>rw [List.reverse_cons,List.reverse_cons];exact Vals.append ih (.cons r .nil)
section
variable {X : Cx} {pins : List (Addr × Obj)} {σ : St} {H : Hp} {s : Shared} {l b : Addr} {xs ys zs : List V}
theorem Inv.jx {its its':List Value}{n:Nat}{f:Array Value→Array Value}{t':Nat} (I:Inv X pins σ H s) (hH:H l=some (.lst xs))
  (e:s.heap.get? l=some { cls:=.type "list",data:=.seq its.toArray n }) (hf:f its.toArray=its'.toArray) (hv:Vals ys its') (hz:ys.length≤sizeLine) :
  Inv X pins σ (upd H l (.lst ys)) { s with heap:=s.heap.update l (Obj.mapSeq f),toks:=t' }:=by
 have q:=PySem.IsL.update e f
 rw [hf] at q
 refine I.write (x:=l) (e:=l) (by rw [hH];exact trivial) (.inl rfl) (fun b' u hb hu=>(Heap.get?_update_other s.heap (Obj.mapSeq f) (Ne.symm hb)).trans hu) ⟨_,q⟩ ?_
 exact ⟨hz,its',_,hv,q⟩
theorem Inv.A6 {its:List Value}{t':Nat} (I:Inv X pins σ H s) (hv:Vals ys its) (hz:ys.length≤sizeLine) :
  Inv X pins σ (upd H s.heap.objs.size (.lst ys)) { s with heap:=s.heap.push { cls:=.type "list",data:=.seq its.toArray },toks:=t' } :=
 I.laid (fun _ _ q=>Heap.get?_push_of_some _ q) (Nat.le_refl _) ⟨hz,its,0,hv,Heap.get?_push_size _ rfl⟩
theorem Inv.fresh (I:Inv X pins σ H s):H s.heap.objs.size=none:=I.hok.fresh (Nat.le_refl _)
theorem Inv.xU (I:Inv X pins σ H s) (hH:H l=some (.lst xs)):xs.length≤sizeLine∧∃ (its:List Value) (n:Nat),Vals xs its∧xs.length=its.length∧s.heap.get? l=some { cls:=.type "list",data:=.seq its.toArray n }:=by
 obtain ⟨z,its,n,r,e⟩:=I.hok l _ hH
 exact ⟨z,its,n,r,r.length,e⟩
theorem sk {n:Nat} (h:n≤sizeLine):Builtin.List.listTooLong n=false:=by
 unfold Builtin.List.listTooLong
 exact decide_eq_false (by omega)
end
section
variable {X : Cx}
noncomputable def u7:V→List V→Hp→VK→Prop:=fun x vs H Q=>∃ l xs y,x=.ref l∧vs=[y]∧H l=some (.lst xs)∧xs.length<sizeLine∧Q .non (upd H l (.lst (xs++[y])))
theorem jR:MtM X "list.append" u7:=by
 intro pins s σ H x vs v us Q I rx rv h
 obtain ⟨l,xs,y,rfl,rfl,hH,hz,q⟩:=h
 cases rx
 obtain ⟨u,rfl,ru⟩:=rv.one
 obtain ⟨z,its,n,r,hl,e⟩:=I.xU hH
 refine call_meets F.slot_list_append ⟨_,e,rfl⟩ F.entry_list_append (F.args_list_append_2 _ _) (PySem.list_append l its.toArray n u (by rw [List.size_toArray];omega)) ⟨e,?_⟩
 refine ⟨.non,_,I.jx (its':=its++[u]) hH e (by simp) (r.append (.cons ru .nil)) ?_,rfl,q⟩
 rw [List.length_append,List.length_singleton]
 omega
noncomputable def sm:V→List V→Hp→VK→Prop:=fun x vs H Q=>∃ l xs,x=.ref l∧vs=[]∧H l=some (.lst xs)∧Q .non (upd H l (.lst xs.reverse))
theorem oy:MtM X "list.reverse" sm:=by
 intro pins s σ H x vs v us Q I rx rv h
 obtain ⟨l,xs,rfl,rfl,hH,q⟩:=h
 cases rx
 have hus:=rv.zero
 subst hus
 obtain ⟨z,its,n,r,hl,e⟩:=I.xU hH
 refine call_meets F.slot_list_reverse ⟨_,e,rfl⟩ F.entry_list_reverse (F.args_list_reverse_1 _) (AutoSeq1.list_reverse_list_0 l its.toArray n (by rw [List.size_toArray];omega)) ⟨e,?_⟩
 refine ⟨.non,_,I.jx (its':=its.reverse) hH e (by simp) r.reverse ?_,rfl,q⟩
 rw [List.length_reverse]
 omega
end
section
variable {prog : Program} {w : World} {A : Around} {E : Value → Shared → Prop} {s : Shared}
set_option maxRecDepth 100000 in
end
section
variable {X : Cx}
end
end L2
namespace Att
open PySem PySem.W PySem.Calls PyProof.Rows
theorem gW {P:Params}{h:Heap}:∀ (ns:List Int) (vs:List Value),WellAll P h vs (ns.map WData.int)→IntsAre vs ns:=by
 intro ns
 induction ns with
 |nil =>
  intro vs w
  rw [List.map_nil] at w
  cases w
  exact .nil
 |cons n ns ih =>
  intro vs w
  rw [List.map_cons] at w
  cases w with
  |cons a b =>
   cases a
   exact .cons _ _ (ih _ b)
theorem qM {l:OpenLaw}{n:Nat} (hn:l.most=some n) {P:Params}{h:Heap}{args:List WData}{vals:List Value}
  (hpre:l.row.toRowW.claim.pre args=true) (hwl:WellAll P h vals args) :
  ∃ a vs ns,vals=[Value.ref a]∧args=[WData.list (ns.map WData.int)]∧h.get? a=some { cls:=.type "list",data:=.seq vs.toArray }∧IntsAre vs ns∧ns.length≤n:=by
 have hsh:WShape.hasAll [] args [.list .int]=true:=(pre_splitW hpre).1
 have hc:l.pre.holds [] { args:=args }=true:=(pre_splitW hpre).2
 obtain ⟨d,r,rfl,h1,h2⟩:=hasAllW_cons hsh
 obtain rfl:=hasAllW_nil h2
 obtain ⟨xs,rfl,h3⟩:=hasW_list h1
 obtain ⟨ns,rfl⟩:=items_int h3
 have hlen:ns.length≤n:=by
  unfold OpenLaw.pre at hc
  have h4:(WTm.not (.lt (.lit (.int (n:Int))) (.len (.arg 0)))).holds [] { args:=[.list (ns.map .int)] }=true:=by
   have h4:=(holds_andW hc).1
   rw [hn] at h4
   exact h4
  have h5:=condW_of h4 (w_not (w_lt w_lit (w_len_list (w_arg rfl))))
  rw [List.length_map] at h5
  refine Nat.le_of_not_lt fun q=>?_
  have q':(n:Int)<((ns.length:Nat):Int):=by omega
  first
   |(rw [decide_eq_true q'] at h5;exact absurd h5 (by decide))
   |(simp at h5;omega)
 cases hwl with
 |cons w1 w2 =>
  cases w2
  cases w1 with
  |list ho hall=>exact ⟨_,_,ns,rfl,rfl,ho,gW ns _ hall,hlen⟩
theorem qN (l:OpenLaw) (args:List WData):l.row.toRowW.claim.post args (.bool true) args=true :=
 postW_of (r:=l.row.toRowW) (X:=(true==true))
  (show WShape.has [] (.bool true) .bool=true by first|rfl|decide|simp [WShape.has,WShape.arms,WShape.armsAll])
  (show (WTm.eq .res (.lit (.bool true))).value [] { args:=args,res:=some (.bool true),after:=args }=some (.bool (true==true)) from w_eq_bool (w_res rfl) w_lit) rfl
theorem mI {l:OpenLaw}{n:Nat}{q:Program}{loose:List Str}{XP:(Str→Option Value)→Heap→Prop}{YP:World→Heap→Prop}{d:DefRec}
  (hn:l.most=some n) (hdf:d.params.defaults=[])
  (call:∀ (w:World) (s₀ s₁:Shared) (mg mb:Str→Option Value) (fa:Addr) (o:Obj) (pm cd doc:Value) (a:Addr) (vs:List Value) (ns:List Int),
   Ground q loose [] XP w s₀ mg mb s₁.heap→YP w s₁.heap →
   s₁.heap.get? fa=some o→o.data=.func (docDef d.name d.params d.body d.scope pm cd doc)→s₁.heap.CodeRec cd d.name→mg d.name=some (.ref fa) →
   s₁.heap.get? a=some { cls:=.type "list",data:=.seq vs.toArray }→IntsAre vs ns→ns.length≤n→s₁.gens=#[] →
   codeAny (model l.prog w) callerA (.call (.ref fa) ⟨[.ref a],[]⟩) (fun r s'=>r=.ok (.ret (.bool true))∧OldK s₁.heap s'.heap∧s'.os=s₁.os∧AllBare s'.gens) s₁) :
  WalkO q loose XP YP l.row.toRowW d [] (fun f vs=>PySem.call f vs):=by
 intro w s₀ s₁ mg mb G Y fa o pm cd doc dV kV ho hd hcd hD hmg hg args vals as hpre hlay hrd hwl hlo
 obtain rfl:dV=.none:=Dflts.none hD hdf
 obtain rfl:kV=.none:=Dflts.noKw hD
 obtain ⟨a,vs,ns,rfl,rfl,hobj,hints,hlen⟩:=qM hn hpre hwl
 refine enter_call (codeAny_mono (call w s₀ s₁ mg mb fa o pm cd doc a vs ns G Y ho (fd_plain hd) hcd hmg hobj hints hlen hg) fun r s' hq=>?_)
 obtain ⟨rfl,h2,h3,h4⟩:=hq
 exact ⟨.inl ⟨.bool true,.bool true,[],rfl,fun _=>rfl,.bool true,qN l _,fun _=>⟨List.Pairwise.nil,fun _ hm=>(nomatch hm)⟩⟩,h2,h3,h4⟩
section
variable {prog : Program} {w : World} {A : Around} {E : Value → Shared → Prop} {s : Shared} {K : Frag}
end
end Att
namespace L2
open PySem PySem.Spec PyProof.Rows
theorem jS:∀ {vs:List Value}{ns:List Int},IntsAre vs ns→Vals (ns.map V.int) vs
 |_,_,.nil=>.nil
 |_,_,.cons n t h=>.cons ⟨t,rfl⟩ (jS h)
noncomputable def xV (H:Hp):Prop:=∀ b,H b=none∨∃ o xs,H b=some (.frz o (.lst xs))
theorem so {P:Program}{w:World}{K:PySem.W.Frag}{mg mb:Str→Option Value}{CX:CXT}{k:Nat}{fa a:Addr}{fd:FuncData}{x:Str}{sp:Sp}{s₁:Shared}{vs:List Value}{ns:List Int}
  (KX:K.In s₁.heap) (hns:s₁.heap.Ns mainGlobals mg) (hb:s₁.heap.Ns builtinsNs mb) (hbb:∀ x:Str,x≠"__name__"→mb x=bootBuiltins x) (hlim:s₁.heap.NoLimit) (hg:s₁.gens=#[])
  (ha:s₁.heap.get? a=some { cls:=.type "list",data:=.seq vs.toArray }) (hi:IntsAre vs ns) (hl:ns.length≤sizeLine) (hr:fC k callerA)
  (F:∀ base:Heap,K.In base→base.Ns mainGlobals mg→mF P w K mg base CX k fa fd [x] sp) (hbind:∀ (s:Shared) (u:Value),BindsTo s fd ⟨[u],[]⟩ [(x,u)])
  (hsp:∀ H:Hp,xV H→SqL K H a (ns.map V.int)→sp [.ref a] H (fun v _=>v=.bl true) fun _ _ _=>False)
  (hCX:∀ H e s',CX [] H s₁ (fun _ _ _=>False) e s'→False) :
  codeAny (model P w) callerA (.call (.ref fa) ⟨[.ref a],[]⟩) (fun r s'=>r=.ok (.ret (.bool true))∧OldK s₁.heap s'.heap∧s'.os=s₁.os∧AllBare s'.gens) s₁:=by
 have rv:=jS hi
 have lenV:=hi.length
 have core:∀ H:Hp,xV H→SqL K H a (ns.map V.int)→HOk P w H s₁.heap→(∀ b,H b≠none→b=a)→(H a≠none→K.lookup a=none) →
   codeAny (model P w) callerA (.call (.ref fa) ⟨[.ref a],[]⟩) (fun r s'=>r=.ok (.ret (.bool true))∧OldK s₁.heap s'.heap∧s'.os=s₁.os∧AllBare s'.gens) s₁:=by
  intro H hO hS hok hA hK
  have ia:∀ {b:Addr} {o:Obj},s₁.heap.get? b=some o→H b=none→(kI s₁.heap H).get? b=some o:=fun e n=>rQ e n
  have noA:∀ {b:Addr} {o:Obj} {es:Array DictEntry} {ep:Nat},s₁.heap.get? b=some o→o.data=.dict es ep→H b=none:=fun {b o es ep} e d=>by
   cases q:H b with
   |none=>rfl
   |some u =>
    have e':b=a:=hA b (by rw [q];simp)
    subst e'
    rw [ha] at e;cases e
    have d':Data.seq vs.toArray _=Data.dict es ep:=d
    cases d'
  have nsK:∀ {b:Addr} {m:Str→Option Value},s₁.heap.Ns b m→(kI s₁.heap H).Ns b m:=fun {b m} ⟨o,es,ep,e,d,r⟩=>⟨o,es,ep,ia e (noA e d),d,r⟩
  have hKb:K.In (kI s₁.heap H):=fun b o e=>ia (KX b o e) (by
   cases q:H b with
   |none=>rfl
   |some u =>
    have e':b=a:=hA b (by rw [q];simp)
    subst e'
    rw [hK (by rw [q];simp)] at e;cases e)
  have hM:Mod K mg (kI s₁.heap H):=⟨hKb,nsK hns,⟨mb,nsK hb,hbb⟩,let ⟨mc,h1,h2⟩:=hlim;⟨mc,nsK h1,h2⟩⟩
  have e0:uY P w K mg (kI s₁.heap H) callerA [] s₁ H:=⟨rfl,hM,fun b o e=>uM e,Nat.le_of_eq (qG _ _),trivial,fun b hb=>absurd (show b∈([]:List Addr) from hb) (by simp),hok,.of_eq hg⟩
  refine codeAny_mono ((F _ hKb (nsK hns)).run callerA [] s₁ H ⟨[.ref a],[]⟩ [.ref a] [.ref a] _ _ hr e0 (hbind s₁ (.ref a)) (.cons rfl .nil) (hsp H hO hS)) fun r s' h=>?_
  cases r with
  |error e=>exact (hCX H e s' h).elim
  |ok fl =>
   cases fl with
   |next=>exact False.elim h
   |brk=>exact False.elim h
   |cont=>exact False.elim h
   |ret u =>
    obtain ⟨v,H',os,bare,un,hok',r',q⟩:=h
    have q':v=.bl true:=q
    subst q'
    obtain rfl:u=Value.bool true:=r'
    refine ⟨rfl,OldK.of_keep fun b o e=>?_,os,bare⟩
    cases q:H b with
    |none=>exact un.keep b o e q (by intro z;exact absurd (show b∈([]:List Addr) from z) (by simp)) (by simp)
    |some u =>
     rcases hO b with z|⟨ob,xs,z⟩
     ·rw [q] at z;cases z
     ·have z2:=un.frzs b ob _ z
      obtain ⟨e1,_⟩:=hok b _ z
      obtain ⟨e2,_⟩:=hok' b _ z2
      rw [e] at e1;cases e1
      exact e2
 cases hk:K.lookup a with
 |some o =>
  have e:=KX a o hk
  rw [ha] at e
  cases e
  refine core (fun _=>none) (fun _=>.inl rfl) (.inr ⟨_,vs.toArray,_,hk,rfl,rfl,rfl,by rw [List.size_toArray,lenV];exact hl,by simpa using rv⟩) (fun b u z=>by have z':(none:Option HO)=some u:=z;cases z') (fun b z=>absurd rfl z) fun z=>absurd rfl z
 |none =>
  refine core (fun b=>if b=a then some (.frz { cls:=.type "list",data:=.seq vs.toArray } (.lst (ns.map V.int))) else none) (fun b=>?_) (.inl (.inr ⟨{ cls:=.type "list",data:=.seq vs.toArray },if_pos rfl⟩)) (fun b u z=>?_) (fun b z=>?_) fun _=>hk
  ·by_cases hb:b=a
   ·exact .inr ⟨_,_,if_pos hb⟩
   ·exact .inl (if_neg hb)
  ·by_cases hb:b=a
   ·have z':=(if_pos hb).symm.trans z
    cases z'
    subst hb
    exact ⟨ha,by rw [List.length_map];exact hl,vs,_,rv,ha⟩
   ·have z':=(if_neg hb).symm.trans z
    cases z'
  ·by_cases hb:b=a
   ·exact hb
   ·exact absurd (if_neg hb) z
end L2
namespace L2
open PySem PySem.Spec PyProof.Rows
theorem u9 {l:PySem.W.OpenLaw}{n k:Nat}{q:Program}{loose:List Str}{XP:(Str→Option Value)→Heap→Prop}{YP:World→Heap→Prop}{d:DefRec}{K:Params→PySem.W.Frag}{CX:World→CXT}{sp:World→Sp}{x:Str}
  (hn:l.most=some n) (hn2:n≤sizeLine) (hdf:d.params.defaults=[]) (hr:fC k callerA)
  (hY:∀ (w:World) (h:Heap),YP w h→(K w.params).In h)
  (F:∀ (w:World) (mg:Str→Option Value) (fa:Addr) (h:Heap),(K w.params).In h→h.Ns mainGlobals mg→mg d.name=some (.ref fa) →
   ∃ fd:FuncData,(∀ (s:Shared) (u:Value),BindsTo s fd ⟨[u],[]⟩ [(x,u)]) ∧
    ∀ base:Heap,(K w.params).In base→base.Ns mainGlobals mg→mF l.prog w (K w.params) mg base (CX w) k fa fd [x] (sp w))
  (hsp:∀ (w:World) (H:Hp) (a:Addr) (ns:List Int),ns.length≤n→xV H→SqL (K w.params) H a (ns.map V.int)→sp w [.ref a] H (fun v _=>v=.bl true) fun _ _ _=>False)
  (hCX:∀ (w:World) (H:Hp) (s:Shared) (e:Value) (s':Shared),CX w [] H s (fun _ _ _=>False) e s'→False) :
  PySem.W.WalkO q loose XP YP l.row.toRowW d [] (fun f vs=>PySem.call f vs):=by
 refine Att.mI hn hdf fun w s₀ s₁ mg mb fa o pm cd doc a vs ns G Y ho hd hcd hmg hobj hints hlen hg=>?_
 have KX:=hY w _ Y
 obtain ⟨fd,hb,hF⟩:=F w mg fa _ KX G.T.g hmg
 exact so KX G.T.g G.T.b G.T.builtins G.T.nolimit hg hobj hints (Nat.le_trans hlen hn2) hr hF hb (fun H hO hS=>hsp w H a ns hlen hO hS) fun H e s'=>hCX w H s₁ e s'
end L2
namespace L2
open PySem PySem.Spec PyProof.Rows
noncomputable def aN (s:Stmt):Arguments:=match s with
 |.FunctionDef _ a _ _ _ _ _ _ _ _=>a
 |_=>{ posonlyargs:=[],args:=[],vararg:=none,kwonlyargs:=[],kw_defaults:=[],kwarg:=none,defaults:=[] }
noncomputable def ao (s:Stmt):List Stmt:=match s with
 |.FunctionDef _ _ b _ _ _ _ _ _ _=>b
 |_=>[]
noncomputable def ae (s:Stmt):Scope:=match s with
 |.FunctionDef _ _ _ _ _ _ sc _ _ _=>sc
 |_=>{ kind:=.function,names:=[],isGenerator:=false,isCoroutine:=false }
noncomputable abbrev CX0:CXT:=fun _ _ _ _ _ _=>False
noncomputable abbrev E0:XK:=fun _ _ _=>False
theorem zG {X:Cx}:Passes CX0 X E0:=fun _ _ _ _ _ _ _ h=>h.elim
structure Fun (K:PySem.W.Frag) (x qual:Str) (st:Stmt) (f:Addr) (fd:FuncData):Prop where
 ex:∃ (oc:Value) (od:Option Addr) (kV doc pm:Value) (an:Option Addr) (cdv ct:Value) (osl:Array (Option Value)),
  fd=PySem.W.fnOf x qual (aN st) (ao st) (ae st) .none kV doc pm an cdv ct∧K.lookup f=some ⟨oc,od,.func fd,osl⟩∧PySem.W.codeIn K cdv qual=true
 kp:PySem.W.keepIn K (.ref f)=true
section
variable {P : Program} {w : World} {K : PySem.W.Frag} {mg : Str → Option Value} {base : Heap}
theorem Fun.ok {x qual:Str}{st:Stmt}{f:Addr}{fd:FuncData}{N ps:List Str}{k:Nat}{sp:Sp} (F:Fun K x qual st f fd) (S:aG N ps (ae st)) (len:∀ vs H Q E,sp vs H Q E→vs.length=ps.length)
  (hbody:∀ (cdv:Value) (A:Around) (outer:List Env) (s:Shared) (H:Hp) (vs:List V) (Q:VK) (E:XK),fC k (A.deeper (envOfC qual (ae st) s.heap.objs.size f cdv))→sp vs H Q E →
   ∃ t,PSs (oq CX0 P w K mg base N qual (ae st) f cdv A outer s H E).nox (ao st) t∧t { nx:=fun _ H'=>Q .non H',rt:=Q } (start N vs) H):mF P w K mg base CX0 (k+1) f fd ps sp:=by
 obtain ⟨oc,od,kV,doc,pm,an,cdv,ct,osl,rfl,lk,hcd⟩:=F.ex
 refine zB lk hcd S len fun A outer s H vs Q E hr hsp=>?_
 obtain ⟨t,h,q⟩:=hbody cdv A outer s H vs Q E hr hsp
 exact ⟨t,h.nox,q⟩
theorem Fun.binds {x qual:Str}{st:Stmt}{f:Addr}{fd:FuncData}{ps:List Str} (F:Fun K x qual st f fd)
  (h:∀ (kV doc pm:Value) (an:Option Addr) (cdv ct:Value) (us:List Value),us.length=ps.length→bindArgs (PySem.W.fnOf x qual (aN st) (ao st) (ae st) .none kV doc pm an cdv ct) ⟨us,[]⟩=pure (ps.zip us)):Binds K fd ps []:=by
 obtain ⟨oc,od,kV,doc,pm,an,cdv,ct,osl,rfl,lk,hcd⟩:=F.ex
 exact .all (h kV doc pm an cdv ct)
theorem bL {x qual:Str}{st:Stmt}{f:Addr}{oc:Value}{od an:Option Addr}{osl:Array (Option Value)}{kV doc pm cdv ct:Value} (l:K.lookup f=some ⟨oc,od,.func (PySem.W.fnOf x qual (aN st) (ao st) (ae st) .none kV doc pm an cdv ct),osl⟩)
  (c:PySem.W.codeIn K cdv qual=true) (k:PySem.W.keepIn K (.ref f)=true):Fun K x qual st f (PySem.W.fnOf x qual (aN st) (ao st) (ae st) .none kV doc pm an cdv ct):=⟨⟨oc,od,kV,doc,pm,an,cdv,ct,osl,rfl,l,c⟩,k⟩
end
theorem qO {n:Nat} (h:n≤1000):n<sizeLine:=Nat.lt_of_le_of_lt h (by decide)
section
variable {X : Cx}
end
noncomputable def xW (H H':Hp):Prop:=∀ b o,H b=some o→H' b=some o
end L2
namespace L2
open PySem PySem.Spec PyProof.Rows
section
variable {κ : Type} [DecidableEq κ]
noncomputable def cD (kvs:List (κ×V)) (k:κ):Option V:=(kvs.find? fun kv=>decide (kv.1=k)).map (·.2)
noncomputable def putK (kvs:List (κ×V)) (k:κ) (v:V):List (κ×V) :=
 if (kvs.any fun kv=>decide (kv.1=k))=true then kvs.map (fun kv=>if kv.1=k then (kv.1,v) else kv) else kvs++[(k,v)]
theorem de {p:κ×V}{r:List (κ×V)}{k:κ} (e:p.1=k):cD (p::r) k=some p.2:=by simp [cD,List.find?_cons,e]
theorem df {p:κ×V}{r:List (κ×V)}{k:κ} (e:¬ p.1=k):cD (p::r) k=cD r k:=by simp [cD,List.find?_cons,e]
theorem fF (k:κ):∀ kvs:List (κ×V),(kvs.any fun kv=>decide (kv.1=k))=(cD kvs k).isSome
 |[]=>rfl
 |p::r=>by
  rw [List.any_cons]
  by_cases e:p.1=k
  ·simp only [de e,decide_eq_true e,Bool.true_or,Option.isSome_some]
  ·rw [df e,decide_eq_false e,Bool.false_or];exact fF k r
theorem gH (kvs:List (κ×V)) (k:κ) (v:V):(putK kvs k v).length≤kvs.length+1:=by
 unfold putK
 split
 ·rw [List.length_map];omega
 ·rw [List.length_append,List.length_cons,List.length_nil];omega
theorem sr {kvs:List (κ×V)}{k:κ} (v:V) (h:cD kvs k=none):putK kvs k v=kvs++[(k,v)]:=by
 unfold putK
 rw [fF,h]
 exact if_neg (by decide)
theorem gU.dg {o:Option V}{u:Option Value} (r:gU o u):o.isSome=u.isSome:=by
 cases o with
 |none=>cases u with
  |none=>rfl
  |some _=>exact (show False from r).elim
 |some _=>cases u with
  |none=>exact (show False from r).elim
  |some _=>rfl
theorem gU.getD {o:Option V}{u:Option Value}{d:V}{d':Value} (r:gU o u) (rd:RelV d d'):RelV (o.getD d) (u.getD d'):=by
 cases o with
 |none=>cases u with
  |none=>exact rd
  |some _=>exact (show False from r).elim
 |some _=>cases u with
  |none=>exact (show False from r).elim
  |some _=>exact r
theorem KV.val {kvs:List (κ×V)}{vs:List (κ×Value)} (r:KV kvs vs) (k:κ):gU (cD kvs k) (valueAt vs k):=by
 unfold KV at r
 induction r with
 |nil=>exact True.intro
 |@cons p q ps qs h t ih =>
  obtain ⟨h1,h2⟩:=h
  by_cases e:p.1=k
  ·have e':q.1=k:=h1.symm.trans e
   have b:valueAt (q::qs) k=some q.2:=by simp [valueAt,List.find?_cons,e']
   rw [de e,b];exact h2
  ·have e':¬ q.1=k:=fun z=>e (h1.trans z)
   have b:valueAt (q::qs) k=valueAt qs k:=by simp [valueAt,List.find?_cons,e']
   rw [df e,b];exact ih
theorem KV.any {kvs:List (κ×V)}{vs:List (κ×Value)} (r:KV kvs vs) (k:κ):(kvs.any fun kv=>decide (kv.1=k))=vs.any fun kv=>decide (kv.1=k):=by
 unfold KV at r
 induction r with
 |nil=>rfl
 |cons h t ih=>rw [List.any_cons,List.any_cons,ih,h.1]
theorem KV.xX {kvs:List (κ×V)}{vs:List (κ×Value)} (r:KV kvs vs) (k:κ) {y:V}{u:Value} (ry:RelV y u) :
  KV (kvs.map fun kv=>if kv.1=k then (kv.1,y) else kv) (vs.map fun kv=>if kv.1=k then (kv.1,u) else kv):=by
 unfold KV at r ⊢
 induction r with
 |nil=>exact .nil
 |@cons p q ps qs h t ih =>
  rw [List.map_cons,List.map_cons]
  refine .cons ?_ ih
  obtain ⟨h1,h2⟩:=h
  by_cases e:p.1=k
  ·rw [if_pos e,if_pos (h1.symm.trans e)];exact ⟨h1,ry⟩
  ·rw [if_neg e,if_neg (fun z=>e (h1.trans z))];exact ⟨h1,h2⟩
theorem KV.put {kvs:List (κ×V)}{vs:List (κ×Value)} (r:KV kvs vs) (k:κ) {y:V}{u:Value} (ry:RelV y u):KV (putK kvs k y) (stored vs k u):=by
 unfold putK stored
 rw [r.any k]
 by_cases e:(vs.any fun kv=>decide (kv.1=k))=true
 ·rw [if_pos e,if_pos e];exact r.xX k ry
 ·rw [if_neg e,if_neg e];exact Paired.snoc r ⟨rfl,ry⟩
theorem KV.length {kvs:List (κ×V)}{vs:List (κ×Value)} (r:KV kvs vs):kvs.length=vs.length:=Paired.length r
end
theorem jT {P:Program}{w:World}{k:Key}{u:Value} (r:RelV (kV k) u):(aM P w).is k u=true:=by
 cases k with
 |inl i=>obtain ⟨t,e⟩:=(show ∃ t,u=Value.int i t from r);subst e;exact mB P w i t
 |inr x=>obtain ⟨t,e⟩:=(show ∃ t,u=Value.str x t from r);subst e;exact mC P w x t
theorem jU {P:Program}{w:World}:∀ {ks:List Key}{us:List Value},Vals (ks.map kV) us→ItemsAre (aM P w) ks us
 |[],_,r=>by rw [List.map_nil] at r;cases r;exact .nil
 |k::ks,_,r=>by
  rw [List.map_cons] at r
  cases r with
  |cons h t=>exact .cons (jT h) (jU t)
noncomputable abbrev KT (H:Hp):List (List Key×V)→List (List Key×Addr×Value)→Prop:=Paired fun p q=>p.1=q.1∧H q.2.1=some (.tup (p.1.map kV))∧RelV p.2 q.2.2
theorem KT.val {H:Hp}{kvs:List (List Key×V)}{xs:List (List Key×Addr×Value)} (r:KT H kvs xs) (k:List Key):gU (cD kvs k) ((atKey xs k).map (·.2)):=by
 induction r with
 |nil=>exact True.intro
 |@cons p q ps qs h t ih =>
  obtain ⟨h1,_,h2⟩:=h
  by_cases e:p.1=k
  ·have e':q.1=k:=h1.symm.trans e
   have b:atKey (q::qs) k=some q.2:=by simp [atKey,List.find?_cons,e']
   rw [de e,b];exact h2
  ·have e':¬ q.1=k:=fun z=>e (h1.trans z)
   have b:atKey (q::qs) k=atKey qs k:=by simp [atKey,List.find?_cons,e']
   rw [df e,b];exact ih
theorem KT.xX {H:Hp}{kvs:List (List Key×V)}{xs:List (List Key×Addr×Value)} (r:KT H kvs xs) (k:List Key) {y:V}{u:Value} (ry:RelV y u) :
  KT H (kvs.map fun kv=>if kv.1=k then (kv.1,y) else kv) (xs.map (putAt k u)):=by
 induction r with
 |nil=>exact .nil
 |@cons p q ps qs h t ih =>
  rw [List.map_cons,List.map_cons]
  refine .cons ?_ ih
  obtain ⟨h1,h2,h3⟩:=h
  unfold putAt
  by_cases e:p.1=k
  ·rw [if_pos e,if_pos (h1.symm.trans e)];exact ⟨h1,h2,ry⟩
  ·rw [if_neg e,if_neg (fun z=>e (h1.trans z))];exact ⟨h1,h2,h3⟩
theorem KT.put {H:Hp}{kvs:List (List Key×V)}{xs:List (List Key×Addr×Value)} (r:KT H kvs xs) (k:List Key) {b:Addr}{y:V}{u:Value} (hb:H b=some (.tup (k.map kV))) (ry:RelV y u) :
  KT H (putK kvs k y) (storedH xs k b u):=by
 have e:(kvs.any fun kv=>decide (kv.1=k))=(atKey xs k).isSome:=by
  rw [fF,(r.val k).dg,Option.isSome_map]
 unfold putK storedH
 rw [e]
 by_cases q:(atKey xs k).isSome=true
 ·rw [if_pos q,if_pos q];exact r.xX k ry
 ·rw [if_neg q,if_neg q];exact Paired.snoc r ⟨rfl,hb,ry⟩
theorem KT.keeps {H H':Hp}{kvs:List (List Key×V)}{xs:List (List Key×Addr×Value)} (r:KT H kvs xs) (ht:∀ b ys,H b=some (.tup ys)→H' b=some (.tup ys)):KT H' kvs xs :=
 Paired.xv r fun _ _ z=>⟨z.1,ht _ _ z.2.1,z.2.2⟩
section
variable {P : Program} {w : World} {H : Hp} {h : Heap} {a : Addr}
theorem wQ {u:HO} (ok:HOk P w H h) (e:Rd H a u):bG P w H h a u:=e.ok ok
theorem iC {kvs:List (Key×V)} (ok:HOk P w H h) (e:Rd H a (.dK kvs)):kvs.length≤sizeLine∧(a==sysModules)=false∧∃ vs,KV kvs vs∧h.DictOf (aM P w) a vs :=
 show bG P w H h a (.dK kvs) from wQ ok e
theorem wR {kvs:List (Key×V)} (ok:HOk P w H h) (e:H a=some (.dK kvs)):kvs.length≤sizeLine∧(a==sysModules)=false∧∃ vs,KV kvs vs∧h.DictOf (aM P w) a vs:=iC ok (.inl e)
theorem gp {ks:List Key} (ok:HOk P w H h) (e:H a=some (.tup (ks.map kV))):(tupleKind (aM P w)).is h ks a:=by
 obtain ⟨_,its,r,o,h1,h2,n,h3⟩:=(show bG P w H h a (.tup (ks.map kV)) from ok a _ e)
 exact ⟨o,its.toArray,n,h1,h2,h3,by simpa using jU r⟩
theorem iD {kvs:List (List Key×V)} (ok:HOk P w H h) (e:Rd H a (.dT kvs)):kvs.length≤sizeLine∧(a==sysModules)=false ∧
  ∃ xs,KT H kvs xs∧h.DictOfH (tupleKind (aM P w)) a xs:=by
 obtain ⟨z,y,xs,r,o,es,ep,h1,h2,h3,h4,h5⟩:=(show bG P w H h a (.dT kvs) from wQ ok e)
 refine ⟨z,y,xs,r,o,es,ep,h1,h2,h3,h4,fun x hx=>?_,h5⟩
 have all:∀ {l:List (List Key×V)} {m:List (List Key×Addr×Value)},KT H l m→∀ x∈m,(tupleKind (aM P w)).is h x.1 x.2.1:=by
  intro l m q
  induction q with
  |nil=>intro x hx;exact nomatch hx
  |@cons p q ps qs hq t ih =>
   intro x hx
   rcases List.mem_cons.mp hx with e|hx
   ·subst e
    exact gp ok (by rw [←hq.1];exact hq.2.1)
   ·exact ih x hx
 exact all r x hx
theorem zH {kvs:List (List Key×V)} (ok:HOk P w H h) (e:H a=some (.dT kvs)):kvs.length≤sizeLine∧(a==sysModules)=false ∧
  ∃ xs,KT H kvs xs∧h.DictOfH (tupleKind (aM P w)) a xs:=iD ok (.inl e)
end
noncomputable def cW (H:Hp) (a:Addr) (y:V) (r:Option V):Prop :=
 (∃ kvs k,Rd H a (.dK kvs)∧y=kV k∧r=cD kvs k)∨∃ kvs k b,Rd H a (.dT kvs)∧y=.ref b∧H b=some (.tup (k.map kV))∧r=cD kvs k
noncomputable def qP (H:Hp) (a:Addr) (y v:V) (H':Hp):Prop :=
 (∃ kvs k,H a=some (.dK kvs)∧y=kV k∧kvs.length<sizeLine∧H'=upd H a (.dK (putK kvs k v))) ∨
 ∃ kvs k b,H a=some (.dT kvs)∧y=.ref b∧H b=some (.tup (k.map kV))∧kvs.length<sizeLine∧H'=upd H a (.dT (putK kvs k v))
theorem cW.k {H:Hp}{a:Addr}{kvs:List (Key×V)}{k:Key} (e:H a=some (.dK kvs)):cW H a (kV k) (cD kvs k):=.inl ⟨kvs,k,.inl e,rfl,rfl⟩
theorem qP.k {H:Hp}{a:Addr}{kvs:List (Key×V)}{k:Key}{v:V} (e:H a=some (.dK kvs)) (hl:kvs.length<sizeLine):qP H a (kV k) v (upd H a (.dK (putK kvs k v))):=.inl ⟨kvs,k,e,rfl,hl,rfl⟩
section
variable {X : Cx} {pins : List (Addr × Obj)} {σ : St} {H : Hp} {s : Shared} {a : Addr} {y v : V} {u r : Value} {o : Option V} {A : Around} {E : Value → Shared → Prop}
theorem Inv.big (I:Inv X pins σ H s):sysModules<s.heap.objs.size:=by
 have h:mainGlobals<s.heap.objs.size:=(I.mod.glob.keeps I.bk).lt
 exact Nat.lt_trans (by decide) h
theorem qQ {Q:Value→Shared→Prop} (hu:A.units+1<cLine) (I:Inv X pins σ H s) (g:cW H a y (some v)) (ry:RelV y u) (h:∀ w' s',Inv X pins σ H s'→RelV v w'→Q w' s') :
  wpAny (model X.prog X.w) A (getItem (.ref a) u) Q E s:=by
 rcases g with ⟨kvs,k,e,ey,l⟩|⟨kvs,k,b,e,ey,eb,l⟩
 ·subst ey
  obtain ⟨z,hd,vs,rel,dd⟩:=iC I.hok e
  obtain ⟨w',hw,rw'⟩:=gU.some_of (v:=v) (o:=valueAt vs k) (by rw [l];exact rel.val k)
  exact wpAny_getItem_of (jT ry) dd.mapOf hw (h w' _ (I.tok _) rw')
 ·subst ey
  cases (show u=Value.ref b from ry)
  obtain ⟨z,hd,xs,rel,dd⟩:=iD I.hok e
  obtain ⟨w',hw,rw'⟩:=gU.some_of (v:=v) (o:=(atKey xs k).map (·.2)) (by rw [l];exact rel.val k)
  obtain ⟨p,hp,hp2⟩:=Option.map_eq_some_iff.mp hw
  refine wpAny_getItem_heap (tupleKind_room_in1 hu) (gp I.hok eb) dd hp ?_
  rw [hp2]
  exact h w' _ (I.tok _) rw'
theorem zI {Q:Value→Shared→Prop} (hu:A.units+1<cLine) (I:Inv X pins σ H s) (g:cW H a y o) (ry:RelV y u) (h:∀ s',Inv X pins σ H s'→Q (.bool o.isSome) s') :
  wpAny (model X.prog X.w) A (compareOp .In u (.ref a)) Q E s:=by
 rcases g with ⟨kvs,k,e,ey,l⟩|⟨kvs,k,b,e,ey,eb,l⟩
 ·subst ey
  obtain ⟨z,hd,vs,rel,dd⟩:=iC I.hok e
  refine wpAny_in_of (jT ry) hd dd.mapOf ?_
  rw [←(rel.val k).dg,←l]
  exact h _ (I.tok _)
 ·subst ey
  cases (show u=Value.ref b from ry)
  obtain ⟨z,hd,xs,rel,dd⟩:=iD I.hok e
  refine wpAny_in_heap (tupleKind_room_in1 hu) (gp I.hok eb) hd dd ?_
  have q:=(rel.val k).dg
  rw [Option.isSome_map] at q
  rw [←q,←l]
  exact h _ (I.tok _)
theorem pR {Q:Value→Shared→Prop} (hu:A.units+1<cLine) (I:Inv X pins σ H s) (g:cW H a y o) (ry:RelV y u) (h:∀ s',Inv X pins σ H s'→Q (.bool (!o.isSome)) s') :
  wpAny (model X.prog X.w) A (compareOp .NotIn u (.ref a)) Q E s:=by
 rcases g with ⟨kvs,k,e,ey,l⟩|⟨kvs,k,b,e,ey,eb,l⟩
 ·subst ey
  obtain ⟨z,hd,vs,rel,dd⟩:=iC I.hok e
  refine wpAny_notIn_of (jT ry) hd dd.mapOf ?_
  rw [←(rel.val k).dg,←l]
  exact h _ (I.tok _)
 ·subst ey
  cases (show u=Value.ref b from ry)
  obtain ⟨z,hd,xs,rel,dd⟩:=iD I.hok e
  refine wpAny_notIn_heap (tupleKind_room_in1 hu) (gp I.hok eb) hd dd ?_
  have q:=(rel.val k).dg
  rw [Option.isSome_map] at q
  rw [←q,←l]
  exact h _ (I.tok _)
theorem pS {h':Heap}{t':Nat}{ob:HO} (I:Inv X pins σ H s) (mu:Mut (H a)) (hs:Heap.SameBut a s.heap h') (he:∃ q,h'.get? a=some q) (new:bG X.prog X.w (upd H a ob) h' a ob) :
  Inv X pins σ (upd H a ob) { s with heap:=h',toks:=t' } :=
 I.write (x:=a) (e:=a) mu (.inl rfl) (fun b q hb z=>(hs.2 b hb).trans z) he new
theorem xY {P:Program}{w:World}{H':Hp}{h':Heap}{kvs:List (Key×V)}{vs:List (Key×Value)} (z:kvs.length≤sizeLine) (hd:(a==sysModules)=false) (rel:KV kvs vs) (dd:h'.DictOf (aM P w) a vs) :
  bG P w H' h' a (.dK kvs):=⟨z,hd,vs,rel,dd⟩
theorem qR {H':Hp}{Q:Unit→Shared→Prop} (hu:A.units+1<cLine) (I:Inv X pins σ H s) (g:qP H a y v H') (ry:RelV y u) (rv:RelV v r) (h:∀ s',Inv X pins σ H' s'→Q () s') :
  wpAny (model X.prog X.w) A (setItem (.ref a) u r) Q E s:=by
 rcases g with ⟨kvs,k,e,ey,l,eH⟩|⟨kvs,k,b,e,ey,eb,l,eH⟩
 ·subst ey eH
  obtain ⟨z,hd,vs,rel,dd⟩:=wR I.hok e
  have hz:vs.length≤sizeLine:=by rw [←rel.length];exact z
  have hl:(putK kvs k v).length≤sizeLine:=by have:=gH kvs k v;omega
  refine wpAny_setItem_pairs (hsz:=hz) (jT ry) dd fun h' dd' hs=>h _ ?_
  have he:∃ q,h'.get? a=some q:=let ⟨q,_,_,hq,_⟩:=dd';⟨q,hq⟩
  exact pS I (by rw [e];exact True.intro) hs he (xY hl hd (rel.put k rv) dd')
 ·subst ey eH
  cases (show u=Value.ref b from ry)
  obtain ⟨z,hd,xs,rel,dd⟩:=zH I.hok e
  have hz:xs.length≤sizeLine:=by rw [←Paired.length rel];exact z
  have hl:(putK kvs k v).length≤sizeLine:=by have:=gH kvs k v;omega
  refine wpAny_setItem_heap (hsz:=hz) (tupleKind_room_in1 hu) (gp I.hok eb) dd fun h' dd' hs=>h _ ?_
  obtain ⟨q,es,ep,hq,h2,h3,h4,_,h5⟩:=dd'
  refine pS I (by rw [e];exact True.intro) hs ⟨q,hq⟩ ⟨hl,hd,_,(rel.put k eb rv).keeps fun c ys ec=>?_,q,es,ep,hq,h2,h3,h4,h5⟩
  rw [ai (rP ec e (fun z=>nomatch z))]
  exact ec
end
section
variable {X : Cx} {pins : List (Addr × Obj)} {σ : St} {H : Hp} {s : Shared} {a : Addr} {kvs : List (Key × V)} {k : Key} {u : Value} {A : Around} {E : Value → Shared → Prop}
end
noncomputable def xZ (i:Expr):Prop:=∀ ov iv,subscripted i false ov iv=operate [ov,iv] (getItem ov iv)
theorem u_ {prog:Program}{w:World}{A:Around}{E:Value→Shared→Prop}{s:Shared}{env:Env}{value slice:Expr}{pos:Pos}{T id:String}{Q:Value→Shared→Prop}
  (hl:typeLookup (.type T) "__getitem__"=pure (some (.builtin id))) (hs:xZ slice)
  (h:wpAny (model prog w) A (eval value env) (fun o s₁=>wpAny (model prog w) A (eval slice env) (fun i s₂=>s₂.TypeIs o T∧wpAny (model prog w) A (getItem o i) Q E s₂) E s₁) E s) :
  wpAny (model prog w) A (eval (.Subscript value slice pos) env) Q E s:=by
 refine Subscript_ (wpAny_mono h (fun o s₁ h₁=>wpAny_mono h₁ (fun i s₂ h₂=>?_) fun _ _ x=>x) fun _ _ x=>x)
 obtain ⟨hT,h₂⟩:=h₂
 unfold subscriptTail
 refine wpAny_bind ?_
 rw [getitemInPython_of_ne hT.not_modules]
 refine wpAny_bind (wpAny_specialOf hT hl ?_)
 have fin:wpAny (model prog w) A (subscripted slice false o i) (fun r s₃=>wpAny (model prog w) A (letTemporaryGo value o r >>= fun _=>pure r) Q E s₃) E s₂:=by
  rw [hs o i]
  exact wpAny_operating (wpAny_mono h₂ (fun r s₃ h₃=>wpAny_bind (wpAny_letTemporaryGo (wpAny_pure h₃))) fun _ _ x=>x)
 first
  |exact wpAny_pure (wpAny_bind fin)
  |exact wpAny_bind (wpAny_pure (wpAny_bind fin))
  |exact wpAny_bind fin
theorem mJ {X:Cx}{pins:List (Addr×Obj)}{σ:St}{H:Hp}{s:Shared}{a:Addr}{y:V}{o:Option V} (I:Inv X pins σ H s) (g:cW H a y o):s.TypeIs (.ref a) "dict":=by
 rcases g with ⟨kvs,k,e,_,_⟩|⟨kvs,k,b,e,_,_,_⟩
 ·obtain ⟨_,_,vs,_,dd⟩:=iC I.hok e
  exact dd.typeIs
 ·obtain ⟨_,_,xs,_,dd⟩:=iD I.hok e
  exact dd.typeIs
noncomputable def zJ (td ty:TE):TE:=fun σ H Q=>td σ H fun x H1=>ty σ H1 fun y H2=>∃ a v,x=.ref a∧cW H2 a y (some v)∧Q v H2
noncomputable def A7 (ty td:TE):TE:=fun σ H Q=>ty σ H fun y H1=>td σ H1 fun x H2=>∃ a o,x=.ref a∧cW H2 a y o∧Q (.bl o.isSome) H2
noncomputable def va (ty td:TE):TE:=fun σ H Q=>ty σ H fun y H1=>td σ H1 fun x H2=>∃ a o,x=.ref a∧cW H2 a y o∧Q (.bl (!o.isSome)) H2
section
variable {X : Cx} {o i e value : Expr} {pos pos' tpos : Pos} {td ty tv : TE}
theorem vb (hu:X.A.units+1<cLine) (ho:PE X o td) (hi:PE X i ty) (hs:xZ i):PE X (.Subscript o i pos) (zJ td ty):=by
 intro pins s σ H Q I h
 refine u_ PySem.F.slot_dict_getitem.lookup hs (thn (ho pins s σ H _ I h) fun u s1 ⟨x,H1,I1,rx,q1⟩=>thn (hi pins s1 σ H1 _ I1 q1) fun iv s2 ⟨y,H2,I2,ry,a,v,ex,g,q2⟩=>?_)
 subst ex
 obtain rfl:u=Value.ref a:=rx
 exact ⟨mJ I2 g,qQ hu I2 g ry fun w' s3 I3 rw'=>⟨v,H2,I3,rw',q2⟩⟩
theorem su (hu:X.A.units+1<cLine) (hi:PE X i ty) (ho:PE X o td):PC X .In i o (A7 ty td):=by
 intro pins s σ H Q I h
 refine thn (hi pins s σ H _ I h) fun iv s1 ⟨y,H1,I1,ry,q1⟩=>thn (ho pins s1 σ H1 _ I1 q1) fun u s2 ⟨x,H2,I2,rx,a,ov,ex,g,q2⟩=>?_
 subst ex
 obtain rfl:u=Value.ref a:=rx
 exact zI hu I2 g ry fun s3 I3=>⟨.bl ov.isSome,H2,I3,rfl,q2⟩
theorem jV (hu:X.A.units+1<cLine) (hi:PE X i ty) (ho:PE X o td):PC X .NotIn i o (va ty td):=by
 intro pins s σ H Q I h
 refine thn (hi pins s σ H _ I h) fun iv s1 ⟨y,H1,I1,ry,q1⟩=>thn (ho pins s1 σ H1 _ I1 q1) fun u s2 ⟨x,H2,I2,rx,a,ov,ex,g,q2⟩=>?_
 subst ex
 obtain rfl:u=Value.ref a:=rx
 exact pR hu I2 g ry fun s3 I3=>⟨.bl (!ov.isSome),H2,I3,rfl,q2⟩
end
theorem sv {P:Program}{w:World}{H:Hp} (h:Heap) (hb:sysModules<h.objs.size):bG P w H (h.push { cls:=.type "dict",data:=.dict #[] }) h.objs.size (.dK []) :=
 ⟨Nat.zero_le _,beq_eq_false_iff_ne.mpr (Ne.symm (Nat.ne_of_lt hb)),[],.nil,Heap.DictOf.new h⟩
noncomputable def x6:TE:=fun _ H Q=>∀ p,H p=none→Q (.ref p) (upd H p (.dK []))
section
variable {X : Cx} {pos : Pos}
theorem mK:PE X (.Dict [] [] pos) x6:=fun pins s σ H Q I h =>
 wpAny_Dict_empty ⟨.ref s.heap.objs.size,_,I.laid (a:=s.heap.objs.size) (o:=.dK []) (t':=s.toks) (fun _ _ q=>Heap.get?_push_of_some _ q) (Nat.le_refl _) (sv s.heap I.big),rfl,h _ (I.hok.fresh (Nat.le_refl _))⟩
end
structure M1 (X:Cx) (o:Expr) (m:Str) (apos:Pos) (e:Expr) (cpos:Pos):Prop where
 base:attributeBase o m X.env (eval o X.env)=eval o X.env
 few:((backTo cpos (starEach [e] X.env)).all (fun x=>!x.1)&&(backToKw cpos (keywordEach [] X.env)).all (fun x=>x.1.isSome)
  && decide (([e]:List Expr).length+([]:List Keyword).length+(if ([]:List Keyword).isEmpty then 0 else 1)<30))=true
 line:(apos.endLine==cpos.line)=true
 trees:backTo cpos (starEach [e] X.env)=[(false,eval e X.env)]
structure M2 (X:Cx) (o:Expr) (m:Str) (apos:Pos) (e f:Expr) (cpos:Pos):Prop where
 base:attributeBase o m X.env (eval o X.env)=eval o X.env
 few:((backTo cpos (starEach [e,f] X.env)).all (fun x=>!x.1)&&(backToKw cpos (keywordEach [] X.env)).all (fun x=>x.1.isSome)
  && decide (([e,f]:List Expr).length+([]:List Keyword).length+(if ([]:List Keyword).isEmpty then 0 else 1)<30))=true
 line:(apos.endLine==cpos.line)=true
 trees:backTo cpos (starEach [e,f] X.env)=[(false,eval e X.env),(false,eval f X.env)]
noncomputable def IsD (H:Hp) (a:Addr):Prop:=(∃ kvs,Rd H a (.dK kvs))∨∃ kvs,Rd H a (.dT kvs)
theorem x8 {X:Cx}{pins:List (Addr×Obj)}{σ:St}{H:Hp}{s:Shared}{a:Addr} (I:Inv X pins σ H s) (d:IsD H a) :
  s.TypeIs (.ref a) "dict"∧(∀ b,Value.ref a=.ref b→∃ ob,s.heap.get? b=some ob∧ob.dict=none)∧(a==sysModules)=false:=by
 rcases d with ⟨kvs,e⟩|⟨kvs,e⟩
 ·obtain ⟨_,hd,vs,_,dd⟩:=iC I.hok e
  refine ⟨dd.typeIs,fun b q=>?_,hd⟩
  cases q
  obtain ⟨ob,_,_,h1,h2,_⟩:=dd
  exact ⟨ob,h1,h2.2.1⟩
 ·obtain ⟨_,hd,xs,_,dd⟩:=iD I.hok e
  refine ⟨dd.typeIs,fun b q=>?_,hd⟩
  cases q
  obtain ⟨ob,_,_,h1,h2,_⟩:=dd
  exact ⟨ob,h1,h2.2.1⟩
section
variable {X : Cx} {pins : List (Addr × Obj)} {σ : St} {H : Hp} {s : Shared} {a : Addr} {y d : V} {u r : Value} {o : Option V} {A : Around} {E : Value → Shared → Prop}
theorem x9 {Q:Value→Shared→Prop} (hu:A.units+1<cLine) (I:Inv X pins σ H s) (g:cW H a y o) (ry:RelV y u) (rd:RelV d r) (h:∀ w' s',Inv X pins σ H s'→RelV (o.getD d) w'→Q w' s') :
  wpAny (model X.prog X.w) A (call (.builtin "dict.get") [.ref a,u,r]) Q E s:=by
 rcases g with ⟨kvs,k,e,ey,l⟩|⟨kvs,k,b,e,ey,eb,l⟩
 ·subst ey
  obtain ⟨z,hd,vs,rel,dd⟩:=iC I.hok e
  refine call_meetsIn PySem.F.slot_dict_get dd.typeIs PySem.F.entry_dict_get (PySem.F.args_dict_get_3 _ _ _) (meets_dict_get_default (aM X.prog X.w) a (jT ry) hd r) ⟨_,dd.mapOf,h _ _ (I.tok _) ?_⟩
  rw [l]
  exact (rel.val k).getD rd
 ·subst ey
  cases (show u=Value.ref b from ry)
  obtain ⟨z,hd,xs,rel,dd⟩:=iD I.hok e
  refine call_meetsIn PySem.F.slot_dict_get dd.typeIs PySem.F.entry_dict_get (PySem.F.args_dict_get_3 _ _ _) (meetsH_dict_get_default (tupleKind (aM X.prog X.w)) a b hd r) ⟨tupleKind_room_in1 hu,k,xs,gp I.hok eb,dd,h _ _ (I.tok _) ?_⟩
  rw [l]
  exact (rel.val k).getD rd
end
noncomputable def x_ (td ty tx:TE):TE:=fun σ H Q=>td σ H fun x H1=>∃ a,x=.ref a∧IsD H1 a∧ty σ H1 fun y H2=>tx σ H2 fun z H3=>∃ o,cW H3 a y o∧Q (o.getD z) H3
section
variable {X : Cx} {o e f : Expr} {apos cpos : Pos} {td ty tx : TE}
theorem sx (hu:X.A.units+1<cLine) (ho:PE X o td) (he:PE X e ty) (hf:PE X f tx) (m:M2 X o "get" apos e f cpos):PE X (.Call (.Attribute o "get" apos) [e,f] [] cpos) (x_ td ty tx):=by
 intro pins s σ H Q I h
 refine wpAny_Call_method m.base m.few m.line PySem.F.plainAttrs_dict PySem.F.slot_dict_get PySem.F.type_dict_get (thn (ho pins s σ H _ I h) fun u s1 ⟨x,H1,I1,rx,a,ex,d,q1⟩=>?_)
 subst ex
 obtain rfl:u=Value.ref a:=rx
 obtain ⟨t1,t2,_⟩:=x8 I1 d
 refine ⟨t1,t2,?_⟩
 rw [m.trees]
 refine Calls.callWith_builtin rfl (Calls.evalArgs_plain (Calls.spliced_cons (thn (he pins s1 σ H1 _ I1 q1) fun iv s2 ⟨y,H2,I2,ry,q2⟩ =>
  Calls.spliced_cons (thn (hf pins s2 σ H2 _ I2 q2) fun fv s3 ⟨z,H3,I3,rz,ov,g,q3⟩=>Calls.spliced_nil ?_))))
 exact x9 hu I3 g ry rz fun w' s4 I4 rw'=>⟨_,H3,I4,rw',q3⟩
end
section
variable {X : Cx} {pins : List (Addr × Obj)} {σ : St} {H : Hp} {s : Shared} {a : Addr} {kvs : List (Key × V)} {A : Around} {E : Value → Shared → Prop}
end
section
variable {X : Cx} {pins : List (Addr × Obj)} {σ : St} {H : Hp} {s : Shared} {a : Addr} {y : V} {u : Value} {A : Around} {E : Value → Shared → Prop}
end
end L2
namespace W01
open PySem PySem.Builtin.Str PySem.StrLaws
noncomputable def low (c:Nat):Bool:=decide (97≤c)&&decide (c≤122)
noncomputable def dN (l:List Nat):Bool:=decide (1≤l.length)&&decide (l.length≤8)&&l.all low
theorem b_ (l:List Nat):dN l=true↔1≤l.length∧l.length≤8∧∀ c∈l,97≤c∧c≤122:=by
 simp [dN,low,List.all_eq_true,and_assoc]
theorem mL {l:List Nat} (h:dN l=true):47∉l:=fun m=>by
 have:=((b_ l).mp h).2.2 47 m
 omega
theorem vc {x y:Str} (h:x.cps.toList=y.cps.toList):x=y:=by
 cases x;cases y
 congr
 exact Array.toList_inj.mp h
theorem kS (x:Str) (c i:Nat):At x ⟨#[c]⟩ x.length i↔x.cps.toList[i]?=some c:=subAt_one x c i
theorem ya {x:Str}{a b:List Nat}{c:Nat} (h:x.cps.toList=a++c::b) (hn:c∉a) (limit:Nat) (hl:1≤limit):∃ r,occurrences x ⟨#[c]⟩ 0 x.length limit=a.length::r:=by
 have hat:x.cps.toList[a.length]?=some c:=by rw [h];simp
 rcases occ_head x ⟨#[c]⟩ limit hl with ⟨_,hno⟩|⟨i,r,e,hi,hmin⟩
 ·exact absurd ((kS x c a.length).mpr hat) (hno _)
 ·have e1:=(kS x c i).mp hi
  have:i=a.length:=by
   rcases Nat.lt_trichotomy i a.length with z|z|z
   ·exfalso
    rw [h,List.getElem?_append_left z] at e1
    exact hn (List.mem_of_getElem? e1)
   ·exact z
   ·exact absurd ((kS x c a.length).mpr hat) (hmin _ z)
  subst this
  exact ⟨r,e⟩
theorem oz {x:Str}{c:Nat} (h:c∉x.cps.toList):Txt.split x ⟨#[c]⟩=[x]:=by
 unfold Txt.split
 split
 ·rfl
 ·rw [if_pos]
  rcases occ_head x ⟨#[c]⟩ (x.length+1) (by omega) with ⟨e,_⟩|⟨i,r,e,hi,_⟩
  ·rw [e];rfl
  ·exact absurd (List.mem_of_getElem? ((kS x c i).mp hi)) h
theorem mM (c:Nat) (h:c<256) (x:Str):¬ (PySem.Builtin.Str.strKind x<PySem.Builtin.Str.strKind ⟨#[c]⟩):=by
 have e:PySem.Builtin.Str.strKind ⟨#[c]⟩=1:=by simp [PySem.Builtin.Str.strKind,h]
 rw [e]
 unfold PySem.Builtin.Str.strKind
 split
 ·omega
 ·split <;> omega
theorem sy {x:Str}{a b:List Nat}{c:Nat} (h:x.cps.toList=a++c::b) (hn:c∉a) (hc:c<256):∃ r,Txt.split x ⟨#[c]⟩=⟨a.toArray⟩::r:=by
 obtain ⟨r,e⟩:=ya h hn (x.length+1) (by omega)
 have l1:(⟨#[c]⟩:Str).length=1:=rfl
 have lx:x.length=a.length+1+b.length:=by
  have:=congrArg List.length h
  simp [Str.length] at this ⊢
  omega
 unfold Txt.split
 rw [if_neg (by
  have h1:¬ (x.length<(⟨#[c]⟩:Str).length):=by rw [l1];omega
  have h2:=mM c hc x
  simp [h1,h2]),if_neg (by rw [e];simp),partsBetween_eq,e]
 refine ⟨_,congrArg (·::_) ?_⟩
 apply vc
 rw [strSub_toList,h]
 simp
end W01
namespace W01
open PySem PySem.Builtin.Str PySem.StrLaws
noncomputable def qS (i:Int):Str:=Str.ofString (toString i)
noncomputable def wU:Str:=⟨#[47]⟩
end W01
namespace L2
open PySem PySem.Spec PyProof.Rows
noncomputable def a_ (env:Env):List (Str×NameKind)→List (Str×Addr)→List (Str×Addr)
 |[],cs=>cs
 |(n,k)::r,cs=>a_ env r (if k==.free then (match env.cells.lookup n with|some a=>(n,a)::cs|none=>cs) else cs)
theorem dh {scope:Scope}{env:Env} (h:∀ y∈scope.names,y.2=.free→∃ a,env.cells.lookup y.1=some a):closureFor scope env=pure (a_ env scope.names []):=by
 unfold closureFor
 generalize scope.names=names at h
 suffices H:∀ cs,(forIn names cs (fun (x:Str×NameKind) (r:List (Str×Addr))=>if (x.2==NameKind.free)=true then do let a ←cellOf env x.1;pure (ForInStep.yield ((x.1,a)::r)) else pure (ForInStep.yield r)):Sem (List (Str×Addr)))=pure (a_ env names cs) by
  have:=H []
  exact congrArg (fun (m:Sem (List (Str×Addr)))=>m >>= pure) this
 induction names with
 |nil=>intro cs;rfl
 |cons y r ih =>
  intro cs
  obtain ⟨n,k⟩:=y
  rw [List.forIn_cons]
  have ih':=ih fun y hy=>h y (List.mem_cons_of_mem _ hy)
  by_cases hk:(k==NameKind.free)=true
  ·obtain ⟨a,ha⟩:=h (n,k) List.mem_cons_self (by simpa using hk)
   have ha':env.cells.lookup n=some a:=ha
   simp only [hk,if_true,cellOf,ha',a_]
   exact ih' _
  ·simp only [hk,if_false,a_]
   exact ih' _
theorem dv {env:Env}:∀ (names:List (Str×NameKind)) (cs:List (Str×Addr)),(∀ n c,cs.lookup n=some c→env.cells.lookup n=some c)→∀ n c,(a_ env names cs).lookup n=some c→env.cells.lookup n=some c
 |[],_,h=>h
 |(m,k)::r,cs,h=>by
  unfold a_
  refine dv r _ fun n c e=>?_
  by_cases hk:(k==NameKind.free)=true
  ·rw [if_pos hk] at e
   cases q:env.cells.lookup m with
   |none=>rw [q] at e;exact h n c e
   |some a =>
    rw [q] at e
    simp only [List.lookup_cons] at e
    cases hx:n==m with
    |true =>
     rw [hx] at e
     have e':n=m:=by simpa using hx
     subst e'
     simp only at e
     rw [q];exact e
    |false=>rw [hx] at e;exact h n c e
  ·rw [if_neg hk] at e;exact h n c e
theorem gI {env:Env}{n:Str}{a:Addr} (ha:env.cells.lookup n=some a):∀ (names:List (Str×NameKind)) (cs:List (Str×Addr)),cs.lookup n=some a→(a_ env names cs).lookup n=some a
 |[],_,h=>h
 |(m,k)::r,cs,h=>by
  unfold a_
  refine gI ha r _ ?_
  by_cases hk:(k==NameKind.free)=true
  ·rw [if_pos hk]
   cases q:env.cells.lookup m with
   |none=>exact h
   |some b =>
    simp only [List.lookup_cons]
    cases hx:n==m with
    |true =>
     have e':n=m:=by simpa using hx
     subst e'
     rw [ha] at q;cases q;rfl
    |false=>exact h
  ·rw [if_neg hk];exact h
theorem fb {env:Env}{n:Str}{a:Addr} (ha:env.cells.lookup n=some a):∀ (names:List (Str×NameKind)) (cs:List (Str×Addr)),(n,NameKind.free)∈names→(a_ env names cs).lookup n=some a
 |[],_,h=>by cases h
 |(m,k)::r,cs,h=>by
  unfold a_
  rcases List.mem_cons.mp h with e|e
  ·cases e
   refine gI ha r _ ?_
   rw [if_pos (by decide),ha]
   simp [List.lookup_cons]
  ·exact fb ha r _ e
theorem bt {env:Env}:∀ {names:List (Str×NameKind)}{x:Str}{k:NameKind},
  (names.map fun (n,k)=>if (k==NameKind.free&&env.scope.kind==.function&&env.kindOf n==some .cell) then (n,NameKind.cell) else (n,k)).lookup x=some k →
  names.lookup x=some k∨(k=.cell∧names.lookup x=some .free)
 |[],_,_,h=>by simp at h
 |(n,k0)::r,x,k,h=>by
  have ih:=@bt env r x k
  rw [List.map_cons] at h
  by_cases hc:(k0==NameKind.free&&env.scope.kind==.function&&env.kindOf n==some .cell)=true
  ·simp only [if_pos hc,List.lookup_cons] at h
   cases hx:x==n with
   |true =>
    rw [hx] at h
    have hf:k0=.free:=by
     have:=(Bool.and_eq_true_iff.mp (Bool.and_eq_true_iff.mp hc).1).1
     simpa using this
    refine .inr ⟨by simpa using h.symm,by simp [List.lookup_cons,hx,hf]⟩
   |false =>
    rw [hx] at h
    rcases ih h with z|⟨z1,z2⟩
    ·exact .inl (by simp [List.lookup_cons,hx,z])
    ·exact .inr ⟨z1,by simp [List.lookup_cons,hx,z2]⟩
  ·simp only [if_neg hc,List.lookup_cons] at h
   cases hx:x==n with
   |true=>rw [hx] at h;exact .inl (by simpa [List.lookup_cons,hx] using h)
   |false =>
    rw [hx] at h
    rcases ih h with z|⟨z1,z2⟩
    ·exact .inl (by simp [List.lookup_cons,hx,z])
    ·exact .inr ⟨z1,by simp [List.lookup_cons,hx,z2]⟩
noncomputable def cxC (X:Cx) (N:List Str) (scope:Scope) (C:Addr) (s:Shared) (H:Hp) (ex:List Addr):Cx where
 prog:=X.prog
 w:=X.w
 K:=X.K
 mg:=X.mg
 base:=X.base
 A:=X.A
 N:=N
 s₀:=s
 H₀:=H
 env:=compEnvC scope (a_ X.env scope.names []) C X.env
 outer:=X.stack
 stack:=X.stack
 ex:=ex
 fn:=fun _=>false
 calm:=X.calm
 pn:=[]
 xe:=fun _ _=>False
noncomputable def cX (D N:List Str):Prop:=D.length=N.length∧∀ (i:Nat) (y:Str),D[i]?=some y→N[i]?=some y∨y="."∨y=".."
theorem cX.refl (N:List Str):cX N N:=⟨rfl,fun _ _ h=>.inl h⟩
theorem cX.set {D N:List Str} (h:cX D N) (j:Nat) {m:Str} (hm:m="."∨m=".."):cX (D.set j m) N:=by
 refine ⟨by rw [List.length_set];exact h.1,fun i y e=>?_⟩
 by_cases hj:j=i
 ·subst hj
  rw [List.getElem?_set,if_pos rfl] at e
  split at e
  ·cases e
   exact .inr hm
  ·cases e
 ·rw [List.getElem?_set_ne hj] at e
  exact h.2 i y e
structure cY (X:Cx) (N own:List Str) (scope:Scope):Prop where
 kind:scope.kind=.function
 nocell:∀ y∈scope.names,y.2≠.cell
 names:∀ y∈scope.names,y.2=.local→scope.names.lookup y.1=some .local
 nd:N.Nodup
 pre:N.take own.length=own
 loc:∀ y∈scope.names,y.2=.local→y.1∈own∨y.1=".0"
 no0:(".0":Str)∉N
 tail:cX (N.drop own.length) X.N
 free:∀ y∈scope.names,y.2=.free→X.env.scope.names.lookup y.1=some .cell∨X.env.scope.names.lookup y.1=some .free
 dot:∀ y∈scope.names,y.1≠"."∧y.1≠".."
theorem mem_lookup {names:List (Str×NameKind)}{x:Str}{k:NameKind} (h:names.lookup x=some k):(x,k)∈names:=PySem.mem_of_lookup h
theorem cY.cells {X:Cx}{N own:List Str}{scope:Scope} (S:cY X N own scope) (ok:X.Ok):∀ y∈scope.names,y.2=.free→∃ a,X.env.cells.lookup y.1=some a:=fun y hy hf=>by
 rcases S.free y hy hf with z|z
 ·exact ok.has y.1 (.inl z)
 ·exact ok.has y.1 (.inr z)
theorem sA {X:Cx}{pins:List (Addr×Obj)}{σ:St}{H:Hp}{s s4:Shared}{N own:List Str}{scope:Scope}{C:Addr}{ex:List Addr} (S:cY X N own scope) (I:Inv X pins σ H s)
  (hC:s.heap.objs.size≤C) (hos:s4.os=s.os) (hg:s4.gens=s.gens) (keep:∀ b o,s.heap.get? b=some o→s4.heap.get? b=some o) (ns:∃ m,s4.heap.Ns C m)
  (hex:∀ b∈ex,fB X pins H b∧b<s.heap.objs.size):Inv (cxC X N scope C s H ex) [] (List.replicate own.length none++σ) H s4:=by
 obtain ⟨m0,hm0⟩:=ns
 have sub:=dv (env:=X.env) scope.names [] (fun n c e=>by simp at e)
 have exlt:∀ b∈ex,b<C:=fun b hb=>Nat.lt_of_lt_of_le (hex b hb).2 hC
 have tl:own.length≤N.length:=by have:=congrArg List.length S.pre;rw [List.length_take] at this;omega
 refine ⟨⟨I.ok.mod,?_,I.ok.glob,I.ok.blt,hC,fun x y c h1 h2=>I.ok.inj x y c (sub x c h1) (sub y c h2),fun x hx=>?_,fun x c h _=>absurd (show false=true from h) (by decide),I.ok.hd,I.ok.frames,.inl rfl,fun b hb=>⟨Nat.ne_of_lt (exlt b hb),fun x c e=>?_⟩,fun b o e=>I.bs b o e,?_,fun b o e hb=>?_,fun b hb=>?_,I.stack,I.pM⟩,
  hos,(by rw [hg];exact I.bare),Un.kept keep,⟨m0,hm0,fun i y v h1 h2 h3=>?_⟩,fun x c e=>?_,I.hok.fresh hC,fun x c e=>I.freeC x c (sub x c e),fun p hp=>absurd (show p∈([]:List (Addr×Obj)) from hp) (by simp),I.hok.kept keep,?_⟩
 ·show (relabel scope X.env).kind=.function
  exact S.kind
 ·
  have hx':(relabel scope X.env).names.lookup x=some .cell∨(relabel scope X.env).names.lookup x=some .free:=hx
  have hfree:scope.names.lookup x=some .free:=by
   rcases hx' with z|z
   ·rcases bt z with q|⟨_,q⟩
    ·exact absurd rfl (S.nocell _ (mem_lookup q))
    ·exact q
   ·rcases bt z with q|⟨q,_⟩
    ·exact q
    ·cases q
  obtain ⟨a,ha⟩:=S.cells I.ok (x,.free) (mem_lookup hfree) rfl
  exact ⟨a,fb ha scope.names [] (mem_lookup hfree)⟩
 ·exact (hex b hb).1.2.2.2.2.1 x c (sub x c e)
 ·exact Nat.le_trans I.ok.bsz I.sz
 ·obtain ⟨f0,f1,f2,f3,f4,f5⟩:=(hex b hb).1
  rcases f3 with z|z
  ·exact I.ok.noex b o e z
  ·exact absurd (Nat.lt_of_lt_of_le (Heap.lt_size e) (Nat.le_trans I.ok.bsz z)) (Nat.lt_irrefl _)
 ·intro hb'
  obtain ⟨f0,f1,f2,f3,f4,f5⟩:=(hex b hb).1
  rcases List.mem_cons.mp (I.ig b hb') with z|z
  ·exact f1 z
  ·exact f2 z
 ·
  have hi:own.length≤i:=by
   by_cases hi:i<own.length
   ·rw [List.getElem?_append_left (by simpa using hi),List.getElem?_replicate] at h2
    split at h2 <;> cases h2
   ·omega
  rw [List.getElem?_append_right (by simpa using hi),List.length_replicate] at h2
  have hNd:(N.drop own.length)[i - own.length]?=some y:=by
   rw [List.getElem?_drop]
   have e:own.length+(i - own.length)=i:=by omega
   rw [e];exact h1
  have h3':(relabel scope X.env).names.lookup y=some .local∨(relabel scope X.env).names.lookup y=some .cell∨(relabel scope X.env).names.lookup y=some .free:=h3
  have hfree:scope.names.lookup y=some .free:=by
   rcases h3' with z|z|z
   ·rcases bt z with q|⟨q,_⟩
    ·exfalso
     have hmem:y∈own:=by
      rcases S.loc (y,.local) (mem_lookup q) rfl with z|z
      ·exact z
      ·have z':y=".0":=z
       exact absurd (List.mem_of_getElem? h1) (by rw [z'];exact S.no0)
     obtain ⟨j,hj,ej⟩:=List.getElem_of_mem hmem
     have hj':N[j]?=some y:=by
      have e1:(N.take own.length)[j]?=some y:=by rw [S.pre,List.getElem?_eq_getElem hj,ej]
      rw [List.getElem?_take_of_lt hj] at e1
      exact e1
     have:=ij S.nd hj' h1
     omega
    ·cases q
   ·rcases bt z with q|⟨_,q⟩
    ·exact absurd rfl (S.nocell _ (mem_lookup q))
    ·exact q
   ·rcases bt z with q|⟨q,_⟩
    ·exact q
    ·cases q
  have hX:X.N[i - own.length]?=some y:=by
   rcases S.tail.2 _ _ hNd with e|e|e
   ·exact e
   ·exact absurd e (S.dot _ (mem_lookup hfree)).1
   ·exact absurd e (S.dot _ (mem_lookup hfree)).2
  obtain ⟨m,hn,hl⟩:=I.loc
  have hv:X.env.scope.names.lookup y=some .cell∨X.env.scope.names.lookup y=some .free:=S.free (y,.free) (mem_lookup hfree) rfl
  obtain ⟨u,r,l⟩:=hl _ y v hX h2 (.inr hv)
  refine ⟨u,r,?_⟩
  rcases l with ⟨k,_⟩|⟨k,c,e,z⟩
  ·have k':X.env.scope.names.lookup y=some .local:=k
   rcases hv with q|q <;> (rw [k'] at q;cases q)
  ·have hk:(relabel scope X.env).names.lookup y=some .cell∨(relabel scope X.env).names.lookup y=some .free:=by
    rcases h3' with q|q|q
    ·rcases bt q with q'|⟨q',_⟩
     ·rw [hfree] at q';cases q'
     ·cases q'
    ·exact .inl q
    ·exact .inr q
   obtain ⟨o,ho,hd⟩:=z
   exact .inr ⟨hk,c,fb e scope.names [] (mem_lookup hfree),o,keep c o ho,hd⟩
 ·obtain ⟨v,o,ho,hd⟩:=I.cell x c (sub x c e)
  exact ⟨v,o,keep c o ho,hd⟩
 ·rw [List.length_append,List.length_replicate,I.len]
  have e:N.length=own.length+(N.drop own.length).length:=by rw [List.length_drop];omega
  show _=N.length
  rw [e,S.tail.1]
theorem mN {X:Cx}{pins pins':List (Addr×Obj)}{σ σ':St}{H H4:Hp}{s s4:Shared}{N:List Str}{scope:Scope}{C D:Addr}{ex:List Addr}{ys:List V}{its:List Value}{h':Heap} (I:Inv X pins σ H s)
  (I4:Inv (cxC X N scope C s H ex) pins' σ' H4 s4) (hD:s.heap.objs.size≤D) (hC:s.heap.objs.size≤C) (hDC:D≠C) (nD:H4 D=none) (rv:Vals ys its) (pl:s4.heap.PlainList D its.toArray) (hl:ys.length≤sizeLine)
  (sb:Heap.SameBut C s4.heap h') (hex:∀ b∈ex,fB X pins H b):Inv X pins σ (upd H4 D (.lst ys)) { s4 with heap:=h' }:=by
 have nC:H4 C=none:=I4.free
 have lt:∀ {b:Addr} {o:Obj},s.heap.get? b=some o→b≠C∧b≠D:=fun e=>⟨Nat.ne_of_lt (Nat.lt_of_lt_of_le (Heap.lt_size e) hC),Nat.ne_of_lt (Nat.lt_of_lt_of_le (Heap.lt_size e) hD)⟩
 refine I.ze (s':={ s4 with heap:=h' }) (ch:=ex) I4.os ⟨fun b o e n hb hx=>?_,fun b o e n hb hx=>?_,fun b o e n hx=>?_,fun b o e hx=>?_,fun b xs e=>?_,fun b o u e=>?_,fun b ps e=>?_⟩ (fun a o e=>?_) I4.bare fun b hb=>?_
 ·exact (sb.2 b (lt e).1).trans (I4.base.keep b o e n hb hx)
 ·obtain ⟨sl,q⟩:=I4.base.slot b o e n hb hx
  exact ⟨sl,(sb.2 b (lt e).1).trans q⟩
 ·rw [ai (lt e).2];exact I4.base.free b o e n hx
 ·obtain ⟨o',q⟩:=I4.base.there b o e hx
  exact ⟨o',(sb.2 b (lt e).1).trans q⟩
 ·have q:=I4.base.g_ b xs e
  rw [ai (bg q nD)];exact q
 ·have q:=I4.base.frzs b o u e
  rw [ai (bg q nD)];exact q
 ·obtain ⟨more,q⟩:=I4.base.tbls b ps e
  exact ⟨more,by rw [ai (bg q nD)];exact q⟩
 ·by_cases ha:a=D
  ·subst ha
   rw [aq] at e;cases e
   obtain ⟨n,q⟩:=pl
   exact ⟨hl,its,n,rv,(sb.2 _ hDC).trans q⟩
  ·rw [ai ha] at e
   refine (I4.hok a o e).kH (fun c v hc q=>(sb.2 c ?_).trans q) (fun c q=>?_) fun c xs q=>?_
   ·rintro rfl
    rcases hc with z|z
    ·rw [←z,nC] at e;cases e
    ·rw [nC] at z;cases z
   ·rw [ai (bg q nD)];exact q
   ·rw [ai (bg q nD)];exact q
 ·obtain ⟨f0,f1,f2,f3,f4,f5⟩:=hex b hb
  exact ⟨f3,f1,f4,f5⟩
end L2
namespace L2
open PySem PySem.Spec PyProof.Rows
section
variable {prog : Program} {w : World} {A : Around} {E : Value → Shared → Prop} {R : Result → Shared → Prop} {s : Shared}
theorem kU {elt target iter:Expr}{ifs:List Expr}{scope:Scope}{pos:Pos}{it acc:Value}{env:Env} (I:Nat→Shared→Prop)
  (turn:∀ n s,I n s→wpAny (model prog w) A (pyNext it) (fun r s₁=>match r with
   |none=>R (.ok .next) s₁
   |some v=>wpAny (model prog w) A (letOwnedTupleGo target it v) (fun _ s₁=>wpAny (model prog w) A (assign target env v) (fun _ s₂ =>
     wpAny (model prog w) A (forIn ifs true fun c r=>if r=true then do let ok ←isTrue c env (eval c env);pure (ForInStep.yield ok) else pure (ForInStep.yield r)) (fun ok s₃ =>
      if ok=true then wpAny (model prog w) A (eval elt env) (fun x s₄ =>
       wpAny (model prog w) A (call (.builtin "list.append") [acc,x]) (fun _ s₅=>∃ m,m<n∧I m s₅) (notedBy (model prog w) A env fun e s'=>R (.error e) s') s₄) (notedBy (model prog w) A env fun e s'=>R (.error e) s') s₃
      else ∃ m,m<n∧I m s₃) (notedBy (model prog w) A env fun e s'=>R (.error e) s') s₂) (notedBy (model prog w) A env fun e s'=>R (.error e) s') s₁) (notedBy (model prog w) A env fun e s'=>R (.error e) s') s₁) (notedBy (model prog w) A env fun e s'=>R (.error e) s') s)
  (n:Nat) (h:I n s) :
  codeAny (model prog w) A (.compLoop (.ListComp elt [⟨target,iter,ifs,0⟩] scope pos) 0 it acc env) R s:=by
 refine codeAny_loop rfl I (fun n s hI=>?_) n h
 show wpAny _ A ((compTurn (.ListComp elt [⟨target,iter,ifs,0⟩] scope pos) 0 it acc env).onRaise (fun x=>do noteFrame x env;theTreesLotGoes x)) _ _ s
 refine wpAny_noted ?_
 rw [compTurn_list]
 refine wpAny_bind (wpAny_standAt (wpAny_bind (wpAny_mono (turn n s hI) (fun r s₁ h₁=>?_) fun _ _ h'=>h')))
 cases r with
 |none=>exact wpAny_pure h₁
 |some v =>
  refine wpAny_bind (wpAny_mono h₁ (fun _ s₁' h₁'=>?_) fun _ _ h'=>h')
  refine wpAny_bind (wpAny_mono h₁' (fun _ s₂ h₂=>wpAny_bind (wpAny_mono h₂ (fun ok s₃ h₃=>?_) fun _ _ h'=>h')) fun _ _ h'=>h')
  cases ok with
  |false=>exact wpAny_pure ⟨rfl,h₃⟩
  |true =>
   exact wpAny_bind (wpAny_bind (wpAny_mono h₃ (fun x s₄ h₄=>wpAny_bind (wpAny_mono h₄ (fun _ s₅ h₅=>wpAny_pure (wpAny_pure ⟨rfl,h₅⟩)) fun _ _ h'=>h')) fun _ _ h'=>h'))
end
noncomputable def PIf (X:Cx) (ifs:List Expr) (t:TT):Prop :=
 ∀ (pins:List (Addr×Obj)) (s:Shared) (σ:St) (H:Hp) (Q:Bool→Hp→Prop),Inv X pins σ H s→t σ H Q →
  wpAny (model X.prog X.w) X.A (forIn ifs true fun c r=>if r=true then do let ok ←isTrue c X.env (eval c X.env);pure (ForInStep.yield ok) else pure (ForInStep.yield r)) (TP X pins σ Q) X.xe s
noncomputable def A8:TT:=fun _ H Q=>Q true H
theorem pT {X:Cx}:PIf X [] A8:=fun _ _ _ H _ I h=>wpAny_tests_nil ⟨H,I,h⟩
theorem pU {X:Cx}{c:Expr}{t:TT} (h:PT X c t):PIf X [c] t:=fun pins s σ H Q I q=>wpAny_tests_one (h pins s σ H Q I q)
noncomputable def sC (k : Nat) (J : It) (g : TG) (tt : TT) (te : TE) (Q : VK) (σ : St) (H1 : Hp) : Prop :=
  ∃ W : Nat → Nat → List V → Hp → Prop, (∃ m, W 0 m [] H1) ∧ ∀ i m ys H, W i m ys H → ys.length ≤ sizeLine ∧
    ((J.stop i H ∧ ∀ p, H p = none → Q (.ref p) (upd H p (.lst ys))) ∨
     (J.go i H ∧ ∃ NN : List V → Hp → Prop, (∀ ys' H', NN ys' H' → ∃ m', m' < m ∧ W (i + 1) m' ys' H') ∧ ∀ x H', J.yld i H x H' → g x (List.replicate k none ++ σ) H' fun σ2 H2 => ∃ own : St, own.length = k ∧ σ2 = own ++ σ ∧
        tt σ2 H2 fun b H3 => if b = true then te σ2 H3 fun y H4 => NN (ys ++ [y]) H4 else NN ys H3))
noncomputable def sD (k:Nat) (wi:TI) (g:TG) (tt:TT) (te:TE):TE:=fun σ H Q=>wi σ H fun J H1=>sC k J g tt te Q σ H1
section
variable {X : Cx} {N own : List Str} {scope : Scope} {tg iter elt : Expr} {ifs : List Expr} {wi : TI} {g : TG} {tt : TT} {te : TE} {pos : Pos}
theorem sE {pins:List (Addr×Obj)}{σ:St}{H:Hp}{s s4:Shared}{C D it:Addr}{fp:List Addr}{tn:Nat→Heap→Prop}{J:It}{Q:VK}{R:Result→Shared→Prop}
  (S:cY X N own scope) (hc:X.calm=true) (hg:∀ C s H ex,PG (cxC X N scope C s H ex) tg g) (hf:∀ C s H ex,PIf (cxC X N scope C s H ex) ifs tt) (he:∀ C s H ex,PE (cxC X N scope C s H ex) elt te)
  (I:Inv X pins σ H s) (T:Turn X.prog X.w X.K tg J fp it tn) (st:tn 0 s.heap) (f2:∀ b∈fp,fB X pins H b) (W:sC own.length J g tt te Q σ H)
  (hD:@Eq Nat D s.heap.objs.size) (hC:@Eq Nat C (s.heap.objs.size+1)) (hos:s4.os=s.os) (hgs:s4.gens=s.gens) (keep:∀ b o,s.heap.get? b=some o→s4.heap.get? b=some o) (ns:∃ m,s4.heap.Ns C m) (pl:s4.heap.PlainList D #[])
  (fin:∀ s5 H5 ys its,Inv (cxC X N scope C s H fp) [] (List.replicate own.length none++σ) H5 s5→H5 D=none→Vals ys its→s5.heap.PlainList D its.toArray→ys.length≤sizeLine→(∀ p,H5 p=none→Q (.ref p) (upd H5 p (.lst ys)))→R (.ok .next) s5) :
  codeAny (model X.prog X.w) X.A (.compStart (.ListComp elt [⟨tg,iter,ifs,0⟩] scope pos) 0 (.ref it) (.ref D) (compEnvC scope (a_ X.env scope.names []) C X.env)) R s4:=by
 have fplt:∀ b∈fp,@LT.lt Nat _ b s.heap.objs.size:=fun b hb=>by
  obtain ⟨o,e,_⟩:=T.obj 0 s.heap st b hb
  exact Heap.lt_size e
 have I4:Inv (cxC X N scope C s H fp) [] (List.replicate own.length none++σ) H s4:=sA S I (by omega) hos hgs keep ns fun b hb=>⟨f2 b hb,fplt b hb⟩
 have st4:tn 0 s4.heap:=T.keep 0 s.heap s4.heap st fun b _ o e=>keep b o e
 have nD:H D=none:=I.hok.fresh (by omega)
 obtain ⟨W,⟨m0,w0⟩,step⟩:=W
 generalize hX':cxC X N scope C s H fp=X' at I4 fin
 have eP:X'.prog=X.prog:=by rw [←hX'];rfl
 have ew:X'.w=X.w:=by rw [←hX'];rfl
 have eK:X'.K=X.K:=by rw [←hX'];rfl
 have ec:X'.calm=true:=by rw [←hX'];exact hc
 have eA:X'.A=X.A:=by rw [←hX'];rfl
 have ee:X'.env=compEnvC scope (a_ X.env scope.names []) C X.env:=by rw [←hX'];rfl
 have exe:X'.xe=fun _ _=>False:=by rw [←hX'];rfl
 have el:X'.env.locals=C:=by rw [ee];rfl
 have hg':PG X' tg g:=by rw [←hX'];exact hg _ _ _ _
 have hf':PIf X' ifs tt:=by rw [←hX'];exact hf _ _ _ _
 have he':PE X' elt te:=by rw [←hX'];exact he _ _ _ _
 have s0:X'.s₀=s:=by rw [←hX'];rfl
 have pn0:X'.pn=[]:=by rw [←hX'];rfl
 have fpC:∀ {H':Hp} {o:Obj},(∀ b∈fp,H' b=none)→∀ b∈fp,fB X' [(D,o)] H' b:=fun {H' o} hn b hb=>by
  have ex:X'.ex=fp:=by rw [←hX'];rfl
  refine ⟨hn b hb,?_,?_,.inl (by rw [ex];exact hb),fun x c e=>?_,fun p hp=>?_⟩
  ·rw [el];have:=fplt b hb;exact Nat.ne_of_lt (by show @LT.lt Nat _ b C;omega)
  ·have e1:X'.fs=frs X.stack:=by rw [←hX'];rfl
   rw [e1]
   intro z
   obtain ⟨f0,f1,f2',f3,f4,f5⟩:=f2 b hb
   rcases List.mem_cons.mp (I.ig b z) with q|q
   ·exact f1 q
   ·exact f2' q
  ·have e1:X'.env.cells=a_ X.env scope.names []:=by rw [ee];rfl
   rw [e1] at e
   exact (f2 b hb).2.2.2.2.1 x c (dv scope.names [] (fun n c e=>by simp at e) x c e)
  ·rw [pn0,List.nil_append] at hp
   have:p=(D,o):=by simpa using hp
   subst this
   have:=fplt b hb
   exact Nat.ne_of_gt (by show @LT.lt Nat _ b D;omega)
 have pinD:∀ {σ':St} {H':Hp} {s':Shared} {o:Obj},Inv X' [] σ' H' s'→H' D=none→s'.heap.get? D=some o→(∀ v,o.data≠.cell v)→Inv X' [(D,o)] σ' H' s':=fun {σ' H' s' o} I' n e d =>
  I'.eC fun p hp=>by
   have:p=(D,o):=by simpa using hp
   subst this
   refine ⟨e,n,?_,?_,d⟩
   ·rw [el];exact Nat.ne_of_lt (by show @LT.lt Nat _ D C;omega)
   ·have e1:X'.fs=frs X.stack:=by rw [←hX'];rfl
    rw [e1]
    intro z
    have zz:(D:Addr)∈frs X.stack:=z
    rcases List.mem_cons.mp (I.ig D zz) with q|q
    ·have:=I.lt;rw [←q] at this;exact absurd this (by show ¬ @LT.lt Nat _ D s.heap.objs.size;omega)
    ·exact I.zd (a:=D) (by omega) q
 have start:∀ s':Shared,s'=s4→codeAny (model X.prog X.w) X.A (.compLoop (.ListComp elt [⟨tg,iter,ifs,0⟩] scope pos) 0 (.ref it) (.ref D) (compEnvC scope (a_ X.env scope.names []) C X.env)) R s':=by
  rintro s' rfl
  refine kU (fun n s'=>∃ i ys its H',Inv X' [] (List.replicate own.length none++σ) H' s'∧tn i s'.heap∧(∀ b∈fp,H' b=none)∧H' D=none∧Vals ys its∧s'.heap.PlainList D its.toArray∧W i n ys H') ?_ m0
   ⟨0,[],[],H,I4,st4,fun b hb=>(f2 b hb).1,nD,.nil,pl,w0⟩
  rintro n s3 ⟨i,ys,its,H3,I3,st3,fr3,nD3,rv3,⟨nn,pl3⟩,w3⟩
  obtain ⟨hlen,hstep⟩:=step i n ys H3 w3
  have IP:=pinD I3 nD3 pl3 (fun v z=>by have z':Data.seq _ _=Data.cell v:=z;cases z')
  rcases hstep with ⟨stop,qn⟩|⟨go,NN,hNN,turn⟩
  ·have d:=T.done X' eP ew eK ec i _ s3 _ H3 (notedBy (model X.prog X.w) X.A (compEnvC scope (a_ X.env scope.names []) C X.env) fun e s'=>R (.error e) s') IP (fpC fr3) st3 stop
   rw [eA] at d
   refine thn d fun r s4 ⟨hr,I5⟩=>?_
   subst hr
   have e5:=(I5.pin (D,({ cls:=.type "list",data:=.seq its.toArray nn }:Obj)) (by rw [pn0];simp)).1
   exact fin s4 H3 ys its (I5.eC fun p hp=>by cases hp) nD3 rv3 ⟨nn,e5⟩ hlen qn
  ·have d:=T.item X' eP ew eK ec i _ s3 _ H3 (notedBy (model X.prog X.w) X.A (compEnvC scope (a_ X.env scope.names []) C X.env) fun e s'=>R (.error e) s') IP (fpC fr3) st3 go
   rw [eA] at d
   refine thn d fun r s4 ⟨u,hr,h4⟩=>?_
   subst hr
   refine thn h4 fun _ s5 ⟨x,H5,I5,r5,y5,st5,fr5⟩=>?_
   have nD5:H5 D=none:=(I5.pin (D,({ cls:=.type "list",data:=.seq its.toArray nn }:Obj)) (by rw [pn0];simp)).2.1
   have I5':=I5.pinned (fpC fr5) (T.obj _ _ st5)
   have a6:=hg' _ s5 _ H5 x u _ I5' r5 (turn x H5 y5)
   rw [eP,ew,eA,ee,exe] at a6
   refine wpAny_mono a6 (fun _ s6 ⟨σ6,H6,I6,q6⟩=>?_) fun _ _ z=>False.elim z
   obtain ⟨ow,how,rfl,q6⟩:=q6
   have a7:=hf' _ s6 _ H6 _ I6 q6
   rw [eP,ew,eA,ee,exe] at a7
   refine wpAny_mono a7 (fun b s7 ⟨H7,I7,q7⟩=>?_) fun _ _ z=>False.elim z
   have back:∀ {s8:Shared} {H8:Hp} {ys':List V} {its':List Value} {nn':Nat},Inv X' [] (ow++σ) H8 s8→tn (i+1) s8.heap→(∀ b∈fp,H8 b=none)→H8 D=none→Vals ys' its'→s8.heap.PlainList D its'.toArray→(∃ m',m'<n∧W (i+1) m' ys' H8) →
     ∃ m,m<n∧∃ i ys its H',Inv X' [] (List.replicate own.length none++σ) H' s8∧tn i s8.heap∧(∀ b∈fp,H' b=none)∧H' D=none∧Vals ys its∧s8.heap.PlainList D its.toArray∧W i m ys H':=fun {s8 H8 ys' its' nn'} I8 st8 fr8 n8 rv8 pl8 w8=>by
    obtain ⟨m',hm,w8⟩:=w8
    refine ⟨m',hm,i+1,ys',its',H8,I8.weak (by simp [how]) (fun j v e=>?_),st8,fr8,n8,rv8,pl8,w8⟩
    by_cases hj:j<own.length
    ·rw [List.getElem?_append_left (by simpa using hj),List.getElem?_replicate] at e
     split at e <;> cases e
    ·rw [List.getElem?_append_right (by simpa using (Nat.not_lt.mp hj)),List.length_replicate] at e
     rw [List.getElem?_append_right (by omega),how]
     exact e
   have tell:∀ {σ':St} {H8:Hp} {s8:Shared},Inv X' ([(D,({ cls:=.type "list",data:=.seq its.toArray nn }:Obj))]++iq fp s5.heap) σ' H8 s8→s8.heap.get? D=some { cls:=.type "list",data:=.seq its.toArray nn }∧H8 D=none∧tn (i+1) s8.heap∧∀ b∈fp,H8 b=none:=fun {σ' H8 s8} I8=>by
    have p1:=I8.pin (D,({ cls:=.type "list",data:=.seq its.toArray nn }:Obj)) (by rw [pn0];simp)
    refine ⟨p1.1,p1.2.1,T.keep _ _ _ st5 fun b hb o e=>(I8.pin (b,o) (List.mem_append_right _ (List.mem_append_right _ (du hb e)))).1,fun b hb=>?_⟩
    obtain ⟨o,e,d⟩:=T.obj _ _ st5 b hb
    exact (I8.pin (b,o) (List.mem_append_right _ (List.mem_append_right _ (du hb e)))).2.1
   cases b with
   |false =>
    rw [if_neg Bool.false_ne_true] at q7 ⊢
    obtain ⟨p1,p2,p3,p4⟩:=tell I7
    exact back (nn':=0) (I7.eC fun p hp=>by cases hp) p3 p4 p2 rv3 ⟨nn,p1⟩ (hNN _ _ q7)
   |true =>
    rw [if_pos rfl] at q7 ⊢
    have a8:=he' _ s7 _ H7 _ I7 q7
    rw [eP,ew,eA,ee,exe] at a8
    refine wpAny_mono a8 (fun y s8 ⟨yv,H8,I8,r8,q8⟩=>?_) fun _ _ z=>False.elim z
    obtain ⟨p1,p2,p3,p4⟩:=tell I8
    have hsz:its.toArray.size≤sizeLine:=by rw [List.size_toArray,←rv3.length];exact hlen
    refine wpAny_list_append_plain (hsz:=hsz) ⟨nn,p1⟩ fun h9 pl9 sb9=>?_
    have I8':Inv X' [] (ow++σ) H8 s8:=I8.eC fun p hp=>by cases hp
    have ltC:∀ x c,X'.env.cells.lookup x=some c→c≠D:=fun x c e=>by
     have e1:X'.env.cells=a_ X.env scope.names []:=by rw [ee];rfl
     rw [e1] at e
     have q:=dv scope.names [] (fun n c e=>by simp at e) x c e
     obtain ⟨v,z⟩:=I.cell x c q
     have:@LT.lt Nat _ c s.heap.objs.size:=z.lt
     exact Nat.ne_of_lt (by show @LT.lt Nat _ c D;omega)
    have I9:Inv X' [] (ow++σ) H8 { s8 with heap:=h9,toks:=s8.toks }:=I8'.turned (it:=D) (fun b o hb e=>(sb9.2 b hb).trans e) p2 (by rw [el];exact Nat.ne_of_lt (by show @LT.lt Nat _ D C;omega)) (.inr (by rw [s0];show @LE.le Nat _ s.heap.objs.size D;omega)) ltC (fun p hp=>by rw [pn0] at hp;cases hp)
    have pe9:(its++[y]).toArray=its.toArray.push y:=by simp
    refine back (nn':=0) (s8:={ s8 with heap:=h9,toks:=s8.toks }) I9 (T.keep _ _ _ p3 fun b hb o e=>(sb9.2 b ?_).trans e) p4 p2 (rv3.append (.cons r8 .nil)) (by rw [pe9];exact pl9) (hNN _ _ q8)
    have:=fplt b hb
    exact Nat.ne_of_lt (by show @LT.lt Nat _ b D;omega)
 exact codeAny_compStart_list (start _ rfl) (T.self _ _ _ _ _ st4 (start _ rfl))
theorem iE {pins:List (Addr×Obj)}{σ:St}{H:Hp}{s:Shared}{Q:VK}{RR:Value→Addr→Result→Shared→Prop}{E:Value→Shared→Prop}
  (S:cY X N own scope) (hc:X.calm=true) (hg:∀ C s H ex,PG (cxC X N scope C s H ex) tg g) (hf:∀ C s H ex,PIf (cxC X N scope C s H ex) ifs tt) (he:∀ C s H ex,PE (cxC X N scope C s H ex) elt te)
  {it:Addr} {fp:List Addr} {tn:Nat→Heap→Prop} {J:It} (I:Inv X pins σ H s) (T:Turn X.prog X.w X.K tg J fp it tn) (st:tn 0 s.heap) (f2:∀ b∈fp,fB X pins H b) (W:sC own.length J g tt te Q σ H)
  (fin:∀ D C s5 H5 ys its,@Eq Nat D s.heap.objs.size→@Eq Nat C (s.heap.objs.size+1)→Inv (cxC X N scope C s H fp) [] (List.replicate own.length none++σ) H5 s5→H5 D=none→Vals ys its→s5.heap.PlainList D its.toArray→ys.length≤sizeLine→(∀ p,H5 p=none→Q (.ref p) (upd H5 p (.lst ys)))→RR (.ref D) C (.ok .next) s5) :
  wpAny (model X.prog X.w) X.A (newList []) (fun acc s₃=>wpAny (model X.prog X.w) X.A (newFunctionEnv scope X.env.globals (a_ X.env scope.names []) [] X.env.qual none .none (some X.env)) (fun cenv s₄ =>
   codeAny (model X.prog X.w) X.A (.compStart (.ListComp elt [⟨tg,iter,ifs,0⟩] scope pos) 0 (.ref it) acc { cenv with scope:=relabel scope X.env }) (RR acc cenv.locals) s₄) E s₃) E s:=by
 refine wpAny_newObj_type (wpAny_newFunctionEnv S.nocell (by intro y hy;simp at hy) (fun h₁ hns₁ hsb₁=>?_) S.kind)
 dsimp only at hns₁ hsb₁ ⊢
 generalize hH2:s.heap.push { cls:=.type "list",dict:=none,data:=.seq ([]:List Value).toArray }=H2 at hns₁ hsb₁ ⊢
 have hC:H2.objs.size=s.heap.objs.size+1:=by rw [←hH2,Heap.size_push]
 have hDC:s.heap.objs.size≠H2.objs.size:=by rw [hC];exact Nat.ne_of_lt (Nat.lt_succ_self _)
 have below:∀ b:Addr,b<s.heap.objs.size→b≠H2.objs.size:=fun b hb=>Nat.ne_of_lt (by have hb':@LT.lt Nat _ b s.heap.objs.size:=hb;show @LT.lt Nat _ b H2.objs.size;omega)
 have old:∀ b o,s.heap.get? b=some o→h₁.get? b=some o:=fun b o e=>hsb₁.extBut b o (below b (Heap.lt_size e)) (Heap.get?_push_of_some _ (hH2 ▸ Heap.get?_push_of_some _ e))
 have hacc:h₁.PlainList s.heap.objs.size #[]:=⟨_,hsb₁.extBut _ _ hDC (Heap.get?_push_of_some _ (hH2 ▸ Heap.get?_push_size _ rfl))⟩
 exact sE (s:=s) (s4:={ s with heap:=h₁,toks:=s.toks+([]:List (Str×Value)).length }) (C:=H2.objs.size) (D:=s.heap.objs.size) S hc hg hf he I T st f2 W rfl hC rfl rfl old ⟨_,hns₁⟩ hacc
  fun s5 H5 ys its I5 n5 rv5 pl5 hl5 q5=>fin _ _ s5 H5 ys its rfl hC I5 n5 rv5 pl5 hl5 q5
theorem vd (S:cY X N own scope) (hc:X.calm=true) (hi:PI X tg iter wi) (hg:∀ C s H ex,PG (cxC X N scope C s H ex) tg g) (hf:∀ C s H ex,PIf (cxC X N scope C s H ex) ifs tt) (he:∀ C s H ex,PE (cxC X N scope C s H ex) elt te)
  (hs:∀ x,foldedSetIterable iter X.env x=pure x:=by intro _;rfl):PE X (.ListComp elt [⟨tg,iter,ifs,0⟩] scope pos) (sD own.length wi g tt te):=by
 intro pins s σ H Q I h
 rw [eval_ListComp]
 refine wpAny_comprehension_free (use:=none) (cl:=a_ X.env scope.names []) rfl hs (dh (S.cells I.ok)) S.kind S.names ?_
 refine thn (hi pins s σ H _ I h) fun v s1 h1=>thn h1 fun itv s2 h2=>?_
 obtain ⟨it,fp,tn,J,H2,e,I2,T,st2,f2,W⟩:=h2
 subst e
 refine iE (RR:=fun acc C=>compPost (model X.prog X.w) X.A X.xe none (EP X pins σ Q) acc C) S hc hg hf he I2 T st2 f2 W ?_
 intro D C s5 H5 ys its hD hC I5 n5 rv5 pl5 hl5 q5
 obtain ⟨m5,hn5,_⟩:=I5.loc
 exact ⟨m5,hn5,fun h' sb=>⟨.ref D,_,mN I2 I5 (Nat.le_of_eq hD.symm) (by show @LE.le Nat _ s2.heap.objs.size C;omega) (Nat.ne_of_lt (by show @LT.lt Nat _ D C;omega)) n5 rv5 pl5 hl5 sb f2,rfl,q5 D n5⟩⟩
theorem vf {i:Nat}{y:Str}{py spos:Pos} (S:cY X N own scope) (hc:X.calm=true) (hN:X.N.Nodup) (hiN:X.N[i]?=some y) (hy:X.env.scope.names.lookup y=some .local)
  (hi:PI X tg iter wi) (hg:∀ C s H ex,PG (cxC X N scope C s H ex) tg g) (hf:∀ C s H ex,PIf (cxC X N scope C s H ex) ifs tt) (he:∀ C s H ex,PE (cxC X N scope C s H ex) elt te)
  (hsw:swapsWith (.ListComp elt [⟨tg,iter,ifs,0⟩] scope pos) (some (.Name y py)) spos.line X.env=pure true:=by rfl)
  (hs:∀ x,foldedSetIterable iter X.env x=pure x:=by intro _;rfl):PS X (.Assign [.Name y py] (.ListComp elt [⟨tg,iter,ifs,0⟩] scope pos) spos) (xF (sD own.length wi g tt te) (pN i)):=by
 intro pins s σ H D I h
 rw [exec_Assign_Name_used _ _ _ _ hsw]
 refine wpAny_bind (wpAny_standAt (wpAny_bind ?_))
 show wpAny _ X.A (do let _ ←comprehension (.ListComp elt [⟨tg,iter,ifs,0⟩] scope pos) scope X.env _ (newList []) false (eval iter X.env) (some (assign (.Name y py) X.env))) _ _ s
 refine wpAny_bind (wpAny_mono (wpAny_comprehension_free (use:=some (assign (.Name y py) X.env)) (cl:=a_ X.env scope.names []) (Q:=fun _ s'=>SP X pins D .next s') rfl hs (dh (S.cells I.ok)) S.kind S.names ?_) (fun _ s' hq=>wpAny_pure (wpAny_pure hq)) fun _ _ e=>e)
 refine thn (hi pins s σ H _ I h) fun v s1 h1=>thn h1 fun itv s2 h2=>?_
 obtain ⟨it,fp,tn,J,H2,e,I2,T,st2,f2,W⟩:=h2
 subst e
 refine iE (RR:=fun acc C=>compPost (model X.prog X.w) X.A X.xe (some (assign (.Name y py) X.env)) (fun _ s'=>SP X pins D .next s') acc C) S hc hg hf he I2 T st2 f2 W ?_
 intro DD C s5 H5 ys its hD hC I5 n5 rv5 pl5 hl5 q5
 obtain ⟨m5,hn5,_⟩:=I5.loc
 have nC5:H5 C=none:=I5.free
 have B:Inv X pins σ (upd H5 DD (.lst ys)) { s5 with heap:=s5.heap }:=mN I2 I5 (Nat.le_of_eq hD.symm) (by show @LE.le Nat _ s2.heap.objs.size C;omega) (Nat.ne_of_lt (by show @LT.lt Nat _ DD C;omega)) n5 rv5 pl5 hl5 (Heap.SameBut.refl ..) f2
 show wpAny _ X.A (assign (.Name y py) X.env (.ref DD)) _ _ s5
 refine wpAny_assign_Name (jM (s:=s5) B hN hiN (.inl hy) (show RelV (.ref DD) (.ref DD) from rfl) (fun s6 I6 ⟨a,sb,ha⟩=>?_) (.inr hy))
 have ltC:@LT.lt Nat _ X.env.locals C:=by have:@LT.lt Nat _ X.env.locals s2.heap.objs.size:=I2.lt;omega
 have cellsC:∀ x c,X.env.cells.lookup x=some c→c≠C:=fun x c e=>by
  obtain ⟨v,z⟩:=I2.cell x c e
  have:@LT.lt Nat _ c s2.heap.objs.size:=z.lt
  exact Nat.ne_of_lt (by show @LT.lt Nat _ c C;omega)
 have hCa:C≠a:=by
  rcases ha with z|z
  ·rw [z];exact Nat.ne_of_gt ltC
  ·exact (cellsC _ _ z).symm
 refine ⟨m5,hn5.sameBut sb hCa,fun h' sb'=>?_⟩
 refine ⟨σ.set i (some (.ref DD)),upd H5 DD (.lst ys),I6.turned (it:=C) (t':=s6.toks) (fun b o hb e=>(sb'.2 b hb).trans e) ?_ (Nat.ne_of_gt ltC) (.inr (by have:@LE.le Nat _ X.s₀.heap.objs.size s2.heap.objs.size:=I2.sz;show @LE.le Nat _ X.s₀.heap.objs.size C;omega)) cellsC (fun p hp=>?_),q5 DD n5⟩
 ·rw [ai (Nat.ne_of_gt (by show @LT.lt Nat _ DD C;omega))];exact nC5
 ·have:@LT.lt Nat _ p.1 s2.heap.objs.size:=Heap.lt_size (I2.pin p hp).1
  exact Nat.ne_of_lt (by show @LT.lt Nat _ p.1 C;omega)
end
end L2
namespace L2
open PySem PySem.Spec PyProof.Rows
section
variable {X : Cx} {tg : Expr}
end
section
variable {X : Cx}
noncomputable def zK:V→Option Int→Option Int→Hp→VK→Prop:=fun x lo hi H Q=>∃ z,x=.str z∧z.length≤sizeLine∧Q (.str (PySem.StrLaws.sliceText z lo hi)) H
theorem jy (x:Str) (lo hi:Option Int) (hz:x.length≤sizeLine):(PySem.StrLaws.sliceText x lo hi).length≤sizeLine:=Nat.le_trans (Txt.slice_le x lo hi) hz
theorem yb:SlR X zK:=by
 intro pins s σ H x v vl vu lo hi sl Q I rx hs pl pu h
 obtain ⟨z,rfl,hz,q⟩:=h
 obtain ⟨t,rfl⟩:=rx
 refine ⟨"str",_,slot_str_getitem.lookup,typeIs_str _ _ _,?_⟩
 have fin:(PySem.StrLaws.sliceText z lo hi).length≤sizeLine∧∀ t' k,EP X pins σ Q (.str (PySem.StrLaws.sliceText z lo hi) t') { s with toks:=k }:=⟨jy z lo hi hz,fun t' k=>⟨.str _,H,I.tok k,⟨_,rfl⟩,q⟩⟩
 cases pl with
 |none =>
  cases pu with
  |none=>exact wpAny_getItem_str_slice (l:=none) (u:=none) (st:=none) hs rfl (post_val_or_str fin)
  |int j tj=>exact wpAny_getItem_str_slice (l:=none) (u:=some (j,tj)) (st:=none) hs rfl (post_val_or_str fin)
 |int i ti =>
  cases pu with
  |none=>exact wpAny_getItem_str_slice (l:=some (i,ti)) (u:=none) (st:=none) hs rfl (post_val_or_str fin)
  |int j tj=>exact wpAny_getItem_str_slice (l:=some (i,ti)) (u:=some (j,tj)) (st:=none) hs rfl (post_val_or_str fin)
theorem jW:∀ (l:List (Str×Tok)),Vals (l.map fun p=>V.str p.1) (strValues l)
 |[]=>.nil
 |(x,t)::r=>.cons ⟨t,rfl⟩ (jW r)
theorem fG:∀ {ys:List Str}{its:List Value},Vals (ys.map V.str) its→∃ l:List (Str×Tok),its=strValues l∧l.map (·.1)=ys
 |[],_,.nil=>⟨[],rfl,rfl⟩
 |y::ys,_,.cons r t=>by
  obtain ⟨tk,rfl⟩:=r
  obtain ⟨l,rfl,e⟩:=fG t
  exact ⟨(y,tk)::l,rfl,by rw [List.map_cons,e]⟩
theorem sF:MtR X "str.split" (fun x xs H Q=>∃ a b,x=.str a∧xs=[.str b]∧(b.length==0)=false∧a.length+2≤sizeLine ∧
  ∀ p,H p=none→Q (.ref p) (upd H p (.lst ((Txt.split a b).map V.str)))):=by
 intro pins s σ H x xs v us Q I rx rs h
 obtain ⟨x,y,rfl,rfl,hy,hz,q⟩:=h
 obtain ⟨t,rfl⟩:=rx
 obtain ⟨u0,rfl,u,rfl⟩:=vals1 rs
 have hf:H s.heap.objs.size=none:=I.hok.fresh (Nat.le_refl _)
 have q':=q _ hf
 have fin:∀ (l:List (Str×Tok)) (k:Nat),l.length≤sizeLine→l.map (·.1)=Txt.split x y→EP X pins σ Q (.ref s.heap.objs.size) { s with toks:=k,heap:=s.heap.push { cls:=.type "list",data:=.seq (strValues l).toArray } }:=fun l k hl e =>
  ⟨.ref s.heap.objs.size,_,I.laid (t':=k) (o:=.lst ((Txt.split x y).map V.str)) (fun b u e=>Heap.get?_push_of_some _ e) (Nat.le_refl _)
   ⟨by rw [←e,List.length_map,List.length_map];exact hl,strValues l,_,by rw [←e,List.map_map];exact jW l,Heap.get?_push_size _ rfl⟩,rfl,q'⟩
 have one:1≤sizeLine:=by decide
 cases h1:(decide (x.length<y.length)||decide (Builtin.Str.strKind x<Builtin.Str.strKind y))
 ·cases hf:(Builtin.Str.occurrences x y 0 x.length (x.length+1)).isEmpty
  ·have hn:(Builtin.Str.partsBetween x (Builtin.Str.occurrences x y 0 x.length (x.length+1)) y.length).length≤sizeLine:=by
    have:=PySem.StrLaws.occ_length_le x y 0 x.length (x.length+1)
    simp only [Builtin.Str.partsBetween,List.length_map,List.length_zip,List.length_cons,List.length_append]
    omega
   refine call_meets F.slot_str_split (typeIs_str _ _ _) F.entry_str_split (F.args_str_split_2 _ _) (meets_str_split_sep x y t u h1 hy hf (by omega) hn) ?_
   show wants _ _ _ { s with toks:=_,heap:=s.heap.push { cls:=.type "list",data:=.seq (strsFrom s.toks (Builtin.Str.partsBetween x (Builtin.Str.occurrences x y 0 x.length (x.length+1)) y.length)).toArray } }
   rw [strsFrom_eq]
   refine fin (numbered s.toks _) _ ?_ ((numbered_texts _ _).trans ((if_neg (ne_true_of_eq_false h1)).trans (if_neg (ne_true_of_eq_false hf))).symm)
   have e:=congrArg List.length (numbered_texts s.toks (Builtin.Str.partsBetween x (Builtin.Str.occurrences x y 0 x.length (x.length+1)) y.length))
   rw [List.length_map] at e
   omega
  ·exact call_meets F.slot_str_split (typeIs_str _ _ _) F.entry_str_split (F.args_str_split_2 _ _) (meets_str_split_not_found x y t u h1 hy hf)
    (fin [(x,t)] _ one ((if_neg (ne_true_of_eq_false h1)).trans (if_pos hf)).symm)
 ·exact call_meets F.slot_str_split (typeIs_str _ _ _) F.entry_str_split (F.args_str_split_2 _ _) (meets_str_split_cannot_occur x y t u h1)
   (fin [(x,t)] _ one (if_pos h1).symm)
theorem vg:MtR X "str.join" (fun x xs H Q=>∃ a p ys,x=.str a∧xs=[.ref p]∧SqL X.K H p (ys.map V.str)∧JoinOk a ys=true∧Q (.str (Txt.join a ys)) H):=by
 intro pins s σ H x xs v us Q I rx rs h
 obtain ⟨a,p,ys,rfl,rfl,hq,hok,q⟩:=h
 obtain ⟨t,rfl⟩:=rx
 obtain ⟨u,rfl,r⟩:=vals1 rs
 cases r
 obtain ⟨its,rv,pl,hz⟩:=I.list hq
 obtain ⟨l,rfl,e⟩:=fG rv
 exact SC.join pl.isList e hok fun t' k=>⟨.str _,H,I.tok k,⟨_,rfl⟩,q⟩
theorem gJ:∀ {bs:List Bool}{its:List Value},Vals (bs.map V.bl) its→its=bs.map Value.bool
 |[],_,.nil=>rfl
 |b::bs,_,.cons r t=>by
  cases r
  rw [gJ t];rfl
theorem sG:X.calm=true→iu X (.builtin "all") (fun xs H Q=>∃ (p:Addr) (bs:List Bool),xs=[.ref p]∧SqL X.K H p (bs.map V.bl)∧Q (.bl (bs.all id)) H):=by
 intro hc pins s σ H xs us Q I rs h
 obtain ⟨p,bs,rfl,hq,q⟩:=h
 obtain ⟨u,rfl,r⟩:=vals1 rs
 cases r
 obtain ⟨its,rv,pl,hz⟩:=I.list hq
 have e:=gJ rv
 subst e
 have hlt:p<s.heap.objs.size:=by obtain ⟨_,_,e,_⟩:=pl;exact Heap.lt_size e
 refine call_all_walk (wpAny_pyIter_list pl.isList ?_)
 refine ⟨s.heap.objs.size,[s.heap.objs.size,p],[s.heap.objs.size],(bs.map Value.bool).toArray.size,_,_,fun i=>(bs[i]?).getD true,rfl,Walks.list (A:=X.A.in1) (I.ok.hd hc) _ p (Nat.ne_of_lt hlt) (bs.map Value.bool).toArray,
  ⟨⟨_,Heap.get?_push_size _ rfl,rfl,rfl⟩,pl.isList.push _⟩,fun i v s' Q' E' hP hQ=>?_,fun h' tk hk=>?_⟩
 ·have hP':(bs.map Value.bool)[i]?=some v:=by simpa using hP
  rw [List.getElem?_map] at hP'
  cases e:bs[i]? with
  |none=>rw [e] at hP';cases hP'
  |some b =>
   rw [e] at hP'
   cases hP'
   simp only [e,Option.getD_some] at hQ
   exact wpAny_truthy_bool hQ
 ·have e:((List.range (bs.map Value.bool).toArray.size).all fun i=>(bs[i]?).getD true)=bs.all id:=by
   rw [List.size_toArray,List.length_map];exact PyProof.Rows.LSm.range_all bs
  rw [e]
  exact ⟨.bl _,H,I.kept (t':=tk) (PyProof.Rows.LSm.kept_iter hk),rfl,q⟩
end
section
variable {X : Cx}
end
end L2
namespace L2
open PySem PySem.Spec PyProof.Rows
noncomputable def yc (N own:List Str) (scope:Scope) (out:List (Str×NameKind)):Bool :=
 decide (scope.kind=.function)&&scope.names.all (fun y=>decide (y.2≠.cell))&&scope.names.all (fun y=>decide (y.2≠.local)||decide (scope.names.lookup y.1=some .local))&&decide N.Nodup&&decide (N.take own.length=own) &&
 scope.names.all (fun y=>decide (y.2≠.local)||decide (y.1∈own)||decide (y.1=".0"))&&decide ((".0":Str)∉N)&&scope.names.all (fun y=>decide (y.2≠.free)||decide (out.lookup y.1=some .cell)||decide (out.lookup y.1=some .free))&&scope.names.all (fun y=>decide (y.1≠".")&&decide (y.1≠".."))
theorem sH {X:Cx}{N own:List Str}{scope:Scope}{out:List (Str×NameKind)} (hn:X.env.scope.names=out) (ht:cX (N.drop own.length) X.N) (h:yc N own scope out=true):cY X N own scope:=by
 unfold yc at h
 simp only [Bool.and_eq_true,List.all_eq_true,Bool.or_eq_true,decide_eq_true_eq] at h
 obtain ⟨⟨⟨⟨⟨⟨⟨⟨h1,h2⟩,h3⟩,h4⟩,h5⟩,h6⟩,h7⟩,h8⟩,h9⟩:=h
 refine ⟨h1,h2,fun y hy e=>?_,h4,h5,fun y hy e=>?_,h7,ht,fun y hy e=>?_,h9⟩
 ·rcases h3 y hy with z|z
  ·exact absurd e z
  ·exact z
 ·rcases h6 y hy with (z|z)|z
  ·exact absurd e z
  ·exact .inl z
  ·exact .inr z
 ·rw [hn]
  rcases h8 y hy with (z|z)|z
  ·exact absurd e z
  ·exact .inl z
  ·exact .inr z
end L2
namespace L2
open PySem PySem.Spec PyProof.Rows
section
variable {prog : Program} {w : World}
noncomputable def aQ (prog:Program) (w:World) (h:Heap) (k:Str×List Str) (a:Addr):Prop :=
 ∃ o n t b,h.get? a=some o∧o.cls=.type "tuple"∧o.data=.seq #[.str k.1 t,.ref b] n∧IsTupleKey (PySem.strKind prog w) h k.2 b
theorem aQ.typeIs {s:Shared}{k:Str×List Str}{a:Addr} (x:aQ prog w s.heap k a):s.TypeIs (.ref a) "tuple":=let ⟨o,_,_,_,ho,hc,_⟩:=x;⟨o,ho,hc⟩
theorem aQ.inj {h:Heap}{a:Addr}{x y:Str×List Str} (hx:aQ prog w h x a) (hy:aQ prog w h y a):x=y:=by
 obtain ⟨o,n,t,b,ho,_,hd,hi⟩:=hx
 obtain ⟨o',n',t',b',ho',_,hd',hi'⟩:=hy
 obtain rfl:o=o':=Option.some.inj (ho.symm.trans ho')
 rw [hd] at hd'
 injection hd' with h1 _
 simp only [Array.mk.injEq,List.cons.injEq,Value.str.injEq,Value.ref.injEq,and_true] at h1
 obtain ⟨⟨e1,_⟩,e2⟩:=h1
 subst e2
 exact Prod.ext e1 (hi.inj hi')
theorem aQ.keeps {h h':Heap}{k:Str×List Str}{a d:Addr}{o:Obj}{es ep} (x:aQ prog w h k a) (ho:h.get? d=some o) (hd:o.data=.dict es ep) (hs:Heap.SameBut d h h'):aQ prog w h' k a:=by
 obtain ⟨o',n,t,b,ho',hc,hd',hi⟩:=x
 have hne:a≠d:=by
  rintro rfl
  obtain rfl:o'=o:=Option.some.inj (ho'.symm.trans ho)
  rw [hd] at hd';exact nomatch hd'
 exact ⟨o',n,t,b,(hs.2 a hne).trans ho',hc,hd',hi.keeps ho hd hs⟩
noncomputable def kW (prog:Program) (w:World) (k:Str×List Str):Int:=reduceHash (Builtin.Tuple.tupleHashOf [(PySem.strKind prog w).hash k.1,tupleKeyHash (PySem.strKind prog w) k.2])
variable {A : Around} {E : Value → Shared → Prop} {s : Shared}
noncomputable def sI (prog:Program) (w:World) (hh:Heap) (v:Value) (n:Int) (d:Nat):Prop :=
 ∀ {A:Around} {E:Value→Shared→Prop} {s:Shared} {Q:Int→Shared→Prop},s.heap=hh→A.units<cLine→Q n { s with toks:=s.toks+d }→wpAny (model prog w) A (pyHash v) Q E s
theorem oA {hh:Heap} (x:Str) (t:Tok):sI prog w hh (.str x t) ((PySem.strKind prog w).hash x) 1:=fun _ _ h=>(PySem.strKind prog w).pyHash (by simp [PySem.strKind,Value.isStrOf]) h
theorem kX {hh:Heap}{ks:List Str}{b:Addr} (hk:IsTupleKey (PySem.strKind prog w) hh ks b):sI prog w hh (.ref b) (tupleKeyHash (PySem.strKind prog w) ks) (ks.length+1):=fun e hu h=>by
 subst e
 exact wpAny_pyHash_tuple hu hk h
theorem gq {k:Str×List Str}{a:Addr}{Q:Int→Shared→Prop} (hu:A.units+1<cLine) (hk:aQ prog w s.heap k a) (h:Q (kW prog w k) { s with toks:=s.toks+(k.2.length+3) }) :
  wpAny (model prog w) A (pyHash (.ref a)) Q E s:=by
 have hT:=hk.typeIs
 obtain ⟨o,n,t,b,ho,_,hd,hi⟩:=hk
 unfold pyHash
 first|unfold pyHashByItsType|skip
 first|refine wpAny_bind (wpAny_cRoomFor_or (.inr (by omega)) ?_)|skip
 refine wpAny_bind (wpAny_specialOf hT PySem.F.slot_tuple_hash.lookup ?_)
 show wpAny _ _ (if (some (Value.builtin "tuple.__hash__")==some Value.none)=true then _ else _) Q E s
 rw [if_neg (by rw [beq_builtin_none];exact Bool.false_ne_true)]
 refine wpAny_bind (wpAny_specialOf hT PySem.F.slot_tuple_hash.lookup ?_)
 show wpAny _ _ (callSpecialIfBoundUnlessNone? (.ref a) "__hash__" _ >>= _) Q E s
 refine wpAny_bind (wpAny_callSpecialIfBoundUnlessNone?_slot hT PySem.F.slot_tuple_hash (wpAny_call_entry PySem.F.slot_tuple_hash hT PySem.F.entry_tuple_hash ?_ (PySem.F.args_tuple_hash_1 _)))
 show wpAny _ _ (Builtin.Tuple.tupleItemsOf (.ref a) >>= _) _ _ s
 refine wpAny_bind (wpAny_tupleItemsOf ho hd ?_)
 refine wpAny_bind ?_
 rw [←Array.forIn_toList]
 refine wpAny_forIn_list _
  (fun rest (b':Array Int) s'=>(rest=[Value.str k.1 t,Value.ref b]∧b'=#[]∧s'=s)∨(rest=[Value.ref b]∧b'.toList=[(PySem.strKind prog w).hash k.1]∧s'={ s with toks:=s.toks+1 }) ∨
   (rest=[]∧b'.toList=[(PySem.strKind prog w).hash k.1,tupleKeyHash (PySem.strKind prog w) k.2]∧s'={ s with toks:=s.toks+1+(k.2.length+1) }))
  _ ?_ ?_ _ _ (.inl ⟨rfl,rfl,rfl⟩)
 ·rintro x rest b' s' (⟨e,rfl,rfl⟩|⟨e,hb,rfl⟩|⟨e,_,_⟩)
  ·cases e
   refine wpAny_bind (oA k.1 t (hh:=s'.heap) rfl (by show A.units+1<cLine;exact hu) ?_)
   first
    |exact wpAny_pure (.inr (.inl ⟨rfl,rfl,rfl⟩))
    |exact wpAny_bind (wpAny_pure (wpAny_pure (.inr (.inl ⟨rfl,rfl,rfl⟩))))
  ·cases e
   refine wpAny_bind (kX hi rfl (by show A.units+1<cLine;exact hu) ?_)
   first
    |exact wpAny_pure (.inr (.inr ⟨rfl,by simp [hb],rfl⟩))
    |exact wpAny_bind (wpAny_pure (wpAny_pure (.inr (.inr ⟨rfl,by simp [hb],rfl⟩))))
  ·cases e
 ·rintro b' s' (⟨e,_,_⟩|⟨e,_,_⟩|⟨_,hb,rfl⟩)
  ·cases e
  ·cases e
  ·show wpAny _ _ (retInt (Builtin.Tuple.tupleHashOf b'.toList)) _ _ _
   rw [hb]
   refine wpAny_ret_mkInt ?_
   have et:s.toks+1+(k.2.length+1)+1=s.toks+(k.2.length+3):=by omega
   show wpAny _ _ (if (decide (-(2:Int) ^ 63≤Builtin.Tuple.tupleHashOf [(PySem.strKind prog w).hash k.1,tupleKeyHash (PySem.strKind prog w) k.2])&&decide (Builtin.Tuple.tupleHashOf [(PySem.strKind prog w).hash k.1,tupleKeyHash (PySem.strKind prog w) k.2]<2 ^ 63))=true then _ else _) Q E _
   unfold kW reduceHash at h
   by_cases hr:(decide (-(2:Int) ^ 63≤Builtin.Tuple.tupleHashOf [(PySem.strKind prog w).hash k.1,tupleKeyHash (PySem.strKind prog w) k.2])&&decide (Builtin.Tuple.tupleHashOf [(PySem.strKind prog w).hash k.1,tupleKeyHash (PySem.strKind prog w) k.2]<2 ^ 63))=true
   ·rw [if_pos hr]
    rw [if_pos hr] at h
    exact wpAny_pure (by rw [et];exact h)
   ·rw [if_neg hr]
    rw [if_neg hr] at h
    exact wpAny_bind (wpAny_rule (wpAny_pure (by rw [et];exact h)))
theorem mO {x y:Str×List Str}{a b:Addr}{P:Fin→Shared→Prop} (hu:A.units<cLine) (hx:aQ prog w s.heap x a) (hy:aQ prog w s.heap y b) (h:P (.done (.ret (.bool (decide (x=y))))) s) :
  wpAny (model prog w) A (Builtin.«tuple.__eq__» ⟨[.ref a,.ref b],[]⟩) P E s:=by
 have hTb:=hy.typeIs
 obtain ⟨oa,na,ta,pa,hoa,_,hda,hia⟩:=hx
 obtain ⟨ob,nb,tb,pb,hob,_,hdb,hib⟩:=hy
 show wpAny _ _ (isInstance (.ref b) (.type "tuple") >>= _) _ _ s
 refine wpAny_bind (wpAny_isInstance hTb isSubtype_tuple_tuple ?_)
 simp only [Bool.not_true,Bool.false_eq_true,if_false]
 refine wpAny_bind (wpAny_tupleItemsOf hoa hda ?_)
 refine wpAny_bind (wpAny_tupleItemsOf hob hdb ?_)
 refine wpAny_bind ?_
 refine wpAny_forIn_list _
  (fun rest r s'=>r.1=none∧s'=s∧((rest=[(Value.str x.1 ta,Value.str y.1 tb),(Value.ref pa,Value.ref pb)])∨(rest=[(Value.ref pa,Value.ref pb)]∧x.1=y.1)∨(rest=[]∧x=y)))
  _ ?_ ?_ _ _ ⟨rfl,rfl,.inl rfl⟩
 ·rintro ⟨u,v⟩ rest r s' ⟨hr,rfl,(e|⟨e,e1⟩|⟨e,_⟩)⟩
  ·cases e
   refine wpAny_bind ((PySem.strKind prog w).eqBool (a:=x.1) (b:=y.1) (by simp [PySem.strKind,Value.isStrOf]) (by simp [PySem.strKind,Value.isStrOf]) ?_)
   by_cases hk:x.1=y.1
   ·rw [decide_eq_true hk]
    simp only [Bool.not_true,Bool.false_eq_true,if_false]
    exact wpAny_pure ⟨rfl,rfl,.inr (.inl ⟨by first|rfl|trivial,hk⟩)⟩
   ·rw [decide_eq_false hk]
    simp only [Bool.not_false,if_true]
    rw [decide_eq_false (fun z=>hk (by rw [z]))] at h
    exact wpAny_bind (wpAny_pure (wpAny_pure (wpAny_pure h)))
  ·cases e
   refine wpAny_bind (wpAny_eqBool_tuple hu hia hib ?_)
   by_cases hk:x.2=y.2
   ·rw [decide_eq_true hk]
    simp only [Bool.not_true,Bool.false_eq_true,if_false]
    exact wpAny_pure ⟨rfl,rfl,.inr (.inr ⟨by first|rfl|trivial,Prod.ext e1 hk⟩)⟩
   ·rw [decide_eq_false hk]
    simp only [Bool.not_false,if_true]
    rw [decide_eq_false (fun z=>hk (by rw [z]))] at h
    exact wpAny_bind (wpAny_pure (wpAny_pure (wpAny_pure h)))
  ·cases e
 ·rintro ⟨r1,r2⟩ s' ⟨hr,rfl,(e|⟨e,_⟩|⟨_,rfl⟩)⟩
  ·cases e
  ·cases e
  ·simp only at hr
   subst hr
   refine wpAny_pure ?_
   rw [decide_eq_true rfl] at h
   exact h
theorem gs {x y:Str×List Str}{a b:Addr}{Q:Bool→Shared→Prop} (hu:A.units+2<cLine) (hx:aQ prog w s.heap x a) (hy:aQ prog w s.heap y b) (h:Q (decide (x=y)) s) :
  wpAny (model prog w) A (eqBool (.ref a) (.ref b)) Q E s:=by
 unfold eqBool
 try with_reducible refine wpAny_holding ?_
 show wpAny _ _ (if (Value.ref a==Value.ref b)=true then _ else _) Q E s
 by_cases hab:(Value.ref a==Value.ref b)=true
 ·rw [if_pos hab]
  have e:a=b:=by have:=eq_of_beq hab;injection this
  subst e
  obtain rfl:=hx.inj hy
  exact wpAny_bind (wpAny_rule (wpAny_pure (by simpa using h)))
 ·rw [if_neg hab]
  exact wpAny_bind (wpAny_richCompare_same_room (op:=.Eq) hx.typeIs hy.typeIs PySem.F.slot_tuple_eq
   (wpAny_call_entry PySem.F.slot_tuple_eq hx.typeIs PySem.F.entry_tuple_eq (mO (by first|(show A.units+1<cLine;omega)|(show A.units<cLine;omega)|(show A.units+1+1<cLine;omega)) hx hy ⟨_,rfl,(fun e=>nomatch e),wpAny_truthy_bool h⟩) (PySem.F.args_tuple_eq_2 _ _)) (by omega))
theorem fH {ks:List Str}{a:Addr}{n:Nat}{Q:Bool→Shared→Prop} (hk:IsTupleKey (PySem.strKind prog w) s.heap ks a) (h:Q true s):wpAny (model prog w) A (eqIsQuiet (n+1) (.ref a)) Q E s:=by
 have hT:=hk.typeIs
 obtain ⟨o,items,n',ho,_,hd,hi⟩:=hk
 unfold eqIsQuiet
 refine wpAny_bind (wpAny_specialOf hT PySem.F.slot_tuple_eq.lookup ?_)
 show wpAny _ _ (isInstance (.ref a) (.type "tuple") >>= _) _ _ s
 refine wpAny_bind (wpAny_isInstance hT isSubtype_tuple_tuple ?_)
 simp only [Bool.not_true,Bool.false_eq_true,if_false]
 refine wpAny_bind (wpAny_seqItems ho hd ?_)
 refine wpAny_bind ?_
 show wpAny _ _ (forIn items _ _) _ _ s
 rw [←Array.forIn_toList]
 refine wpAny_forIn_list _ (fun rest r s'=>r.1=none∧s'=s∧∀ v∈rest,carriedByValue v=true) _ ?_ ?_ _ _ ⟨rfl,rfl,hi.byValue⟩
 ·rintro v rest r s' ⟨hr,rfl,hall⟩
  rw [eqIsQuiet_byValue _ (hall v List.mem_cons_self)]
  refine wpAny_bind (wpAny_pure ?_)
  simp only [Bool.not_true,Bool.false_eq_true,if_false]
  exact wpAny_pure ⟨rfl,rfl,fun u hu'=>hall u (List.mem_cons_of_mem _ hu')⟩
 ·rintro ⟨r1,r2⟩ s' ⟨hr,rfl,_⟩
  simp only at hr
  subst hr
  exact wpAny_pure h
theorem gX {k:Str×List Str}{a:Addr}{Q:Bool→Shared→Prop} (hk:aQ prog w s.heap k a) (h:Q true s):wpAny (model prog w) A (eqIsQuiet 8 (.ref a)) Q E s:=by
 have hT:=hk.typeIs
 obtain ⟨o,n,t,b,ho,_,hd,hi⟩:=hk
 unfold eqIsQuiet
 refine wpAny_bind (wpAny_specialOf hT PySem.F.slot_tuple_eq.lookup ?_)
 show wpAny _ _ (isInstance (.ref a) (.type "tuple") >>= _) _ _ s
 refine wpAny_bind (wpAny_isInstance hT isSubtype_tuple_tuple ?_)
 simp only [Bool.not_true,Bool.false_eq_true,if_false]
 refine wpAny_bind (wpAny_seqItems ho hd ?_)
 refine wpAny_bind ?_
 rw [←Array.forIn_toList]
 refine wpAny_forIn_list _ (fun rest r s'=>r.1=none∧s'=s∧(rest=[Value.str k.1 t,Value.ref b]∨rest=[Value.ref b]∨rest=[])) _ ?_ ?_ _ _ ⟨rfl,rfl,.inl rfl⟩
 ·rintro v rest r s' ⟨hr,rfl,(e|e|e)⟩
  ·cases e
   rw [eqIsQuiet_byValue _ rfl]
   refine wpAny_bind (wpAny_pure ?_)
   simp only [Bool.not_true,Bool.false_eq_true,if_false]
   exact wpAny_pure ⟨rfl,rfl,.inr (.inl (by first|rfl|trivial))⟩
  ·cases e
   refine wpAny_bind (fH hi ?_)
   simp only [Bool.not_true,Bool.false_eq_true,if_false]
   exact wpAny_pure ⟨rfl,rfl,.inr (.inr (by first|rfl|trivial))⟩
  ·cases e
 ·rintro ⟨r1,r2⟩ s' ⟨hr,rfl,_⟩
  simp only at hr
  subst hr
  exact wpAny_pure h
end
noncomputable def fI (prog:Program) (w:World):HeapKind prog w (Str×List Str) where
 is:=aQ prog w
 hash:=kW prog w
 draws:=fun k=>k.2.length+3
 room:=fun A=>A.units+2<cLine
 inj:=fun hx hy=>hx.inj hy
 keeps:=fun x ho hd hs=>x.keeps ho hd hs
 pyHash:=fun hu hk h=>gq (by omega) hk h
 eqBool:=fun hu hx hy h=>gs hu hx hy h
 quiet:=fun hk h=>gX hk h
end L2
namespace L2
open PySem PySem.Spec PyProof.Rows
noncomputable abbrev dw:=Str×List Str
noncomputable def dZ (K:PySem.W.Frag) (H:Hp) (v:V) (k:dw):Prop:=∃ a b,v=.ref a∧SqT K H a [.str k.1,.ref b]∧SqT K H b (k.2.map V.str)
noncomputable def gK (P:Program) (w:World) (d:Addr) (xs:List (dw×Addr×Value)):HO:=.ext fun h=>(d==sysModules)=false∧∃ o es ep,h.get? d=some o∧o.ExactDict∧o.data=.dict es ep∧es.toList=xs.map (entryOfKey (fI P w))∧(xs.map (·.1)).Nodup
noncomputable def dO (P:Program) (w:World) (K:PySem.W.Frag) (H:Hp) (d:Addr) (ks:List dw):Prop:=∃ xs,H d=some (gK P w d xs)∧xs.map (·.1)=ks∧∀ x∈xs,dZ K H (.ref x.2.1) x.1
theorem iF {P:Program}{w:World}:∀ {ks:List Str}{its:List Value},Vals (ks.map V.str) its→ItemsAre (PySem.strKind P w) ks its
 |[],_,.nil=>.nil
 |k::ks,_,.cons r t=>by
  obtain ⟨tk,rfl⟩:=r
  exact .cons (by simp [PySem.strKind,Value.isStrOf]) (iF t)
theorem vh {X:Cx}{pins:List (Addr×Obj)}{σ:St}{H:Hp}{s:Shared}{b:Addr}{ks:List Str} (I:Inv X pins σ H s) (e:SqT X.K H b (ks.map V.str)):IsTupleKey (PySem.strKind X.prog X.w) s.heap ks b:=by
 obtain ⟨its,r,⟨o,h1,h2,n,h3⟩,_⟩:=I.tuple e
 exact ⟨o,its.toArray,n,h1,h2,h3,by simpa using iF r⟩
theorem hW {X:Cx}{pins:List (Addr×Obj)}{σ:St}{H:Hp}{s:Shared}{a:Addr}{k:dw} (I:Inv X pins σ H s) (e:dZ X.K H (.ref a) k):aQ X.prog X.w s.heap k a:=by
 obtain ⟨a',b,q,e1,e2⟩:=e
 cases q
 obtain ⟨its,r,⟨o,h1,h2,n,h3⟩,_⟩:=I.tuple e1
 cases r with
 |cons r1 r2 =>
  cases r2 with
  |cons r2 r3 =>
   cases r3
   obtain ⟨t,rfl⟩:=r1
   cases r2
   exact ⟨o,n,t,b,h1,h2,h3,vh I e2⟩
section
variable {X : Cx} {pins : List (Addr × Obj)} {σ : St} {H : Hp} {s : Shared} {pos : Pos}
theorem Inv.A9 (I:Inv X pins σ H s):sysModules<s.heap.objs.size:=by
 obtain ⟨o,es,ep,ho,_⟩:=I.mod.glob
 have h1:@LT.lt Nat _ mainGlobals s.heap.objs.size:=Heap.lt_size (I.bk _ _ ho)
 obtain ⟨mb,⟨o',es',ep',ho',_⟩,_⟩:=I.mod.blt
 have h2:@LT.lt Nat _ builtinsNs s.heap.objs.size:=Heap.lt_size (I.bk _ _ ho')
 revert h1 h2
 show @LT.lt Nat _ mainGlobals s.heap.objs.size→@LT.lt Nat _ builtinsNs s.heap.objs.size→@LT.lt Nat _ sysModules s.heap.objs.size
 unfold mainGlobals builtinsNs sysModules
 omega
theorem iG (I:Inv X pins σ H s) {d:Addr}{xs:List (dw×Addr×Value)} (h:H d=some (gK X.prog X.w d xs)) (hk:∀ x∈xs,dZ X.K H (.ref x.2.1) x.1):(d==sysModules)=false∧s.heap.DictOfH (fI X.prog X.w) d xs:=by
 obtain ⟨⟨h1,o,es,ep,h2,h3,h4,h5,h6⟩,_⟩:=I.hok d _ h
 exact ⟨h1,o,es,ep,h2,h3,h4,h5,fun x hx=>hW I (hk x hx),h6⟩
theorem wV {P:Program}{w:World}{H':Hp}{h:Heap}{d:Addr}{xs:List (dw×Addr×Value)} (hd:(d==sysModules)=false) (x:h.DictOfH (fI P w) d xs):bG P w H' h d (gK P w d xs):=by
 obtain ⟨o,es,ep,h2,h3,h4,h5,_,h6⟩:=x
 exact ⟨⟨hd,o,es,ep,h2,h3,h4,h5,h6⟩,⟨o,h2⟩,fun h1 h2 ⟨q0,o,es,ep,q1,q2,q3,q4,q5⟩ k=>⟨q0,o,es,ep,k _ q1,q2,q3,q4,q5⟩⟩
theorem vi:PE X (.Dict [] [] pos) (fun _ H Q=>∀ p,H p=none→Q (.ref p) (upd H p (gK X.prog X.w p []))):=fun pins s σ H Q I h =>
 wpAny_Dict_empty ⟨.ref s.heap.objs.size,_,I.laid (a:=s.heap.objs.size) (o:=gK X.prog X.w s.heap.objs.size []) (t':=s.toks) (fun _ _ q=>Heap.get?_push_of_some _ q) (Nat.le_refl _)
  (wV (beq_eq_false_iff_ne.mpr (Ne.symm (Nat.ne_of_lt I.A9))) (Heap.DictOfH.new s.heap)),rfl,h _ (I.hok.fresh (Nat.le_refl _))⟩
theorem fc {xs:List (dw×Addr×Value)} (k:dw):(atKey xs k).isSome=decide (k∈xs.map (·.1)):=by
 unfold atKey
 rw [Option.isSome_map,Bool.eq_iff_iff,List.find?_isSome,decide_eq_true_eq,List.mem_map]
 constructor
 ·rintro ⟨x,hx,e⟩
  exact ⟨x,hx,of_decide_eq_true e⟩
 ·rintro ⟨x,hx,e⟩
  exact ⟨x,hx,decide_eq_true e⟩
theorem qT (hu:X.A.units+3<cLine):OpR X (compareOp .NotIn) (fun x y H Q=>∃ k d ks,dZ X.K H x k∧y=.ref d∧dO X.prog X.w X.K H d ks∧Q (.bl (!decide (k∈ks))) H):=by
 intro pins s σ H x y v u Q I rx ry h
 obtain ⟨k,d,ks,hx,rfl,⟨xs,hd,hks,hall⟩,q⟩:=h
 cases ry
 obtain ⟨a,b,rfl,e1,e2⟩:=id hx
 cases rx
 obtain ⟨h1,h2⟩:=iG I hd hall
 refine wpAny_notIn_heap (knd:=fI X.prog X.w) (k:=k) (by show X.A.units+1+2<cLine;omega) (hW I hx) h1 h2 ?_
 rw [fc,hks]
 exact ⟨.bl _,H,I.tok _,rfl,q⟩
theorem vj (hu:X.A.units+3<cLine):ip X (fun o i v H Q=>∃ d k ks,o=.ref d∧dZ X.K H i k∧dO X.prog X.w X.K H d ks∧k∉ks∧ks.length≤1000∧∀ H',dO X.prog X.w X.K H' d (ks++[k])→(∀ b,b≠d→H' b=H b)→Q H'):=by
 intro pins s σ H o i v ov iv u Q I ro ri rv h
 obtain ⟨d,k,ks,rfl,hi,⟨xs,hd,hks,hall⟩,hn,hl,q⟩:=h
 cases ro
 obtain ⟨a,b,rfl,e1,e2⟩:=id hi
 cases ri
 obtain ⟨h1,h2⟩:=iG I hd hall
 have hxl:xs.length≤sizeLine:=by
  have:=congrArg List.length hks
  rw [List.length_map] at this
  rw [this];exact Nat.le_of_lt (qO hl)
 refine wpAny_setItem_heap (hsz:=hxl) (knd:=fI X.prog X.w) (k:=k) (by show X.A.units+1+2<cLine;omega) (hW I hi) h2 fun h' h2' sb=>?_
 have hno:atKey xs k=none:=by
  have:=fc (xs:=xs) k
  rw [hks,decide_eq_false hn] at this
  cases e:atKey xs k with
  |none=>rfl
  |some _=>rw [e] at this;cases this
 rw [storedH_new hno] at h2'
 obtain ⟨o',es',ep',g1,_⟩:=id h2'
 refine ⟨upd H d (gK X.prog X.w d (xs++[(k,a,u)])),I.write (x:=d) (e:=d) (by rw [hd];exact True.intro) (.inl rfl) (fun b q hb z=>(sb.2 b hb).trans z) ⟨o',g1⟩ (wV h1 h2'),q _ ⟨_,aq,by rw [List.map_append,hks];rfl,fun x hx=>?_⟩ fun b hb=>ai hb⟩
 have kT:∀ {a':Addr} {ys:List V},SqT X.K H a' ys→SqT X.K (upd H d (gK X.prog X.w d (xs++[(k,a,u)]))) a' ys:=fun {a' ys} z=>by
  rcases z with (z|⟨o,z⟩)|z
  ·exact .inl (.inl (by rw [ai (rP z hd (fun z=>nomatch z))];exact z))
  ·exact .inl (.inr ⟨o,by rw [ai (rP z hd (fun z=>nomatch z))];exact z⟩)
  ·exact .inr z
 have keep:∀ {y:V} {k':dw},dZ X.K H y k'→dZ X.K (upd H d (gK X.prog X.w d (xs++[(k,a,u)]))) y k':=fun {y k'} ⟨a',b',z1,z2,z3⟩=>⟨a',b',z1,kT z2,kT z3⟩
 rcases List.mem_append.mp hx with m|m
 ·exact keep (hall x m)
 ·have:x=(k,a,u):=by simpa using m
  subst this
  exact keep hi
end
end L2
namespace L2
open PySem PySem.Spec PyProof.Rows
noncomputable def leS (a b:Str):Bool:=!decide (b.cps.toList<a.cps.toList)
theorem hZ (a b:Str):leS a b=true↔a.cps.toList≤b.cps.toList:=by
 simp only [leS,Bool.not_eq_true',decide_eq_false_iff_not]
 exact List.not_lt
theorem jX (a b c:Str) (h1:leS a b=true) (h2:leS b c=true):leS a c=true:=by
 rw [hZ] at h1 h2 ⊢
 exact List.le_trans h1 h2
theorem qU (a b:Str):(leS a b||leS b a)=true:=by
 rw [Bool.or_eq_true,hZ,hZ]
 exact List.le_total _ _
theorem sJ {x y:Str} (h:x.cps.toList=y.cps.toList):x=y:=by
 cases x;cases y
 congr
 exact Array.toList_inj.mp h
theorem kY {a b:Str} (h1:leS a b=true) (h2:leS b a=true):a=b:=by
 rw [hZ] at h1 h2
 exact sJ (List.le_antisymm h1 h2)
noncomputable def aO (l:List Str):List Str:=l.mergeSort leS
theorem cc (l:List Str):(aO l).Perm l:=List.mergeSort_perm l leS
theorem iH (l:List Str):(aO l).Pairwise (fun a b=>leS a b=true):=List.pairwise_mergeSort jX qU l
theorem fJ:∀ (l:List Str) (p:Str),risingS p l=true→(p::l).Pairwise (fun a b=>leS a b=true)
 |[],p,_=>by simp
 |x::r,p,h=>by
  have h':(!ltCps x.cps.toList p.cps.toList&&risingS x r)=true:=h
  obtain ⟨h1,h2⟩:=Bool.and_eq_true_iff.mp h'
  have ih:=fJ r x h2
  have hpx:leS p x=true:=by rw [ltCps_eq] at h1;exact h1
  refine List.pairwise_cons.mpr ⟨fun y hy=>?_,ih⟩
  rcases List.mem_cons.mp hy with e|e
  ·rw [e];exact hpx
  ·exact jX _ _ _ hpx ((List.pairwise_cons.mp ih).1 y e)
theorem kZ {l:List Str} (h:sortedS l=true):l.Pairwise (fun a b=>leS a b=true):=by
 cases l with
 |nil=>exact .nil
 |cons x r=>exact fJ r x h
theorem gu:∀ {l m:List Str},l.Perm m→l.Pairwise (fun a b=>leS a b=true)→m.Pairwise (fun a b=>leS a b=true)→l=m
 |[],m,hp,_,_=>(List.Perm.nil_eq hp)
 |x::l,m,hp,h1,h2=>by
  cases m with
  |nil=>exact absurd hp.length_eq (by simp)
  |cons y m =>
   obtain ⟨a1,a2⟩:=List.pairwise_cons.mp h1
   obtain ⟨b1,b2⟩:=List.pairwise_cons.mp h2
   have hxy:x=y:=by
    have m1:x∈y::m:=hp.mem_iff.mp List.mem_cons_self
    have m2:y∈x::l:=hp.mem_iff.mpr List.mem_cons_self
    rcases List.mem_cons.mp m1 with e|e
    ·exact e
    ·rcases List.mem_cons.mp m2 with e'|e'
     ·exact e'.symm
     ·exact kY (a1 y e') (b1 x e)
   subst hxy
   rw [gu (List.Perm.cons_inv hp) a2 b2]
theorem sM {l m:List Str} (hp:l.Perm m) (hs:sortedS l=true):l=aO m:=gu (hp.trans (cc m).symm) (kZ hs) (iH m)
theorem gL {l m:List Str} (hp:l.Perm m):aO l=aO m:=gu ((cc l).trans (hp.trans (cc m).symm)) (iH l) (iH m)
theorem fK (l:List Str):(aO l).length=l.length:=(cc l).length_eq
section
variable {prog : Program} {w : World} {A : Around} {E : Value → Shared → Prop} {s : Shared}
theorem cJ:∀ {ys:List Str}{its:List Value},Vals (ys.map V.str) its→StrsAre its ys
 |[],_,.nil=>.nil
 |y::ys,_,.cons r t=>by
  obtain ⟨tk,rfl⟩:=r
  exact .cons y tk (cJ t)
theorem dy:∀ {its:List Value}{ys:List Str},StrsAre its ys→Vals (ys.map V.str) its
 |_,_,.nil=>.nil
 |_,_,.cons x t h=>.cons ⟨t,rfl⟩ (dy h)
theorem fe {x : Value} {Q : Value → Shared → Prop} (hc : wpAny (model prog w) A.in1 (collect x) (fun vs s1 => ∃ ss, StrsAre vs ss ∧ vs.length < 64 ∧
      ∀ (h' : Heap) (vs' : List Value) (e : Nat), (∀ b o, s1.heap.get? b = some o → h'.get? b = some o) → h'.get? s1.heap.objs.size = some (seqObj "list" vs'.toArray e) → StrsAre vs' (aO ss) → Q (.ref s1.heap.objs.size) { s1 with heap := h' }) E s) :
    wpAny (model prog w) A (call (.builtin "sorted") [x]) Q E s := by
  refine Calls.call_function_entry kind_sorted plain_sorted entry_sorted (args_sorted1 _) ?_
  unfold Builtin.«sorted»
  refine wpAny_bind (m := checkCount "sorted" 1 1 _) (wpAny_pure ?_)
  refine wpAny_bind (wpAny_mono hc (fun vs s1 h1 => ?_) fun _ _ e => e)
  obtain ⟨ss, hS, h64, h⟩ := h1
  refine wpAny_bind (wpAny_newList ?_ (by have : (64 : Nat) ≤ sizeLine := by decide
                                          omega))
  have hoL : (s1.heap.push (seqObj "list" vs.toArray 0)).get? s1.heap.objs.size = some (seqObj "list" vs.toArray 0) := Heap.get?_push_size _ rfl
  show wpAny _ _ _ _ _ { s1 with heap := s1.heap.push (seqObj "list" vs.toArray 0) }
  refine wpAny_bind (wpAny_holding (wpAny_call_entry slot_list_sort ⟨_, hoL, rfl⟩ entry_list_sort (list_sort_treeK strKind_oneLt hoL hS.keysOf (fun v₁ v₂ rest e => keyKind_strs (by rw [← e]; exact hS)) h64 fun st' a1 a2 => ⟨_, rfl, ?_⟩) (args_list_sort _)))
  obtain ⟨ss', b1, b2, b3⟩ := sorted_out_str hS a1 a2
  obtain ⟨e, he⟩ := sortedHeap_at (out := (arrOf st').map (·.2)) hoL
  rw [sM b2 b3] at b1
  refine wpAny_pure ⟨_, rfl, h _ ((arrOf st').map (·.2)).toList e (fun b o q => ?_) (by rw [Array.toArray_toList]; exact he) b1⟩
  have hlt : b < s1.heap.objs.size := Heap.lt_size q
  show (sortedHeap (s1.heap.push (seqObj "list" vs.toArray 0)) s1.heap.objs.size vs ((arrOf st').map (·.2))).get? b = some o
  rw [sortedHeap_old (Nat.ne_of_lt hlt) (by rw [size_push']; exact Nat.lt_succ_of_lt hlt)]
  exact Heap.get?_push_of_some _ q
theorem jz {l:Addr}{vs:List Value}{Q:List Value→Shared→Prop} (hl:IsTup s.heap l vs.toArray)
  (h:Q vs { s with heap:=(s.heap.push (seqObj "list" #[] 0)).update s.heap.objs.size (Obj.mapSeq (·++vs.toArray)) }) (hsz:vs.length≤sizeLine) :
  wpAny (model prog w) A (collect (.ref l)) Q E s:=by
 obtain ⟨o,ho,hc,n,hd⟩:=id hl
 unfold collect
 refine wpAny_bind (wpAny_runValue (codeAny_builtin entry_proto_collect' ?_))
 show wpAny _ _ (do again (.builtin "list.__iadd__" ⟨[←newList [],.ref l],[]⟩)) _ _ s
 refine wpAny_bind (wpAny_newList (wpAny_pure ⟨Code.quiet_builtin _ (by decide +kernel),codeAny_builtin entry_list_iadd' ?_⟩))
 show wpAny _ _ (Builtin.List.listExtendWith (.ref s.heap.objs.size) (.ref l) (.ref s.heap.objs.size)) _ _ { s with heap:=s.heap.push (seqObj "list" #[] 0) }
 unfold Builtin.List.listExtendWith
 have ho':(s.heap.push (seqObj "list" #[] 0)).get? l=some o:=Heap.get?_push_of_some _ ho
 refine wpAny_bind (wpAny_typeOf (T:="tuple") ⟨o,ho',hc⟩ ?_)
 have ht:(Value.type "tuple"==Value.type "tuple")=true:=by rfl
 rw [if_pos (by rw [ht];simp)]
 refine wpAny_bind (listItems_at ho' hd ?_)
 refine wpAny_bind (listItems_at (xs:=#[]) (n:=0) (Heap.get?_push_size _ rfl) rfl ?_)
 rw [if_neg (by simp)]
 refine wpAny_bind (listUpdate_at (xs:=#[]) (n:=0) (Heap.get?_push_size _ rfl) rfl ?_ (Nat.zero_le _) (by show (#[]++vs.toArray).size≤sizeLine+1;simp only [Array.size_append,List.size_toArray,List.length_nil];omega))
 refine wpAny_pure ?_
 show wpAny (model prog w) A (do
   let o ←load s.heap.objs.size
   match o.data with
   |.seq xs _=>pure xs.toList
   |_=>unsupported "internal:collect") Q E { s with heap:=(s.heap.push (seqObj "list" #[] 0)).update s.heap.objs.size (Obj.mapSeq (·++vs.toArray)) }
 refine wpAny_bind (wpAny_load (get?_update_seq (Heap.get?_push_size _ rfl) _) ?_)
 show wpAny _ _ (pure ((#[]:Array Value)++vs.toArray).toList) Q E _
 rw [show ((#[]:Array Value)++vs.toArray).toList=vs by simp]
 exact wpAny_pure h
end
section
variable {X : Cx}
theorem jA {h:Heap}{vs:List Value}{b:Addr}{o:Obj} (e:h.get? b=some o):((h.push (seqObj "list" #[] 0)).update h.objs.size (Obj.mapSeq (·++vs.toArray))).get? b=some o:=by
 rw [Heap.get?_update_ne _ _ _ _ (Nat.ne_of_lt (Heap.lt_size e))]
 exact Heap.get?_push_of_some _ e
theorem mP {pins:List (Addr×Obj)}{σ:St}{H:Hp}{s s1:Shared}{Q:VK}{ss:List Str}{h':Heap}{vs':List Value}{e:Nat} (I:Inv X pins σ H s) (k1:∀ b o,s.heap.get? b=some o→s1.heap.get? b=some o) (hs1:∃ h1 t1,s1={ s with heap:=h1,toks:=t1 })
  (hk:∀ b o,s1.heap.get? b=some o→h'.get? b=some o) (hat:h'.get? s1.heap.objs.size=some (seqObj "list" vs'.toArray e)) (hS:StrsAre vs' (aO ss)) (hsz:s.heap.objs.size≤s1.heap.objs.size) (hl:ss.length≤sizeLine)
  (q:∀ p,H p=none→Q (.ref p) (upd H p (.lst ((aO ss).map V.str)))):EP X pins σ Q (.ref s1.heap.objs.size) { s1 with heap:=h' }:=by
 obtain ⟨h1,t1,rfl⟩:=hs1
 have I1:Inv X pins σ H { s with heap:=h1,toks:=t1 }:=I.kept (t':=t1) k1
 refine ⟨.ref h1.objs.size,_,I1.laid (t':=t1) (o:=.lst ((aO ss).map V.str)) hk (Nat.le_refl _) ⟨by rw [List.length_map,fK];exact hl,vs',e,dy hS,hat⟩,rfl,q _ (I1.hok.fresh (Nat.le_refl _))⟩
theorem gM:iu X (.builtin "sorted") (fun xs H Q=>∃ (p:Addr) (ys:List Str),xs=[.ref p]∧(SqL X.K H p (ys.map V.str)∨SqT X.K H p (ys.map V.str))∧ys.length<64∧∀ q,H q=none→Q (.ref q) (upd H q (.lst ((aO ys).map V.str)))):=by
 intro pins s σ H xs us Q I rs h
 obtain ⟨p,ys,rfl,hq,h64,q⟩:=h
 obtain ⟨u,rfl,r⟩:=vals1 rs
 cases r
 have hl:ys.length≤sizeLine:=Nat.le_of_lt (Nat.lt_of_lt_of_le h64 (by decide))
 have fin:∀ (its:List Value),Vals (ys.map V.str) its→∀ (h':Heap) (vs':List Value) (e:Nat),(∀ b o,((s.heap.push (seqObj "list" #[] 0)).update s.heap.objs.size (Obj.mapSeq (·++its.toArray))).get? b=some o→h'.get? b=some o) →
   h'.get? ((s.heap.push (seqObj "list" #[] 0)).update s.heap.objs.size (Obj.mapSeq (·++its.toArray))).objs.size=some (seqObj "list" vs'.toArray e)→StrsAre vs' (aO ys) →
   EP X pins σ Q (.ref ((s.heap.push (seqObj "list" #[] 0)).update s.heap.objs.size (Obj.mapSeq (·++its.toArray))).objs.size) { s with heap:=h' }:=fun its rv h' vs' e hk hat hS =>
  mP (s1:={ s with heap:=(s.heap.push (seqObj "list" #[] 0)).update s.heap.objs.size (Obj.mapSeq (·++its.toArray)) }) I (fun b o z=>jA z) ⟨_,s.toks,rfl⟩ hk hat hS (by show s.heap.objs.size≤((s.heap.push (seqObj "list" #[] 0)).update s.heap.objs.size (Obj.mapSeq (·++its.toArray))).objs.size;rw [Heap.size_update,size_push'];exact Nat.le_succ _) hl q
 rcases hq with hq|hq
 ·obtain ⟨its,rv,pl,hz⟩:=I.list hq
  have el:its.length=ys.length:=by rw [←rv.length,List.length_map]
  exact fe (collect_list pl.isList ⟨ys,cJ rv,by omega,fun h' vs' e hk hat hS=>fin its rv h' vs' e hk hat hS⟩ (by omega))
 ·obtain ⟨its,rv,pl,hz⟩:=I.tuple hq
  have el:its.length=ys.length:=by rw [←rv.length,List.length_map]
  exact fe (jz pl ⟨ys,cJ rv,by omega,fun h' vs' e hk hat hS=>fin its rv h' vs' e hk hat hS⟩ (by omega))
end
end L2
namespace L2
open PySem PySem.Spec PyProof.Rows
noncomputable abbrev sK (P:Program) (w:World):=PySem.strKind P w
noncomputable def dz (P:Program) (w:World) (h:Heap) (a:Addr) (led:Bool) (D:List Str):Prop :=
 ∃ (L:List (Str×Tok)) (es:Array (Int×Value)) (ep:Nat) (t:SetTable),h.get? a=some { cls:=.type "set",dict:=none,data:=.set es ep t }∧es.toList=L.map (fun p=>((sK P w).hash p.1,Value.str p.1 p.2)) ∧
  (L.map (·.1)).Perm D∧D.Nodup∧t.fits es.size=true∧es.size<scanBound∧t.led=led∧(es.size=0∨t.plain=false)
section
variable {prog : Program} {w : World} {A : Around} {E : Value → Shared → Prop} {s : Shared}
theorem sN {L:List (Str×Tok)}:ElemsOf (sK prog w) (L.map fun p=>((sK prog w).hash p.1,Value.str p.1 p.2)):=by
 intro e he
 obtain ⟨p,_,rfl⟩:=List.mem_map.mp he
 exact ⟨⟨p.1,by simp [PySem.strKind,Value.isStrOf],rfl⟩,rfl⟩
theorem pV (x y:Str) (t:Tok):(sK prog w).is x (.str y t)=decide (x=y):=by
 rw [Bool.eq_iff_iff]
 simp [PySem.strKind,Value.isStrOf]
 exact ⟨fun h=>h.symm,fun h=>h.symm⟩
theorem oB (t:SetTable) (es:Array (Int×Value)) (h:Int) (x:Value):(layNew t es h x).2.1.led=t.led:=by
 unfold layNew
 split
 ·show (SetTable.orStandIn (t.put _).1 _).led=t.led
  unfold SetTable.orStandIn
  split <;> rfl
 ·rfl
theorem k_ (t:SetTable) (es:Array (Int×Value)) (n:Nat):(relayAll t es n).2.1.led=t.led:=by
 unfold relayAll
 split
 ·rename_i t' order he
  have:t'.led=t.led:=by
   unfold SetTable.relaid SetTable.laid at he
   cases hc:SetTable.layClean (SetTable.sizeAbove n - 1) (es.map (·.1)) with
   |none=>rw [hc] at he;cases he
   |some o=>rw [hc] at he;cases he;rfl
  dsimp only
  split
  ·exact this
  ·rfl
 ·rfl
theorem iI (t:SetTable) (es:Array (Int×Value)) (n:Nat) (h:t.plain=false):(relayAll t es n).2.1.plain=false:=by
 unfold relayAll
 split
 ·rename_i t' order he
  have:t'.plain=t.plain:=by
   unfold SetTable.relaid SetTable.laid at he
   cases hc:SetTable.layClean (SetTable.sizeAbove n - 1) (es.map (·.1)) with
   |none=>rw [hc] at he;cases he
   |some o=>rw [hc] at he;cases he;rfl
  dsimp only
  split
  ·rw [this];exact h
  ·rfl
 ·rfl
theorem ff {L:List (Str×Tok)}{l:List (Int×Value)} (h:l.Perm (L.map fun p=>((sK prog w).hash p.1,Value.str p.1 p.2))):∃ L':List (Str×Tok),l=L'.map (fun p=>((sK prog w).hash p.1,Value.str p.1 p.2))∧L'.Perm L:=by
 have all:∀ e∈l,∃ p:Str×Tok,e=((sK prog w).hash p.1,Value.str p.1 p.2):=fun e he=>by
  obtain ⟨p,_,rfl⟩:=List.mem_map.mp (h.mem_iff.mp he)
  exact ⟨p,rfl⟩
 have ex:∀ l:List (Int×Value),(∀ e∈l,∃ p:Str×Tok,e=((sK prog w).hash p.1,Value.str p.1 p.2))→∃ L':List (Str×Tok),l=L'.map (fun p=>((sK prog w).hash p.1,Value.str p.1 p.2)):=by
  intro l
  induction l with
  |nil=>intro _;exact ⟨[],rfl⟩
  |cons e l ih =>
   intro ha
   obtain ⟨p,rfl⟩:=ha e List.mem_cons_self
   obtain ⟨L',rfl⟩:=ih fun e he=>ha e (List.mem_cons_of_mem _ he)
   exact ⟨p::L',rfl⟩
 obtain ⟨L',rfl⟩:=ex l all
 refine ⟨L',rfl,?_⟩
 have g:(L'.map fun p=>((sK prog w).hash p.1,Value.str p.1 p.2)).map (fun e=>match e.2 with|.str x t=>(x,t)|_=>(Str.empty,0))=L':=by
  rw [List.map_map]
  exact List.map_id _
 have g2:(L.map fun p=>((sK prog w).hash p.1,Value.str p.1 p.2)).map (fun e=>match e.2 with|.str x t=>(x,t)|_=>(Str.empty,0))=L:=by
  rw [List.map_map]
  exact List.map_id _
 have:=h.map (fun e=>match e.2 with|.str x t=>(x,t)|_=>(Str.empty,0))
 rw [g,g2] at this
 exact this
theorem oC {a : Addr} {led : Bool} {D : List Str} {x : Str} {tk : Tok} {Q : Bool → Shared → Prop} (hS : dz prog w s.heap a led D) (hroom : D.length + 1 < scanBound)
    (h : ∀ h', Heap.SameBut a s.heap h' → dz prog w h' a led (if x ∈ D then D else D ++ [x]) → Q (decide (x ∉ D)) { s with heap := h' }) :
    wpAny (model prog w) A (setAddHashed a (.str x tk) ((sK prog w).hash x)) Q E s := by
  obtain ⟨L, es, ep, t, ho, hes, hperm, hnd, hf, hb, hled, hpl⟩ := hS
  have hkey : (sK prog w).is x (.str x tk) = true := by rw [pV]; simp
  have hel : ElemsOf (sK prog w) es.toList := by rw [hes]; exact sN
  have hlen : es.size = D.length := by rw [← Array.length_toList, hes, List.length_map, ← List.length_map (f := Prod.fst) (as := L), hperm.length_eq]
  unfold setAddHashed setAddHashedIn
  refine wpAny_holding (wpAny_bind (wpAny_setState_of ho rfl hf ?_))
  dsimp only
  rw [byScan_of (knd := sK prog w) rfl hb hel]
  simp only [↓reduceIte]
  unfold setAddByScan
  refine wpAny_bind ?_
  refine wpAny_bind (wpAny_rule ?_)
  refine wpAny_bind (wpAny_setScan_of (knd := sK prog w) hkey ho rfl hf hel ?_)
  have mem_iff : (∃ e ∈ es.toList, (sK prog w).is x e.2 = true) ↔ x ∈ D := by
    rw [hes, ← hperm.mem_iff, List.mem_map]
    constructor
    · rintro ⟨e, he, hi⟩
      obtain ⟨p, hp, rfl⟩ := List.mem_map.mp he
      rw [pV, decide_eq_true_eq] at hi
      exact ⟨p, hp, hi.symm⟩
    · rintro ⟨p, hp, e⟩
      exact ⟨_, List.mem_map.mpr ⟨p, hp, rfl⟩, by rw [pV]; simp [e]⟩
  cases hr : List.findIdx? (fun e => (sK prog w).is x e.2) es.toList with
  | some j =>
    dsimp only
    obtain ⟨hj, hpj, _⟩ := List.findIdx?_eq_some_iff_getElem.mp hr
    have hx : x ∈ D := mem_iff.mp ⟨es.toList[j], List.getElem_mem hj, hpj⟩
    refine wpAny_pure (wpAny_pure ?_)
    have e : s = { s with heap := s.heap } := by cases s; rfl
    have := h s.heap (Heap.SameBut.refl a s.heap) (by rw [if_pos hx]; exact ⟨L, es, ep, t, ho, hes, hperm, hnd, hf, hb, hled, hpl⟩)
    rw [decide_eq_false (fun z => z hx)] at this
    rw [e]; exact this
  | none =>
    dsimp only
    have hx : x ∉ D := fun hx => by
      obtain ⟨e, he, hp⟩ := mem_iff.mpr hx
      have := List.findIdx?_eq_none_iff.mp hr e he
      rw [hp] at this
      exact Bool.noConfusion this
    have hgw : ∀ (b : Bool) {s₁ : Shared} {Q' : Unit → Shared → Prop}, Q' () s₁ → wpAny (model prog w) A (match b with | true => rule "set.scan.the-table-gave-way" | false => pure ()) Q' E s₁ :=
      fun b s₁ Q' hq => by cases b <;> first | exact wpAny_pure hq | exact wpAny_rule hq
    have hp1 := layNew_perm t es ((sK prog w).hash x) (.str x tk)
    have hfits := layNew_fits t es ((sK prog w).hash x) (.str x tk)
    have hl1 := oB t es ((sK prog w).hash x) (.str x tk)
    generalize hL : layNew t es ((sK prog w).hash x) (.str x tk) = NL at hp1 hfits hl1 ⊢
    obtain ⟨es1, t1, wasDummy, gave⟩ := NL
    dsimp only at hp1 hfits hl1 ⊢
    rw [Array.toList_push, hes, show [((sK prog w).hash x, Value.str x tk)] = [(x, tk)].map (fun p => ((sK prog w).hash p.1, Value.str p.1 p.2)) from rfl, ← List.map_append] at hp1
    obtain ⟨L1, e1, pL1⟩ := ff hp1
    have hsz1 : es1.size = D.length + 1 := by rw [← Array.length_toList, hp1.length_eq, List.length_map, List.length_append, ← hlen, ← Array.length_toList, hes, List.length_map]; rfl
    have hb1 : es1.size < scanBound := by omega
    have perm1 : (L1.map (·.1)).Perm (D ++ [x]) := (pL1.map _).trans (by rw [List.map_append]; exact hperm.append_right _)
    have nd1 : (D ++ [x]).Nodup := by
      rw [List.nodup_append]
      exact ⟨hnd, by simp, fun y hy z hz => by have : z = x := by simpa using hz
                                               subst this; rintro rfl; exact hx hy⟩
    refine wpAny_bind (hgw _ ?_)
    have hend : ∀ h', Heap.SameBut a s.heap h' → dz prog w h' a led (D ++ [x]) → Q true { s with heap := h' } := fun h' sb hs => by
      have := h h' sb (by rw [if_neg hx]; exact hs)
      rw [decide_eq_true hx] at this
      exact this
    have tail : ∀ (g : Bool → Sem Unit), (∀ (b : Bool) (s₁ : Shared) (Q' : Unit → Shared → Prop), Q' () s₁ → wpAny (model prog w) A (g b) Q' E s₁) → ∀ (R : Option Bool → Shared → Prop), (∀ h', Heap.SameBut a s.heap h' → dz prog w h' a led (D ++ [x]) → R (some true) { s with heap := h' }) → ∀ t2 : SetTable, t2.fits es1.size = true → t2.led = led → t2.plain = false → wpAny (model prog w) A (do
        storeSet a es1 t2
        if (!wasDummy && t2.tooFull) = true then do
            g (relayAll t2 es1 (SetTable.grown es1.size)).2.2
            storeSet a (relayAll t2 es1 (SetTable.grown es1.size)).1 (relayAll t2 es1 (SetTable.grown es1.size)).2.1
            pure (some true)
          else pure (some true)) R E s := by
      intro g hg R hR t2 hf2 hl2 hpl2
      refine wpAny_bind (wpAny_storeSet_of ho rfl ?_ (fits_of_scanBound hb1))
      have hg1 : (s.heap.update a (Obj.putSet es1 t2)).get? a = some { cls := .type "set", dict := none, data := .set es1 (ep + 1) t2 } := by
        have := Heap.get?_update_self (Obj.putSet es1 t2) ho rfl
        exact this
      have hsb1 := Heap.SameBut.update s.heap a (Obj.putSet es1 t2)
      split
      · have hp := relayAll_perm t2 es1 (SetTable.grown es1.size)
        have hfr := relayAll_fits t2 es1 (SetTable.grown es1.size)
        have hlr := k_ t2 es1 (SetTable.grown es1.size)
        have hpr := iI t2 es1 (SetTable.grown es1.size) hpl2
        generalize hRl : relayAll t2 es1 (SetTable.grown es1.size) = Rl at hp hfr hlr hpr ⊢
        obtain ⟨es2, t3, gave2⟩ := Rl
        dsimp only at hp hfr hlr hpr ⊢
        rw [e1] at hp
        obtain ⟨L2, e2, pL2⟩ := ff hp
        have hsz : es2.size = es1.size := by rw [← Array.length_toList, hp.length_eq, ← e1, Array.length_toList]
        refine wpAny_bind (hg _ _ _ ?_)
        refine wpAny_bind (wpAny_storeSet_of hg1 rfl ?_ (fits_of_scanBound (by omega)))
        have hg2 : ((s.heap.update a (Obj.putSet es1 t2)).update a (Obj.putSet es2 t3)).get? a = some { cls := .type "set", dict := none, data := .set es2 (ep + 1 + 1) t3 } := Heap.get?_update_self (Obj.putSet es2 t3) hg1 rfl
        refine wpAny_pure (hR _ (hsb1.trans (Heap.SameBut.update _ a _)) ⟨L2, es2, _, t3, hg2, e2, (pL2.map _).trans perm1, nd1, hfr, by omega, hlr.trans hl2, .inr hpr⟩)
      · exact wpAny_pure (hR _ hsb1 ⟨L1, es1, _, t2, hg1, e1, perm1, nd1, hf2, hb1, hl2, .inr hpl2⟩)
    split
    · rename_i hp
      refine wpAny_bind ?_
      rw [hashByValue_scannable 8 rfl]
      refine wpAny_pure ?_
      have ep : (if plainKind (Value.str x tk) = true then t1 else { t1 with plain := false }) = { t1 with plain := false } := rfl
      rw [ep]
      refine tail _ ?_ _ ?_ { t1 with plain := false } (SetTable.fits_plain_off hfits) (hl1.trans hled) rfl
      · intro b s₁ Q' hq; cases b <;> first | exact wpAny_pure hq | exact wpAny_rule hq
      · intro h' hsb hS'; dsimp only; exact wpAny_pure (hend h' hsb hS')
    · rename_i hp
      refine wpAny_bind (wpAny_pure ?_)
      simp only [↓reduceIte]
      refine tail _ ?_ _ ?_ t1 hfits (hl1.trans hled) (Bool.eq_false_iff.mpr hp)
      · intro b s₁ Q' hq; cases b <;> first | exact wpAny_pure hq | exact wpAny_rule hq
      · intro h' hsb hS'; dsimp only; exact wpAny_pure (hend h' hsb hS')
end
end L2
namespace L2
open PySem PySem.Spec PyProof.Rows
noncomputable def gY (D:List Str) (x:Str):List Str:=if x∈D then D else D++[x]
noncomputable def aE (l:List Str):List Str:=l.foldl gY []
theorem oD {D : List Str} {x : Str} (h : D.Nodup) : (gY D x).Nodup := by
  unfold gY
  split
  · exact h
  · rename_i hx
    rw [List.nodup_append]
    exact ⟨h, by simp, fun y hy z hz => by have : z = x := by simpa using hz
                                           subst this; rintro rfl; exact hx hy⟩
theorem dA:∀ (l D:List Str),D.Nodup→(l.foldl gY D).Nodup∧(∀ x,x∈l.foldl gY D↔x∈D∨x∈l)∧(l.foldl gY D).length≤D.length+l.length
 |[],D,h=>⟨h,by simp,by simp⟩
 |y::l,D,h=>by
  obtain ⟨h1,h2,h3⟩:=dA l (gY D y) (oD h)
  have hm:∀ x,x∈gY D y↔x∈D∨x=y:=fun x=>by
   unfold gY
   split
   ·rename_i hy
    exact ⟨.inl,fun z=>z.elim id (fun e=>e ▸ hy)⟩
   ·simp
  have hl:(gY D y).length≤D.length+1:=by
   unfold gY
   split
   ·omega
   ·simp
  refine ⟨h1,fun x=>?_,by rw [List.foldl_cons,List.length_cons];omega⟩
  rw [List.foldl_cons,h2,hm,List.mem_cons,or_assoc]
theorem fL (l:List Str):(aE l).Nodup:=(dA l [] List.nodup_nil).1
theorem iJ (l:List Str) (x:Str):x∈aE l↔x∈l:=by rw [aE,(dA l [] List.nodup_nil).2.1];simp
theorem oE (l:List Str):(aE l).length≤l.length:=by have:=(dA l [] List.nodup_nil).2.2;simpa [aE] using this
theorem mQ (l:List Str) (x:Str):aE (l++[x])=gY (aE l) x:=by unfold aE;rw [List.foldl_append];rfl
section
variable {prog : Program} {w : World} {A : Around} {R : Result → Shared → Prop} {I : Addr} {fp wr : List Addr} {G : Array GenState → Array GenState → Prop} {n : Nat} {P : Nat → Value → Prop} {St : Nat → Shared → Prop}
theorem gv (W:WalksS prog w A.in1 I fp wr G n P St) (S:Addr) (hSf:S∉fp) (led:Bool)
  (ys:List Str) (hn:ys.length=n) (hval:∀ i v,P i v→∃ x t,ys[i]?=some x∧v=.str x t) (hb:n+1<scanBound) :
  ∀ (k i:Nat) (s:Shared),n - i=k→i≤n→St i s→dz prog w s.heap S led (aE (ys.take i)) →
   (∀ s',Moved (S::wr) G s s'→dz prog w s'.heap S led (aE ys)→R (.ok (.ret .none)) s') →
   codeAny (model prog w) A (.builtin "set.update.loop" ⟨[.ref S,.ref I],[]⟩) R s:=by
 have hSw:S∉wr:=fun h=>hSf (W.sub _ h)
 have hsub:∀ b∈wr,b∈S::wr:=fun b hb=>List.mem_cons_of_mem _ hb
 intro k
 induction k with
 |zero =>
  intro i s hk hi hst hS hR
  have hin:i=n:=by omega
  subst hin
  refine codeAny_builtin PyProof.Rows.F.entry_set_update_loop ?_
  rw [Around.under_plainId PyProof.Rows.F.plain_set_update_loop _]
  show wpAny _ A.in1 (pyNext (.ref I) >>= _) _ _ s
  refine wpAny_bind (W.done s _ _ hst fun s' hm=>?_)
  show wpAny _ A.in1 (ret Value.none) _ _ s'
  rw [List.take_of_length_le (by omega)] at hS
  exact wpAny_pure (hR s' (hm.mono hsub) (by
   obtain ⟨L,es,ep,t,ho,rest⟩:=hS
   exact ⟨L,es,ep,t,hm.heap S _ hSw ho,rest⟩))
 |succ k ih =>
  intro i s hk hi hst hS hR
  have hlt:i<n:=by omega
  refine codeAny_builtin PyProof.Rows.F.entry_set_update_loop ?_
  rw [Around.under_plainId PyProof.Rows.F.plain_set_update_loop _]
  show wpAny _ A.in1 (pyNext (.ref I) >>= _) _ _ s
  refine wpAny_bind (W.item i s _ _ hlt hst fun v s' hP hst' hm=>?_)
  obtain ⟨x,t,hx,rfl⟩:=hval i v hP
  have hS':dz prog w s'.heap S led (aE (ys.take i)):=by
   obtain ⟨L,es,ep,tb,ho,rest⟩:=hS
   exact ⟨L,es,ep,tb,hm.heap S _ hSw ho,rest⟩
  show wpAny _ A.in1 (holding [Value.str x t] (setAdd S (.str x t)) >>= _) _ _ s'
  refine wpAny_bind (wpAny_holding ?_)
  unfold setAdd
  refine wpAny_holding ?_
  refine wpAny_bind ((sK prog w).pyHash (k:=x) (by rw [pV];simp) ?_)
  have hroom:(aE (ys.take i)).length+1<scanBound:=by have:=oE (ys.take i);rw [List.length_take] at this;omega
  refine oC (s:={ s' with toks:=s'.toks+1 }) hS' hroom fun h' hsb hS2=>?_
  have hSi:dz prog w h' S led (aE (ys.take (i+1))):=by
   rw [List.take_add_one,hx]
   show dz prog w h' S led (aE (ys.take i++[x]))
   rw [mQ]
   exact hS2
  refine wpAny_pure ⟨plainId_quiet PyProof.Rows.F.plain_set_update_loop _,ih (i+1) _ (by omega) hlt (W.frame _ s' _ _ hst' (Nat.le_succ _) fun b hb o e=>?_) hSi fun s'' hm'' hS''=>?_⟩
  ·rw [hsb.2 b (fun h:b=S=>hSf (by rw [←h];exact hb))];exact e
  ·refine hR s'' (Moved.trans W.gtrans ((hm.mono hsub).then_heap (Nat.le_succ _) fun b o hb e=>?_) hm'') hS''
   rw [hsb.2 b (fun h:b=S=>hb (by rw [h];exact List.mem_cons_self))];exact e
end
section
variable {prog : Program} {w : World} {A : Around} {E : Value → Shared → Prop} {s : Shared}
theorem jB (a:Value) {Q₁:Value→Shared→Prop}
  (h:Q₁ (.ref s.heap.objs.size) { s with heap:=s.heap.push { cls:=.type "set",dict:=none,data:=.set #[] 0 (.fresh 0 0 (!w.params.followText "set-order")) } }) :
  codeAny (model prog w) A (.call (.builtin "set.__new__") ⟨[.type "set",a],[]⟩) (wants Q₁ E) s:=by
 refine codeAny_of_tree ?_
 show wpAny _ A.in1 (do checkBuiltinCall "set.__new__" ⟨[.type "set",a],[]⟩;again (.builtin "set.__new__" ⟨[.type "set",a],[]⟩)) _ _ s
 refine wpAny_bind (wpAny_of_eq (PySem.F.newCall_set_1 a) (wpAny_pure ⟨plainId_quiet PySem.F.plain_set_new _,codeAny_builtin PySem.F.entry_set_new ?_⟩))
 rw [Around.under_plainId PySem.F.plain_set_new _]
 unfold Builtin.«set.__new__» Builtin.Frozenset.newClass
 have hsub:=sub_set_self
 obtain ⟨hp,g,d,tk,os⟩:=s
 dsimp only
 wp_walk
 refine wpAny_askSetting (wpAny_pure ?_)
 dsimp only
 simp only [newObj]
 refine wpAny_bind (wpAny_alloc (wpAny_pure ?_))
 exact wpAny_pure h
theorem oF {h:Heap}{a:Addr}{led:Bool} (hg:h.get? a=some { cls:=.type "set",dict:=none,data:=.set #[] 0 (.fresh 0 0 led) }):dz prog w h a led [] :=
 ⟨[],#[],0,_,hg,rfl,.nil,List.nodup_nil,rfl,by unfold scanBound;decide,rfl,.inl rfl⟩
end
end L2
namespace L2
open PySem PySem.Spec PyProof.Rows
theorem sub_tuple_set:isSubtype (.type "tuple") (.type "set")=pure false:=by rw [isSubtype_type];kernel_rfl
theorem sub_tuple_frozenset:isSubtype (.type "tuple") (.type "frozenset")=pure false:=by rw [isSubtype_type];kernel_rfl
section
variable {prog : Program} {w : World} {A : Around} {E : Value → Shared → Prop} {s : Shared}
noncomputable abbrev cu (w:World):Bool:=!w.params.followText "set-order"
noncomputable abbrev oG (led:Bool):Obj:={ cls:=.type "set",dict:=none,data:=.set #[] 0 (.fresh 0 0 led) }
theorem fM {l:Addr}{T:String}{ys:List Str}{Q:Value→Shared→Prop}
  (hT0:s.TypeIs (.ref l) T) (hsls:isSubtype (.type T) (.type "set")=pure false) (hslf:isSubtype (.type T) (.type "frozenset")=pure false) (hne:(Value.type T==Value.type "dict")=false)
  (hb:ys.length+1<scanBound)
  (hit:∀ (s1:Shared) (B:Around) (Q':Value→Shared→Prop),B.handled=A.handled→(∀ b o,s.heap.get? b=some o→s1.heap.get? b=some o)→s.heap.objs.size<s1.heap.objs.size →
   (∀ I fp wr G P St h1,WalksS prog w B.in1 I fp wr G ys.length P St→(∀ g g',G g g'→g'=g)→s.heap.objs.size∉fp→(∀ b∈wr,s.heap.objs.size<b)→(∀ i v,P i v→∃ x t,ys[i]?=some x∧v=.str x t)→St 0 { s1 with heap:=h1 }→(∀ b o,s1.heap.get? b=some o→h1.get? b=some o)→Q' (.ref I) { s1 with heap:=h1 })→wpAny (model prog w) B (pyIter (.ref l)) Q' E s1)
  (h:∀ (h':Heap) (tk:Nat),dz prog w h' s.heap.objs.size (cu w) (aE ys)→(∀ b o,b<s.heap.objs.size→s.heap.get? b=some o→h'.get? b=some o)→Q (.ref s.heap.objs.size) { s with heap:=h',toks:=tk }) :
  wpAny (model prog w) A (call (.type "set") [.ref l]) Q E s:=by
 obtain ⟨c,tl,hmro⟩:=PySem.F.called_set.mro
 have hmade:=PySem.F.called_set.made
 have hsub:=PySem.F.called_set.sub
 refine wpAny_call (codeAny_of_tree ?_)
 show wpAny _ _ (callAny (.type "set") _) _ _ _
 refine wpAny_pure ⟨Code.quiet_builtin _ (by decide +kernel),codeAny_builtin PySem.F.entry_type_call ?_⟩
 rw [Around.under_plain (weight_type_call_type "set" [.ref l] []) rfl]
 have h1:=PySem.F.called_set.notType
 have h2:=PySem.F.called_set.canCreate
 have hct:=PySem.F.typeCall_set_1 (.ref l)
 repeat (any_goals (first|assumption|wp_step))
 refine codeAny_mono (jB (.ref l) (E:=E) (Q₁:=fun obj s₁=>obj=.ref s.heap.objs.size∧s₁={ s with heap:=s.heap.push (oG (cu w)) }) ⟨rfl,rfl⟩) fun r s₁ hr=>?_
 cases r with
 |error e=>exact hr
 |ok fl =>
  cases fl with
  |ret obj =>
   obtain ⟨rfl,rfl⟩:=hr
   have hS:(s.heap.push (oG (cu w))).get? s.heap.objs.size=some (oG (cu w)):=Heap.get?_push_size _ rfl
   have hT:Shared.TypeIs { s with heap:=s.heap.push (oG (cu w)) } (.ref s.heap.objs.size) "set":=⟨_,hS,rfl⟩
   have hli:=PySem.F.called_set.init.lookup
   have hbi:=PySem.F.called_set.init.bind (.ref s.heap.objs.size)
   repeat (any_goals (first|assumption|wp_step))
   refine codeAny_mono (codeAny_call_builtin (R:=wants (fun r s₂=>r=.none∧∃ h' tk,s₂={ s with heap:=h',toks:=tk } ∧
     dz prog w h' s.heap.objs.size (cu w) (aE ys) ∧
     (∀ b o,b<s.heap.objs.size→s.heap.get? b=some o→h'.get? b=some o)) E) PySem.F.called_set.init.plain PySem.F.entry_set_init (check_set_init_1 hT ?_)) fun r₂ s₂ hr₂=>?_
   ·obtain ⟨ol,hol,hcl⟩:=hT0
    obtain ⟨ocls,odict,odata,oslots⟩:=ol
    simp only at hcl
    subst hcl
    have hol':(s.heap.push (oG (cu w))).get? l=some { cls:=.type T,dict:=odict,data:=odata,slots:=oslots }:=Heap.get?_push_of_some _ hol
    have hT1:Shared.TypeIs { s with heap:=s.heap.push (oG (cu w)) } (.ref l) T:=⟨_,hol',rfl⟩
    unfold Builtin.«set.__init__» noKeywords Builtin.Frozenset.updateFrom
    generalize hPI:pyIter=PI
    wp_walk
    subst hPI
    refine hit { s with heap:=s.heap.push (oG (cu w)) } _ _ rfl (fun b o e=>Heap.get?_push_of_some _ e) (by rw [size_push'];exact Nat.lt_succ_self _) fun I fp wr G P St h1 W hG hf hwr hval hst hk=>?_
    refine wpAny_bind (wpAny_runValue ?_)
    refine gv W s.heap.objs.size hf (cu w) ys rfl hval hb (ys.length - 0) 0 _ (by omega) (Nat.zero_le _) hst (oF (hk _ _ hS)) ?_
    intro s' hm hS'
    obtain ⟨h',g',d',tk',os'⟩:=s'
    have eg:g'=s.gens:=hG _ _ hm.gens
    have ed:d'=s.drawn:=hm.drawn
    have eo:os'=s.os:=hm.os
    subst eg;subst ed;subst eo
    show wpAny _ _ _ _ _ _
    refine wpAny_pure ?_
    show wpAny _ _ (ret Value.none) _ _ _
    refine wpAny_pure ⟨rfl,h',tk',rfl,hS',fun b o hb' e=>?_⟩
    exact hm.heap b o (fun z=>by
     rcases List.mem_cons.mp z with z|z
     ·rw [z] at hb';exact Nat.lt_irrefl _ hb'
     ·exact absurd (hwr b z) (Nat.not_lt_of_lt hb')) (hk _ _ (Heap.get?_push_of_some _ e))
   ·cases r₂ with
    |error e=>exact hr₂
    |ok fl₂ =>
     cases fl₂ with
     |ret r =>
      obtain ⟨rfl,h',tk,rfl,hS',hk'⟩:=hr₂
      repeat (any_goals (first|assumption|wp_step))
      exact h _ _ hS' hk'
     |_=>exact hr₂.elim
  |_=>exact hr.elim
end
end L2
namespace L2
open PySem PySem.Spec PyProof.Rows
section
variable {prog : Program} {w : World} {A : Around} {E : Value → Shared → Prop} {s : Shared}
theorem la:∀ {vs:List Value}{ss:List Str},StrsAre vs ss→∀ (i:Nat) (v:Value),vs[i]?=some v→∃ x t,ss[i]?=some x∧v=.str x t
 |_,_,.nil,i,v,h=>by simp at h
 |_,_,.cons x t h,0,v,e=>by simp at e;exact ⟨x,t,rfl,e.symm⟩
 |_,_,.cons x t h,i+1,v,e=>by rw [List.getElem?_cons_succ] at e;rw [List.getElem?_cons_succ];exact la h i v e
theorem fN:∀ {vs:List Value}{ss:List Str},StrsAre vs ss→vs.length=ss.length
 |_,_,.nil=>rfl
 |_,_,.cons x t h=>by simp [fN h]
theorem pW {n l S:Addr} (h1:n≠S) (h2:n≠l):n∉[S,l]:=by simp [h1,h2]
theorem iK {l:Addr}{vs:List Value}{ys:List Str}{Q:Value→Shared→Prop} (hh:A.handled=none) (hl:s.heap.IsList l vs.toArray) (hS:StrsAre vs ys) (hb:ys.length+1<scanBound)
  (h:∀ (h':Heap) (tk:Nat),dz prog w h' s.heap.objs.size (cu w) (aE ys)→(∀ b o,b<s.heap.objs.size→s.heap.get? b=some o→h'.get? b=some o)→Q (.ref s.heap.objs.size) { s with heap:=h',toks:=tk }) :
  wpAny (model prog w) A (call (.type "set") [.ref l]) Q E s:=by
 have hlS:l<s.heap.objs.size:=let ⟨o,ho,_⟩:=hl;Heap.lt_size ho
 refine fM hl.typeIs PySem.F.sub_list_set PySem.F.sub_list_frozenset (by decide) hb (fun s1 B Q' hB hk hlt hq=>?_) h
 have hl1:s1.heap.IsList l vs.toArray:=let ⟨o,ho,r⟩:=hl;⟨o,hk _ _ ho,r⟩
 refine wpAny_pyIter_list hl1 ?_
 have hneI:l≠s1.heap.objs.size:=Nat.ne_of_lt (Nat.lt_trans hlS hlt)
 have W:=(Walks.list (prog:=prog) (w:=w) (A:=B.in1) (by simp [hB,hh]) s1.heap.objs.size l hneI vs.toArray).toS
 have el:vs.toArray.size=ys.length:=by simp [fN hS]
 rw [el] at W
 refine hq _ _ _ _ _ _ _ W (fun _ _ e=>e) (pW (Nat.ne_of_lt hlt) (Nat.ne_of_gt hlS)) (fun b hb=>by rw [List.mem_singleton.mp hb];exact hlt) (fun i v hv=>la hS i v (by simpa using hv)) ⟨⟨_,Heap.get?_push_size _ rfl,rfl,rfl⟩,hl1.push _⟩ fun b o e=>Heap.get?_push_of_some _ e
theorem jC {l:Addr}{vs:List Value}{ys:List Str}{Q:Value→Shared→Prop} (hh:A.handled=none) (hl:s.heap.IsTuple l vs.toArray) (hS:StrsAre vs ys) (hb:ys.length+1<scanBound)
  (h:∀ (h':Heap) (tk:Nat),dz prog w h' s.heap.objs.size (cu w) (aE ys)→(∀ b o,b<s.heap.objs.size→s.heap.get? b=some o→h'.get? b=some o)→Q (.ref s.heap.objs.size) { s with heap:=h',toks:=tk }) :
  wpAny (model prog w) A (call (.type "set") [.ref l]) Q E s:=by
 have hlS:l<s.heap.objs.size:=let ⟨o,ho,_⟩:=hl;Heap.lt_size ho
 refine fM hl.typeIs sub_tuple_set sub_tuple_frozenset (by decide) hb (fun s1 B Q' hB hk hlt hq=>?_) h
 have hl1:s1.heap.IsTuple l vs.toArray:=let ⟨o,ho,r⟩:=hl;⟨o,hk _ _ ho,r⟩
 refine wpAny_pyIter_tuple hl1 ?_
 have hneI:l≠s1.heap.objs.size:=Nat.ne_of_lt (Nat.lt_trans hlS hlt)
 have W:=(Walks.tuple (prog:=prog) (w:=w) (A:=B.in1) (by simp [hB,hh]) s1.heap.objs.size l hneI vs.toArray).toS
 have el:vs.toArray.size=ys.length:=by simp [fN hS]
 rw [el] at W
 refine hq _ _ _ _ _ _ _ W (fun _ _ e=>e) (pW (Nat.ne_of_lt hlt) (Nat.ne_of_gt hlS)) (fun b hb=>by rw [List.mem_singleton.mp hb];exact hlt) (fun i v hv=>la hS i v (by simpa using hv)) ⟨⟨_,Heap.get?_push_size _ rfl,rfl,rfl⟩,let ⟨o,ho,r⟩:=hl1;⟨o,Heap.get?_push_of_some _ ho,r⟩⟩ fun b o e=>Heap.get?_push_of_some _ e
theorem lb {M:Model}{src:Source}{n:Nat}{Q:Nat→Shared→Prop} (hn:n≠0) (h:∀ i<n,Q i { s with drawn:=s.drawn.bump src }):wpAny M A (choose src n) Q E s:=fun Γ p hΓ=>by
 show Sem.wp M Γ (.choose src n .pure) _ _ p s
 rw [Sem.wp_choose]
 exact ⟨hn,h _ (Nat.mod_lt _ (Nat.pos_of_ne_zero hn))⟩
theorem fg {α:Type}:∀ {xs:List α}{i:Nat}{x:α},xs[i]?=some x→(x::xs.eraseIdx i).Perm xs
 |[],i,x,h=>by simp at h
 |y::ys,0,x,h=>by simp at h;subst h;exact .refl _
 |y::ys,i+1,x,h=>by
  rw [List.getElem?_cons_succ] at h
  rw [List.eraseIdx_cons_succ]
  exact (List.Perm.swap y x _).trans ((fg h).cons y)
theorem eX {M:Model}{α:Type}:∀ (n:Nat) (xs:List α) (s:Shared) (Q:List α→Shared→Prop),xs.length=n→(∀ ys d,ys.Perm xs→Q ys { s with drawn:=d })→wpAny M A (drawOrder n xs) Q E s
 |0,xs,s,Q,hn,h=>by
  have:xs=[]:=List.length_eq_zero_iff.mp hn
  subst this
  exact wpAny_pure (h [] s.drawn (.refl _))
 |n+1,[],s,Q,hn,h=>by simp at hn
 |n+1,y::ys,s,Q,hn,h=>by
  show wpAny M A (choose .order (y::ys).length >>= _) Q E s
  refine wpAny_bind (lb (by simp) fun i hi=>?_)
  have e:(y::ys)[i]?=some ((y::ys)[i]'hi):=List.getElem?_eq_getElem hi
  have hp:=fg e
  generalize (y::ys)[i]'hi=x at e hp
  simp only [e]
  refine wpAny_bind (eX n _ _ _ (by have:=hp.length_eq;simp at this hn ⊢;omega) fun zs d hz=>?_)
  exact wpAny_pure (h (x::zs) d ((hz.cons x).trans hp))
theorem gN {α:Type} (next:Nat→Nat):∀ (fuel k:Nat) (left:List α) (out:Array α),left.length=fuel→(pickOrder.go next fuel k left out).toList.Perm (out.toList++left)
 |0,k,left,out,hl=>by
  have:left=[]:=List.length_eq_zero_iff.mp hl
  subst this
  simp [pickOrder.go]
 |fuel+1,k,left,out,hl=>by
  unfold pickOrder.go
  have hlt:next k % left.length<left.length:=Nat.mod_lt _ (by omega)
  have e:left[next k % left.length]?=some (left[next k % left.length]'hlt):=List.getElem?_eq_getElem hlt
  have hp:=fg e
  generalize left[next k % left.length]'hlt=x at e hp
  simp only [e]
  refine (gN next fuel _ _ _ (by have:=hp.length_eq;simp at this;omega)).trans ?_
  rw [Array.toList_push,List.append_assoc]
  exact (hp.append_left _)
theorem d0 {α:Type} (next:Nat→Nat) (xs:Array α):(pickOrder next xs).toList.Perm xs.toList:=by
 have:=gN next xs.size 0 xs.toList #[] (by simp)
 simpa [pickOrder] using this
end
end L2
namespace L2
open PySem PySem.Spec PyProof.Rows
namespace SI
theorem mR:Manifest.owners.lookup (String.ofList ['r','o','t','a','r','e','t','i','_','t','e','s'].reverse)=some Manifest.sig_set_iterator:=by kernel_rfl
theorem slot_next:Slot "set_iterator" "__next__" "set_iterator.__next__" :=
 .of (owner:="set_iterator") (n:="__next__") (by rw [typeLookup_type,builtinLookup_eq_fast];kernel_rfl) (by decide +kernel) (by decide +kernel) (by decide +kernel)
  (by first|exact .inl (by decide +kernel)|exact .inr (by decide +kernel)) (by rw [isSubtype_type];kernel_rfl)
theorem entry_next:entryFor table "set_iterator.__next__"=some Builtin.«set_iterator.__next__»:=entryFor_of_tree (by kernel_rfl)
theorem args_next (a:Value):argsOk "set_iterator.__next__" ⟨[a],[]⟩:=by
 unfold argsOk;rw [signature?_of (id:="set_iterator.__next__") (n:=['_','_','t','x','e','n','_','_']) (o:=['r','o','t','a','r','e','t','i','_','t','e','s']) (by kernel_rfl) mR];kernel_rfl
theorem jY:Slot "set_iterator" "__iter__" "set_iterator.__iter__" :=
 .of (owner:="set_iterator") (n:="__iter__") (by rw [typeLookup_type,builtinLookup_eq_fast];kernel_rfl) (by decide +kernel) (by decide +kernel) (by decide +kernel)
  (by first|exact .inl (by decide +kernel)|exact .inr (by decide +kernel)) (by rw [isSubtype_type];kernel_rfl)
theorem qV (a:Value):argsOk "set_iterator.__iter__" ⟨[a],[]⟩:=by
 unfold argsOk;rw [signature?_of (id:="set_iterator.__iter__") (n:=['_','_','r','e','t','i','_','_']) (o:=['r','o','t','a','r','e','t','i','_','t','e','s']) (by kernel_rfl) mR];kernel_rfl
theorem oH:entryFor table "set_iterator.__iter__"=some Builtin.«dict_keyiterator.__iter__» :=
 entryFor_alias (id':="dict_keyiterator.__iter__") (by kernel_rfl) (by first|rfl|decide +kernel|(unfold String.splitOn;simp +decide [String.splitOnAux])) (by decide +kernel) (by kernel_rfl)
theorem iL:entryFor table "set.__iter__"=some Builtin.«frozenset.__iter__» :=
 entryFor_alias (id':="frozenset.__iter__") (by kernel_rfl) rfl (by decide +kernel) (by kernel_rfl)
end SI
section
variable {prog : Program} {w : World} {A : Around} {E : Value → Shared → Prop} {s : Shared}
noncomputable def fh (h:Heap) (I:Addr) (first:Value) (i:Nat) (S:Addr) (n ep:Nat):Prop:=∃ o,h.get? I=some o∧o.cls=.type "set_iterator"∧o.data=.fields #[first,rawInt i,.ref S,rawInt n,rawInt ep]
theorem fh.typeIs {I S:Addr}{f:Value}{i n ep:Nat} (x:fh s.heap I f i S n ep):s.TypeIs (.ref I) "set_iterator":=let ⟨o,ho,hc,_⟩:=x;⟨o,ho,hc⟩
theorem vk {I S:Addr}{f:Value}{i n ep:Nat}{Q:Value→Shared→Prop} (hit:fh s.heap I f i S n ep) (h:Q (.ref I) s):wpAny (model prog w) A (pyIter (.ref I)) Q E s:=by
 refine wpAny_pyIter_slot hit.typeIs SI.jY (wpAny_call_entry SI.jY hit.typeIs SI.oH ?_ (SI.qV _))
 show wpAny _ _ (ret (.ref I)) _ _ s
 exact wpAny_pure ⟨_,rfl,"set_iterator",_,hit.typeIs,SI.slot_next.lookup,h⟩
theorem dB {M:Model}{Q:Bool→Shared→Prop} (h:Q (M.w.params.followText "set-order") s):wpAny M A setsByText Q E s:=by
 unfold setsByText
 exact wpAny_bind (wpAny_askSetting (wpAny_pure h))
end
end L2
namespace L2
open PySem PySem.Spec PyProof.Rows
section
variable {prog : Program} {w : World} {A : Around} {E : Value → Shared → Prop} {s : Shared}
noncomputable abbrev lh (es:Array (Int×Value)) (ep:Nat) (t:SetTable):Obj:={ cls:=.type "set",dict:=none,data:=.set es ep t }
theorem mS {I:Addr}{B:Around}{Q:Option Value→Shared→Prop}{h1:Heap}{k:Value→Sem (Option Value)} (hh:B.handled=none)
  (hQ:∀ h',(∀ b o,h1.get? b=some o→h'.get? b=some o)→∀ e,Shared.TypeIs { s with heap:=h' } e "StopIteration"→E e { s with heap:=h' }) {Q':Fin→Shared→Prop} :
  wpAny (model prog w) B (newExc (.type "StopIteration") [] >>= fun e=>(raiseNew e:Sem Fin)) Q' E { s with heap:=h1 }:=by
 refine wpAny_bind ?_
 simp only [newExc,newTuple]
 refine wpAny_bind (wpAny_newObj_type ?_ (by size_fits))
 refine wpAny_bind (m:=firstArgMember _ _) (wpAny_of_eq (a:=Value.none) (by first|rfl|(simp only [firstArgMember];rfl)) ?_)
 refine wpAny_newObj_type ?_ (by size_fits)
 simp only [raiseNew]
 refine wpAny_bind (wpAny_handled ?_)
 rw [hh]
 refine wpAny_bind (wpAny_pure (wpAny_throw ?_))
 exact hQ _ (fun b o e=>Heap.get?_push_of_some _ (Heap.get?_push_of_some _ e)) _ ⟨_,Heap.get?_push_size _ rfl,rfl⟩
theorem pX {I S:Addr}{first:Value}{i ep:Nat}{es:Array (Int×Value)}{t:SetTable}{Q:Option Value→Shared→Prop} (hit:fh s.heap I first i S es.size ep) (ho:s.heap.get? S=some (lh es ep t)) (hf:t.fits es.size=true)
  (hrest:∀ (Q':Fin→Shared→Prop) (E':Value→Shared→Prop) ,(∀ v s',Q (some v) s'→Q' (.done (.ret v)) s')→(∀ e s',s'.TypeIs e "StopIteration"→Q none s'→E' e s') →
   wpAny (model prog w) A.in1 (if let .int slot _:=first then (do
     match ←setNext S slot.toNat i ep with
     |some (x,next) =>
      setField (.ref I) 0 (rawInt next)
      setField (.ref I) 1 (rawInt ((i:Int)+1))
      ret x
     |none=>setField (.ref I) 2 .none;raiseNew (←newExc (.type "StopIteration") []))
    else (do
     let some places ←seqItems? first|unsupported "internal:set_iterator"
     match places[i]? with
     |some (.int place _) =>
      let x ←setNextDrawn S place.toNat ep
      setField (.ref I) 1 (rawInt ((i:Int)+1))
      ret x
     |some _=>unsupported "internal:set_iterator"
     |none=>setField (.ref I) 0 (rawInt 0);setField (.ref I) 2 .none;raiseNew (←newExc (.type "StopIteration") []))) Q' E' s):wpAny (model prog w) A (pyNext (.ref I)) Q E s:=by
 obtain ⟨o,hI,hc,hd⟩:=id hit
 unfold pyNext
 refine wpAny_bind (wpAny_attempt (wpAny_callSpecial?_slot (name:=Str.ofString "__next__") hit.typeIs SI.slot_next
  (wpAny_call_entry SI.slot_next hit.typeIs SI.entry_next ?_ (SI.args_next _))))
 unfold Builtin.«set_iterator.__next__»
 refine wpAny_bind (wpAny_of_eq (a:=(Value.ref I,[])) rfl ?_)
 try dsimp only
 refine wpAny_bind (wpAny_fieldsOf hI hd ?_)
 try dsimp only
 refine wpAny_bind (wpAny_setEntries_of ho rfl hf ?_)
 rw [if_neg (by simp)]
 refine wpAny_mono (hrest (fun fin s'=>∃ r,fin=.done (.ret r)∧Q (some r) s') (fun e s'=>s'.TypeIs e "StopIteration"∧Q none s') (fun v s' q=>⟨v,rfl,q⟩) fun e s' z q=>⟨z,q⟩) ?_ ?_
 ·rintro fin s' ⟨r,rfl,q⟩
  exact ⟨r,rfl,wpAny_pure q⟩
 ·rintro e s' ⟨z,q⟩
  refine wpAny_bind (wpAny_isInstance (T:="StopIteration") (b:=true) z isSubtype_stop ?_)
  exact wpAny_pure q
end
end L2
namespace L2
open PySem PySem.Spec PyProof.Rows
section
variable {prog : Program} {w : World} {A : Around} {E : Value → Shared → Prop} {s : Shared}
theorem pY {I S:Addr}{f f':Value}{i n ep:Nat}{h:Heap}{o:Obj} (hI:h.get? I=some o) (hc:o.cls=.type "set_iterator") (hd:o.data=.fields #[f,rawInt i,.ref S,rawInt n,rawInt ep]) :
  fh (h.update I (Obj.mapFields (·.setIfInBounds 1 (rawInt ((i:Int)+1))))) I f (i+1) S n ep :=
 ⟨_,Heap.get?_update_self _ hI (Obj.isFreed_of_fields (Obj.data_mapFields hd _)),(Obj.cls_mapFields ..).trans hc,by rw [Obj.data_mapFields hd];simp⟩
theorem mT {I S:Addr}{f f':Value}{i n ep:Nat}{h:Heap}{o:Obj} (hI:h.get? I=some o) (hc:o.cls=.type "set_iterator") (hd:o.data=.fields #[f,rawInt i,.ref S,rawInt n,rawInt ep]) :
  ∃ o',(h.update I (Obj.mapFields (·.setIfInBounds 0 f'))).get? I=some o'∧o'.cls=.type "set_iterator"∧o'.data=.fields #[f',rawInt i,.ref S,rawInt n,rawInt ep] :=
 ⟨_,Heap.get?_update_self _ hI (Obj.isFreed_of_fields (Obj.data_mapFields hd _)),(Obj.cls_mapFields ..).trans hc,by rw [Obj.data_mapFields hd];simp⟩
theorem sO {I S:Addr}{slot i ep:Nat}{es:Array (Int×Value)}{t:SetTable}{Q:Option Value→Shared→Prop} (hit:fh s.heap I (rawInt slot) i S es.size ep) (ho:s.heap.get? S=some (lh es ep t)) (hf:t.fits es.size=true) (hh:A.handled=none)
  {r:Option (Value×Nat)} (hn:∀ (B:Around) (E':Value→Shared→Prop) (Q':Option (Value×Nat)→Shared→Prop),Q' r s→wpAny (model prog w) B (setNext S slot i ep) Q' E' s)
  (h1:∀ x nx,r=some (x,nx)→∀ h',fh h' I (rawInt nx) (i+1) S es.size ep→Heap.SameBut I s.heap h'→Q (some x) { s with heap:=h' })
  (h2:r=none→∀ h',(∀ b o,b≠I→s.heap.get? b=some o→h'.get? b=some o)→Q none { s with heap:=h' }):wpAny (model prog w) A (pyNext (.ref I)) Q E s:=by
 refine pX hit ho hf fun Q' E' q1 q2=>?_
 obtain ⟨o,hI,hc,hd⟩:=id hit
 show wpAny _ _ (setNext S slot i ep >>= _) _ _ s
 refine wpAny_bind (hn _ _ _ ?_)
 cases r with
 |some p =>
  obtain ⟨x,nx⟩:=p
  dsimp only
  refine wpAny_bind (wpAny_setField hI hd (by simp) ?_)
  obtain ⟨o',e1,e2,e3⟩:=mT (f':=rawInt nx) hI hc hd
  refine wpAny_bind (wpAny_setField (s:={ s with heap:=_ }) e1 e3 (by simp) ?_)
  exact wpAny_pure (q1 _ _ (h1 x nx rfl _ (pY (f':=rawInt nx) e1 e2 e3) ((Heap.SameBut.update ..).trans (Heap.SameBut.update ..))))
 |none =>
  dsimp only
  refine wpAny_bind (wpAny_setField hI hd (by simp) ?_)
  refine mS (I:=I) (k:=fun _=>pure none) (Q:=fun _ _=>True) (s:=s) (by simpa using hh) fun h' hk e he=>q2 e _ he (h2 rfl h' fun b ob hb eb=>hk b ob ?_)
  rw [Heap.get?_update_ne _ _ _ _ hb];exact eb
theorem yd {I S T:Addr}{i ep:Nat}{es:Array (Int×Value)}{t:SetTable}{pl:List Nat}{Q:Option Value→Shared→Prop} (hit:fh s.heap I (.ref T) i S es.size ep) (ho:s.heap.get? S=some (lh es ep t)) (hf:t.fits es.size=true) (hh:A.handled=none)
  (hT:s.heap.IsTuple T ((pl.map fun (j:Nat)=>rawInt j).toArray))
  (h1:∀ (j:Nat) (e:Int×Value),pl[i]?=some j→es[j]?=some e→∀ h',fh h' I (.ref T) (i+1) S es.size ep→Heap.SameBut I s.heap h'→Q (some e.2) { s with heap:=h' })
  (hp:∀ j∈pl,j<es.size)
  (h2:pl[i]?=none→∀ h',(∀ b o,b≠I→s.heap.get? b=some o→h'.get? b=some o)→Q none { s with heap:=h' }):wpAny (model prog w) A (pyNext (.ref I)) Q E s:=by
 refine pX hit ho hf fun Q' E' q1 q2=>?_
 obtain ⟨o,hI,hc,hd⟩:=id hit
 obtain ⟨oT,hoT,hcT,nT,hdT⟩:=hT
 show wpAny _ _ (seqItems? (.ref T) >>= _) _ _ s
 refine wpAny_bind (wpAny_seqItems hoT hdT ?_)
 cases e:pl[i]? with
 |some j =>
  have e':(pl.map fun (j:Nat)=>rawInt j).toArray[i]?=some (rawInt j):=by simp [e]
  simp only [e']
  have hj:j<es.size:=hp j (List.mem_of_getElem? e)
  have ej:es[j]?=some (es[j]'hj):=by simp [hj]
  show wpAny _ _ (setNextDrawn S (j:Int).toNat ep >>= _) _ _ s
  unfold setNextDrawn
  rw [Int.toNat_natCast]
  refine wpAny_bind (wpAny_bind (wpAny_setState_of ho rfl hf ?_))
  dsimp only
  rw [if_neg (by simp)]
  generalize es[j]'hj=p at ej
  simp only [ej]
  refine wpAny_pure ?_
  refine wpAny_bind (wpAny_setField hI hd (by simp) ?_)
  exact wpAny_pure (q1 _ _ (h1 j p e ej _ (pY (f':=.ref T) hI hc hd) (Heap.SameBut.update ..)))
 |none =>
  have e':(pl.map fun (j:Nat)=>rawInt j).toArray[i]?=none:=by simp at e ⊢;exact e
  simp only [e']
  refine wpAny_bind (wpAny_setField hI hd (by simp) ?_)
  obtain ⟨o',e1,e2,e3⟩:=mT (f':=rawInt 0) hI hc hd
  refine wpAny_bind (wpAny_setField (s:={ s with heap:=_ }) e1 e3 (by simp) ?_)
  refine mS (I:=I) (k:=fun _=>pure none) (Q:=fun _ _=>True) (s:=s) (by simpa using hh) fun h' hk ex he=>q2 ex _ he (h2 e h' fun b ob hb eb=>hk b ob ?_)
  rw [Heap.get?_update_ne _ _ _ _ hb,Heap.get?_update_ne _ _ _ _ hb];exact eb
end
end L2
namespace L2
open PySem PySem.Spec PyProof.Rows
section
variable {prog : Program} {w : World} {A : Around} {E : Value → Shared → Prop} {s : Shared}
theorem fh.at {h h':Heap}{I S:Addr}{f:Value}{i n ep:Nat} (x:fh h I f i S n ep) (e:∀ o,h.get? I=some o→h'.get? I=some o):fh h' I f i S n ep:=let ⟨o,ho,r⟩:=x;⟨o,e _ ho,r⟩
theorem iM {I S:Addr}{es:Array (Int×Value)}{ep:Nat}{t:SetTable} (hh:A.handled=none) (hne:S≠I) (hf:t.fits es.size=true) (T:Addr) (hT:T≠I) (ord:List Value) (hlen:ord.length=es.size)
  (first:Nat→Value) (side:Heap→Prop) (hside:∀ h h',side h→(∀ o,h.get? T=some o→h'.get? T=some o)→side h')
  (hstep:∀ (s:Shared) (i:Nat) (E:Value→Shared→Prop) (Q:Option Value→Shared→Prop),i≤es.size→side s.heap→fh s.heap I (first i) i S es.size ep→s.heap.get? S=some (lh es ep t) →
   (∀ x,ord[i]?=some x→∀ h',fh h' I (first (i+1)) (i+1) S es.size ep→Heap.SameBut I s.heap h'→Q (some x) { s with heap:=h' }) →
   (ord[i]?=none→∀ h',(∀ b o,b≠I→s.heap.get? b=some o→h'.get? b=some o)→Q none { s with heap:=h' })→wpAny (model prog w) A (pyNext (.ref I)) Q E s) :
  Walks prog w A I [I,S,T] [I] es.size (fun i v=>ord[i]?=some v) (fun i h=>i≤es.size∧fh h I (first i) i S es.size ep∧h.get? S=some (lh es ep t)∧side h) where
 sub:=fun b hb=>by rw [List.mem_singleton.mp hb];simp
 frame:=fun i h h' x hk=>⟨x.1,x.2.1.at fun o e=>hk I (by simp) o e,hk S (by simp) _ x.2.2.1,hside h h' x.2.2.2 fun o e=>hk T (by simp) o e⟩
 item:=fun i s Q E hi x hQ=>by
  refine hstep s i E Q x.1 x.2.2.2 x.2.1 x.2.2.1 (fun v hv h' hit hs=>?_) fun z=>absurd z (by simp;omega)
  refine hQ v h' s.toks hv ⟨hi,hit,?_,hside _ h' x.2.2.2 fun o e=>?_⟩ fun b o hb e=>?_
  ·rw [hs.2 S hne];exact x.2.2.1
  ·rw [hs.2 T hT];exact e
  ·rw [hs.2 b fun z=>hb (by simp [z])];exact e
 done:=fun s Q E x hQ=>by
  refine hstep s es.size E Q x.1 x.2.2.2 x.2.1 x.2.2.1 (fun v hv=>absurd hv (by rw [List.getElem?_eq_none (by omega)];simp)) fun _ h' hk=>hQ h' s.toks fun b o hb e=>hk b o (fun z=>hb (by simp [z])) e
 self:=fun i s Q E x hQ=>vk x.2.1 hQ
theorem lj {S:Addr}{es:Array (Int×Value)}{ep:Nat}{t:SetTable}{Q:Bool→Shared→Prop} (ho:s.heap.get? S=some (lh es ep t)) (hf:t.fits es.size=true) (h:Q (!w.params.followText "set-order"&&(!t.plain&&decide (es.size > 1))) s):wpAny (model prog w) A (setDrawn S) Q E s:=by
 unfold setDrawn
 refine wpAny_bind (wpAny_setState_of ho rfl hf ?_)
 dsimp only
 exact wpAny_bind (dB (wpAny_pure h))
theorem ll {S:Addr}{es:Array (Int×Value)}{ep i:Nat}{t:SetTable}{Q:Option (Value×Nat)→Shared→Prop} (hw:w.params.followText "set-order"=true) (ho:s.heap.get? S=some (lh es ep t)) (hf:t.fits es.size=true)
  (h:Q ((pickOrder (w.params.setOrder S ep) es)[i]?.map fun e=>(e.2,0)) s):wpAny (model prog w) A (setNext S 0 i ep) Q E s:=by
 unfold setNext
 refine wpAny_bind (wpAny_setState_of ho rfl hf ?_)
 dsimp only
 refine wpAny_bind (dB ?_)
 show wpAny _ _ (if (w.params.followText "set-order")=true then _ else _) _ _ s
 rw [if_pos hw]
 rw [if_neg (by simp)]
 unfold setWalk
 refine wpAny_bind (wpAny_bind (wpAny_setState_of ho rfl hf ?_))
 dsimp only
 refine wpAny_bind (dB ?_)
 show wpAny _ _ (if (w.params.followText "set-order")=true then _ else _) _ _ s
 rw [if_pos hw]
 refine wpAny_bind (wpAny_askSetting (wpAny_pure ?_))
 exact wpAny_pure h
theorem mU {S : Addr} {es : Array (Int × Value)} {ep i slot : Nat} {t : SetTable} {Q : Option (Value × Nat) → Shared → Prop} (hw : w.params.followText "set-order" = false) (ho : s.heap.get? S = some (lh es ep t)) (hf : t.fits es.size = true) (hl : t.led = true) (h1 : es.size ≤ 1)
    (h : Q (match es[SetTable.below t.place slot]?, t.place[SetTable.below t.place slot]? with | some (_, x), some j => some (x, j + 1) | _, _ => none) s) : wpAny (model prog w) A (setNext S slot i ep) Q E s := by
  unfold setNext
  refine wpAny_bind (wpAny_setState_of ho rfl hf ?_)
  dsimp only
  refine wpAny_bind (dB ?_)
  show wpAny _ _ (if (w.params.followText "set-order") = true then _ else _) _ _ s
  rw [if_neg (by rw [hw]; simp)]
  show wpAny _ _ (if (!t.plain && decide (es.size > 1)) = true then _ else _) _ _ s
  rw [if_neg (by have : decide (es.size > 1) = false := decide_eq_false (by omega)
                 rw [this]; simp)]
  show wpAny _ _ ((if (!t.led && !es.isEmpty) = true then _ else _) >>= _) _ _ s
  rw [if_neg (by rw [hl]; simp)]
  exact wpAny_bind (wpAny_pure (wpAny_pure h))
theorem mV (es:Array (Int×Value)) (pl:Array Nat) (i:Nat) (h1:es.size≤1) (h2:pl.size=es.size) (h3:i≤es.size) :
  (match es[SetTable.below pl (if i=0 then 0 else (pl[0]?).getD 0+1)]?,pl[SetTable.below pl (if i=0 then 0 else (pl[0]?).getD 0+1)]? with|some (_,x),some j=>some (x,j+1)|_,_=>none)=es[i]?.map fun e=>(e.2,(pl[0]?).getD 0+1):=by
 obtain ⟨es⟩:=es
 obtain ⟨pl⟩:=pl
 match es,pl,h1,h2,h3 with
 |[],[],_,_,h3=>simp
 |[e],[p],_,_,h3 =>
  match i,h3 with
  |0,_ =>
   have:SetTable.below #[p] 0=0:=by simp [SetTable.below,SetTable.below.go]
   simp [this]
  |1,_ =>
   have:SetTable.below #[p] (p+1)=1:=by simp [SetTable.below,SetTable.below.go]
   simp [this]
  |n+2,h=>simp at h
 |[],_::_,_,h,_=>simp at h
 |[_],[],_,h,_=>simp at h
 |[_],_::_::_,_,h,_=>simp at h
 |_::_::_,_,h,_,_=>simp at h
theorem sP {S:Addr}{D:List Str}{Q:Value→Shared→Prop}{B:Around} (hh:B.handled=none) (hS:dz prog w s.heap S (cu w) D)
  (h:∀ (I:Addr) (fp:List Addr) (n:Nat) (P:Nat→Value→Prop) (St:Nat→Heap→Prop) (ys:List Str) (h':Heap) (d':Drawn),Walks prog w B I fp [I] n P St→ys.Perm D→n=ys.length→(∀ i v,P i v→∃ x tk,ys[i]?=some x∧v=.str x tk)→s.heap.objs.size≤I→(∀ b∈fp,b=S∨s.heap.objs.size≤b)→St 0 h' →
   (∀ b o,s.heap.get? b=some o→h'.get? b=some o)→Q (.ref I) { s with heap:=h',drawn:=d' }):wpAny (model prog w) A (pyIter (.ref S)) Q E s:=by
 obtain ⟨L,es,ep,t,ho,hes,hperm,hnd,hf,hb,hled,hpl⟩:=hS
 have hTS:s.TypeIs (.ref S) "set":=⟨_,ho,rfl⟩
 have hSlt:S<s.heap.objs.size:=Heap.lt_size ho
 refine wpAny_pyIter_slot hTS PySem.F.slot_set_iter (wpAny_call_entry PySem.F.slot_set_iter hTS SI.iL ?_ (PySem.F.args_set_iter_1 _))
 unfold Builtin.«frozenset.__iter__» Builtin.Frozenset.slot0 slotArgs
 simp only [List.isEmpty_nil,Bool.not_true,Bool.false_eq_true,↓reduceIte,bind_assoc,List.length_nil,bne_self_eq_false]
 unfold Builtin.Frozenset.addrOf Builtin.Frozenset.sizeOf
 refine wpAny_bind (wpAny_pure ?_)
 try dsimp only
 refine wpAny_bind (wpAny_pure ?_)
 refine wpAny_bind (wpAny_bind (wpAny_setEntries_of ho rfl hf (wpAny_pure ?_)))
 have hLd:D.length=es.size:=by rw [←hperm.length_eq,List.length_map,←Array.length_toList,hes,List.length_map]
 have look:∀ (l:List (Int×Value)),l.Perm es.toList→∃ ys:List Str,ys.Perm D∧ys.length=es.size∧∀ (i:Nat) (v:Value),(l.map (·.2))[i]?=some v→∃ (x:Str) (tk:Tok),ys[i]?=some x∧v=Value.str x tk:=by
  intro l hl
  rw [hes] at hl
  obtain ⟨L',e',p'⟩:=ff hl
  refine ⟨L'.map (·.1),(p'.map _).trans hperm,by rw [((p'.map _).trans hperm).length_eq,hLd],fun i v hv=>?_⟩
  subst e'
  rw [List.map_map,List.getElem?_map] at hv
  rw [List.getElem?_map]
  cases q:L'[i]? with
  |none=>rw [q] at hv;simp at hv
  |some p=>rw [q] at hv;simp at hv;exact ⟨p.1,p.2,rfl,hv.symm⟩
 refine wpAny_bind (lj ho hf ?_)
 cases hw:w.params.followText "set-order" with
 |true =>
  simp only [Bool.not_true,Bool.false_and,Bool.false_eq_true,↓reduceIte]
  refine wpAny_bind (wpAny_pure ?_)
  refine wpAny_bind (wpAny_bind (wpAny_setState_of ho rfl hf (wpAny_pure ?_)))
  refine wpAny_bind (wpAny_newObj_type ?_)
  have hn:S≠s.heap.objs.size:=Nat.ne_of_lt hSlt
  obtain ⟨ys,y1,y2,y3⟩:=look (pickOrder (w.params.setOrder S ep) es).toList (d0 _ _)
  have W:=iM (prog:=prog) (w:=w) (A:=B) (I:=s.heap.objs.size) (S:=S) (es:=es) (ep:=ep) (t:=t) hh hn hf S hn ((pickOrder (w.params.setOrder S ep) es).toList.map (·.2)) (by rw [List.length_map,(d0 _ _).length_eq,Array.length_toList]) (fun _=>rawInt 0) (fun _=>True) (fun _ _ _ _=>trivial)
   (fun s i E Q _ _ hit ho' k1 k2=>sO (slot:=0) hit ho' hf hh (fun B E' Q' q=>ll hw ho' hf q) (fun x nx e h' hit' hs=>by
    rw [Option.map_eq_some_iff] at e
    obtain ⟨p,e1,e2⟩:=e
    cases e2
    exact k1 _ (by rw [List.getElem?_map,Array.getElem?_toList,e1];rfl) h' hit' hs) (fun e=>k2 (by rw [List.getElem?_map,Array.getElem?_toList,Option.map_eq_none_iff];rwa [Option.map_eq_none_iff] at e)))
  refine wpAny_pure ⟨_,rfl,"set_iterator",_,⟨_,Heap.get?_push_size _ rfl,rfl⟩,SI.slot_next.lookup,?_⟩
  exact h _ _ _ _ _ ys _ s.drawn W y1 y2.symm y3 (Nat.le_refl _) (fun b hb=>by
   simp only [List.mem_cons,List.not_mem_nil,or_false] at hb
   rcases hb with rfl|rfl|rfl
   ·exact .inr (Nat.le_refl _)
   ·exact .inl rfl
   ·exact .inl rfl) ⟨Nat.zero_le _,⟨_,Heap.get?_push_size _ rfl,rfl,rfl⟩,Heap.get?_push_of_some _ ho,trivial⟩ fun b o e=>Heap.get?_push_of_some _ e
 |false =>
  by_cases hsz:es.size > 1
  ·have hplain:t.plain=false:=by
    rcases hpl with z|z
    ·omega
    ·exact z
   have e1:(!false&&(!t.plain&&decide (es.size > 1)))=true:=by rw [hplain,decide_eq_true hsz];rfl
   rw [e1]
   simp only [↓reduceIte]
   refine wpAny_bind (eX _ _ _ _ List.length_range fun pl d' hp=>?_)
   simp only [newTuple]
   have hpl2:∀ j∈pl,j<es.size:=fun j hj=>by have:=hp.mem_iff.mp hj;simpa using this
   have hpll:pl.length=es.size:=by rw [hp.length_eq];simp
   refine wpAny_bind (wpAny_newObj_type ?_ (by
    show (pl.map fun (j:Nat)=>rawInt j).toArray.size≤_
    have:es.size<4096:=hb
    simp only [List.size_toArray,List.length_map,hpll]
    have:(4096:Nat)≤sizeLine:=by decide
    omega))
   have ho1:(s.heap.push { cls:=.type "tuple",data:=.seq (pl.map fun (j:Nat)=>rawInt j).toArray }).get? S=some (lh es ep t):=Heap.get?_push_of_some _ ho
   refine wpAny_bind (wpAny_bind (wpAny_setState_of (s:={ s with heap:=_,drawn:=d' }) ho1 rfl hf (wpAny_pure ?_)))
   refine wpAny_bind (wpAny_newObj_type ?_)
   have hIT:s.heap.objs.size≠(s.heap.push { cls:=.type "tuple",data:=.seq (pl.map fun (j:Nat)=>rawInt j).toArray }).objs.size:=by rw [size_push'];exact Nat.ne_of_lt (Nat.lt_succ_self _)
   have hn:S≠(s.heap.push { cls:=.type "tuple",data:=.seq (pl.map fun (j:Nat)=>rawInt j).toArray }).objs.size:=by rw [size_push'];exact Nat.ne_of_lt (Nat.lt_succ_of_lt hSlt)
   have hperm2:(pl.map fun j=>(es[j]?).getD (0,Value.none)).Perm es.toList:=by
    refine (hp.map _).trans ?_
    have:(List.range es.size).map (fun j=>(es[j]?).getD (0,Value.none))=es.toList:=by
     apply List.ext_getElem
     ·simp
     ·intro i h1 h2;simp at h1 ⊢;simp [h1]
    rw [this]
   obtain ⟨ys,y1,y2,y3⟩:=look _ hperm2
   have W:=iM (prog:=prog) (w:=w) (A:=B) (I:=(s.heap.push { cls:=.type "tuple",data:=.seq (pl.map fun (j:Nat)=>rawInt j).toArray }).objs.size) (S:=S) (es:=es) (ep:=ep) (t:=t) hh hn hf s.heap.objs.size hIT ((pl.map fun j=>(es[j]?).getD (0,Value.none)).map (·.2)) (by simp [hpll]) (fun _=>.ref s.heap.objs.size) (fun h=>h.IsTuple s.heap.objs.size (pl.map fun (j:Nat)=>rawInt j).toArray) (fun h h' ⟨o,ho,r⟩ k=>⟨o,k _ ho,r⟩)
    (fun s' i E Q _ hside hit ho' k1 k2=>yd hit ho' hf hh hside (fun j e ej ee h' hit' hs=>k1 _ (by rw [List.getElem?_map,List.getElem?_map,ej];simp [ee]) h' hit' hs) hpl2 (fun e=>k2 (by rw [List.getElem?_map,List.getElem?_map,e];rfl)))
   refine wpAny_pure ⟨_,rfl,"set_iterator",_,⟨_,Heap.get?_push_size _ rfl,rfl⟩,SI.slot_next.lookup,?_⟩
   refine h _ _ _ _ _ ys _ d' W y1 y2.symm y3 (by rw [size_push'];exact Nat.le_succ _) (fun b hb=>?_) ⟨Nat.zero_le _,⟨_,Heap.get?_push_size _ rfl,rfl,rfl⟩,Heap.get?_push_of_some _ ho1,⟨_,Heap.get?_push_of_some _ (Heap.get?_push_size _ rfl),rfl,_,rfl⟩⟩ fun b o e=>Heap.get?_push_of_some _ (Heap.get?_push_of_some _ e)
   rw [size_push'] at hb
   simp only [List.mem_cons,List.not_mem_nil,or_false] at hb
   rcases hb with rfl|rfl|rfl
   ·exact .inr (Nat.le_succ _)
   ·exact .inl rfl
   ·exact .inr (Nat.le_refl _)
  ·have e1:(!false&&(!t.plain&&decide (es.size > 1)))=false:=by rw [decide_eq_false hsz];simp
   rw [e1]
   simp only [Bool.false_eq_true,↓reduceIte]
   refine wpAny_bind (wpAny_pure ?_)
   refine wpAny_bind (wpAny_bind (wpAny_setState_of ho rfl hf (wpAny_pure ?_)))
   refine wpAny_bind (wpAny_newObj_type ?_)
   have hn:S≠s.heap.objs.size:=Nat.ne_of_lt hSlt
   have hld:t.led=true:=by rw [hled];show (!w.params.followText "set-order")=true;rw [hw];rfl
   obtain ⟨ys,y1,y2,y3⟩:=look es.toList (.refl _)
   have hps:t.place.size=es.size:=by
    unfold SetTable.fits at hf
    simp only [Bool.and_eq_true,beq_iff_eq] at hf
    exact hf.1
   have W:=iM (prog:=prog) (w:=w) (A:=B) (I:=s.heap.objs.size) (S:=S) (es:=es) (ep:=ep) (t:=t) hh hn hf S hn (es.toList.map (·.2)) (by simp) (fun i=>rawInt ((if i=0 then 0 else (t.place[0]?).getD 0+1:Nat):Nat)) (fun _=>True) (fun _ _ _ _=>trivial)
    (fun s' i E Q hi _ hit ho' k1 k2=>sO (slot:=if i=0 then 0 else (t.place[0]?).getD 0+1) hit ho' hf hh (fun B E' Q' q=>mU hw ho' hf hld (by omega) q) (fun x nx e h' hit' hs=>by
     rw [mV es t.place i (by omega) hps hi,Option.map_eq_some_iff] at e
     obtain ⟨p,e1,e2⟩:=e
     cases e2
     refine k1 _ (by rw [List.getElem?_map,Array.getElem?_toList,e1];rfl) h' ?_ hs
     rw [if_neg (Nat.succ_ne_zero i)]
     exact hit') (fun e=>by
     rw [mV es t.place i (by omega) hps hi,Option.map_eq_none_iff] at e
     exact k2 (by rw [List.getElem?_map,Array.getElem?_toList,e];rfl)))
   refine wpAny_pure ⟨_,rfl,"set_iterator",_,⟨_,Heap.get?_push_size _ rfl,rfl⟩,SI.slot_next.lookup,?_⟩
   exact h _ _ _ _ _ ys _ s.drawn W y1 y2.symm y3 (Nat.le_refl _) (fun b hb=>by
    simp only [List.mem_cons,List.not_mem_nil,or_false] at hb
    rcases hb with rfl|rfl|rfl
    ·exact .inr (Nat.le_refl _)
    ·exact .inl rfl
    ·exact .inl rfl) ⟨Nat.zero_le _,⟨_,Heap.get?_push_size _ rfl,rfl,rfl⟩,Heap.get?_push_of_some _ ho,trivial⟩ fun b o e=>Heap.get?_push_of_some _ e
end
end L2
namespace L2
open PySem PySem.Spec PyProof.Rows
theorem mW:typeLookup (.type "set") "__len__"=pure (some (.builtin "set.__len__")):=by rw [typeLookup_type,builtinLookup_eq_fast];kernel_rfl
section
variable {prog : Program} {w : World} {A : Around} {E : Value → Shared → Prop} {s : Shared}
theorem iN:∀ {vs:List Value}{ys:List Str},vs.length=ys.length→(∀ (i:Nat) (v:Value),vs[i]?=some v→∃ x t,ys[i]?=some x∧v=.str x t)→StrsAre vs ys
 |[],[],_,_=>.nil
 |[],_::_,h,_=>by simp at h
 |_::_,[],h,_=>by simp at h
 |v::vs,y::ys,h,k=>by
  obtain ⟨x,t,e1,e2⟩:=k 0 v rfl
  cases e1
  subst e2
  exact .cons y t (iN (by simpa using h) fun i w hw=>k (i+1) w hw)
theorem mX {S:Addr}{D:List Str}{Q:List Value→Shared→Prop} (hh:A.handled=none) (hS:dz prog w s.heap S (cu w) D) (hn:D.length≤sizeLine)
  (hQ:∀ (vs:List Value) (ys:List Str) (h':Heap) (d':Drawn) (tk:Nat),ys.Perm D→StrsAre vs ys→s.heap.objs.size≤h'.objs.size→s.toks≤tk→(∀ b o,s.heap.get? b=some o→h'.get? b=some o)→Q vs { s with heap:=h',drawn:=d',toks:=tk }) :
  wpAny (model prog w) A (collect (.ref S)) Q E s:=by
 obtain ⟨L,es,ep,t,ho,rest⟩:=id hS
 have hSlt:S<s.heap.objs.size:=Heap.lt_size ho
 unfold collect
 refine wpAny_bind (wpAny_runValue (codeAny_builtin PySem.F.entry_proto_collect ?_))
 rw [Around.under_plainId PySem.F.plain_proto_collect _]
 show wpAny _ A.in1 (newList [] >>= fun l=>again (.builtin "list.__iadd__" ⟨[l,.ref S],[]⟩)) _ _ s
 refine wpAny_bind (wpAny_newObj_type ?_)
 refine wpAny_pure ⟨plainId_quiet PySem.F.plain_list_iadd _,codeAny_builtin PySem.F.entry_list_iadd ?_⟩
 rw [Around.under_plainId PySem.F.plain_list_iadd _]
 have ho1:(s.heap.push { cls:=.type "list",data:=.seq ([]:List Value).toArray }).get? S=some { cls:=.type "set",dict:=none,data:=.set es ep t }:=Heap.get?_push_of_some _ ho
 have hT:Shared.TypeIs { s with heap:=s.heap.push { cls:=.type "list",data:=.seq ([]:List Value).toArray } } (.ref S) "set":=⟨_,ho1,rfl⟩
 show wpAny _ A.in1 (Builtin.List.listExtendWith (.ref s.heap.objs.size) (.ref S) (.ref s.heap.objs.size)) _ _ _
 unfold Builtin.List.listExtendWith
 refine wpAny_bind (wpAny_typeOf hT ?_)
 have hne:s.heap.objs.size≠S:=Nat.ne_of_gt hSlt
 have h1:Builtin.List.listSameRef (.ref s.heap.objs.size) (.ref S)=false:=by simp [Builtin.List.listSameRef,hne]
 have h2:(Value.type "set"==Value.type "list")=false:=by decide
 have h3:(Value.type "set"==Value.type "tuple")=false:=by decide
 simp only [h1,h2,h3,Bool.or_false,Bool.false_eq_true,if_false]
 refine wpAny_bind (sP (B:=A.in1) (by simpa using hh) ⟨L,es,ep,t,ho1,rest⟩ ?_)
 intro I fp n P St ys h' d' W hp hny hP hI hfp hst hk
 have hT':Shared.TypeIs { s with heap:=h',drawn:=d' } (.ref S) "set":=⟨_,hk _ _ ho1,rfl⟩
 refine wpAny_bind (wpAny_holding ?_)
 unfold Builtin.List.listLengthHint
 refine wpAny_bind (wpAny_specialOf hT' mW ?_)
 have hsp:splitId "set.__len__"=some ("set","__len__"):=by decide +kernel
 dsimp only
 rw [hsp]
 dsimp only
 refine wpAny_bind (wpAny_isInstance hT' sub_set_self ?_)
 rw [if_neg (by decide)]
 rw [if_pos (by decide +kernel)]
 refine wpAny_bind (wpAny_typeOf hT' ?_)
 refine wpAny_pure ?_
 rw [if_pos (by decide +kernel)]
 have hSf:s.heap.objs.size∉fp:=fun hm=>by
  rcases hfp _ hm with z|z
  ·exact hne z
  ·rw [size_push'] at z;exact absurd z (Nat.not_succ_le_self _)
 have hS1:h'.get? s.heap.objs.size=some { cls:=.type "list",data:=.seq ([]:List Value).toArray }:=hk _ _ (Heap.get?_push_size _ rfl)
 refine wpAny_bind (wpAny_rule ?_)
 refine wpAny_bind ?_
 show wpAny _ A.in1 (updateSeq s.heap.objs.size (·.push .none) >>= fun _=>updateSeq s.heap.objs.size (·.pop)) _ _ _
 refine wpAny_bind (wpAny_updateSeq hS1 rfl ?_)
 have hS2:=Heap.get?_update_self (Obj.mapSeq (·.push Value.none)) hS1 rfl
 refine wpAny_updateSeq hS2 rfl ?_
 have hS3:=Heap.get?_update_self (Obj.mapSeq (·.pop)) hS2 rfl
 have oth:∀ b o,b≠s.heap.objs.size→h'.get? b=some o→((h'.update s.heap.objs.size (Obj.mapSeq (·.push Value.none))).update s.heap.objs.size (Obj.mapSeq (·.pop))).get? b=some o :=
  fun b o hb e=>(Heap.get?_update_other _ _ (Ne.symm hb)).trans ((Heap.get?_update_other _ _ (Ne.symm hb)).trans e)
 refine wpAny_pure ⟨plainId_quiet PySem.F.plain_extend_loop _,codeAny_extend_loopS W.toS (by rw [hny,hp.length_eq];exact hn) _ hSf _ n 0 _ _ _ rfl (Nat.zero_le _) (W.frame 0 h' _ hst fun b hb o e=>oth b o (fun z=>hSf (z ▸ hb)) e) hS3 (ItemsOf.nil P) fun s' acc' c' hm hS' hacc=>?_⟩
 show wpAny _ A (load s.heap.objs.size >>= _) _ _ s'
 refine wpAny_bind (wpAny_load hS' ?_)
 obtain ⟨h2',g2,d2,tk2,os2⟩:=s'
 have eg:g2=s.gens:=hm.gens
 have ed:d2=d':=hm.drawn
 have eo:os2=s.os:=hm.os
 subst eg;subst ed;subst eo
 refine wpAny_pure (hQ _ ys h2' d2 tk2 hp (iN (by rw [Array.length_toList,hacc.1,hny]) fun i v hv=>hP i v (hacc.2 i v (by rwa [Array.getElem?_toList] at hv))) (Nat.le_of_lt (Heap.lt_size hS')) hm.toks fun b o e=>?_)
 have hb0:b≠s.heap.objs.size:=fun z=>by rw [z] at e;exact absurd (Heap.lt_size e) (Nat.lt_irrefl _)
 refine hm.heap b o (fun z=>?_) (oth b o hb0 (hk _ _ (Heap.get?_push_of_some _ e)))
 rcases List.mem_cons.mp z with z|z
 ·exact hb0 z
 ·rw [List.mem_singleton.mp z] at e
  have:=Heap.lt_size e
  rw [size_push'] at hI
  exact absurd (Nat.lt_of_lt_of_le this (Nat.le_trans (Nat.le_succ _) hI)) (Nat.lt_irrefl _)
end
end L2
namespace L2
open PySem PySem.Spec PyProof.Rows
section
variable {X : Cx} {pins : List (Addr × Obj)} {σ : List (Option V)} {H : Hp} {s : Shared}
theorem Inv.drawn (I:Inv X pins σ H s) (d:Drawn):Inv X pins σ H { s with drawn:=d }:=⟨I.ok,I.os,I.bare,I.base,I.loc,I.cell,I.free,I.freeC,I.pin,I.hok,I.len⟩
theorem fO {p:Addr}{ys:List Str}{Q:Value→Shared→Prop} (hc:X.calm=true) (I:Inv X pins σ H s) (hq:SqL X.K H p (ys.map V.str)∨SqT X.K H p (ys.map V.str)) (hb:ys.length+1<scanBound)
  (h:∀ (S:Addr) (h':Heap) (tk:Nat),dz X.prog X.w h' S (cu X.w) (aE ys)→Inv X pins σ H { s with heap:=h',toks:=tk }→Q (.ref S) { s with heap:=h',toks:=tk }) :
  wpAny (model X.prog X.w) X.A (call (.type "set") [.ref p]) Q X.xe s:=by
 have hh:X.A.handled=none:=I.ok.hd hc
 rcases hq with hq|hq
 ·obtain ⟨its,rv,pl,hz⟩:=I.list hq
  exact iK hh pl.isList (cJ rv) hb fun h' tk hS k=>h _ h' tk hS (I.kept fun b o e=>k b o (Heap.lt_size e) e)
 ·obtain ⟨its,rv,pl,hz⟩:=I.tuple hq
  exact jC hh pl (cJ rv) hb fun h' tk hS k=>h _ h' tk hS (I.kept fun b o e=>k b o (Heap.lt_size e) e)
theorem jD {S:Addr}{D:List Str}{Q:VK} (hc:X.calm=true) (I:Inv X pins σ H s) (hS:dz X.prog X.w s.heap S (cu X.w) D) (h64:D.length<64)
  (q:∀ p,H p=none→Q (.ref p) (upd H p (.lst ((aO D).map V.str)))):wpAny (model X.prog X.w) X.A (call (.builtin "sorted") [.ref S]) (EP X pins σ Q) X.xe s:=by
 have hh:X.A.handled=none:=I.ok.hd hc
 have hl:D.length≤sizeLine:=Nat.le_of_lt (Nat.lt_of_lt_of_le h64 (by decide))
 refine fe (mX (A:=X.A.in1) (by simpa using hh) hS hl fun vs ys h' d' tk hp hv hsz htk hk=>⟨ys,hv,by rw [fN hv,hp.length_eq];exact h64,fun h2 vs' e k2 at2 s2=>?_⟩)
 rw [gL hp] at s2
 have I1:Inv X pins σ H { s with heap:=h',toks:=tk }:=I.kept (t':=tk) hk
 have I2:Inv X pins σ H { s with heap:=h',drawn:=d',toks:=tk }:=I1.drawn d'
 exact ⟨.ref h'.objs.size,_,I2.laid (t':=tk) (o:=.lst ((aO D).map V.str)) k2 (Nat.le_refl _) ⟨by rw [List.length_map,fK];exact hl,vs',e,dy s2,at2⟩,rfl,q _ (I2.hok.fresh (Nat.le_refl _))⟩
theorem oI {S:Addr}{D:List Str}{Q:VK} (I:Inv X pins σ H s) (hS:dz X.prog X.w s.heap S (cu X.w) D)
  (q:Q (.int D.length) H):wpAny (model X.prog X.w) X.A (call (.builtin "len") [.ref S]) (EP X pins σ Q) X.xe s:=by
 obtain ⟨L,es,ep,t,ho,hes,hperm,hnd,hf,hb,hled,hpl⟩:=hS
 have hlen:es.size=D.length:=by rw [←Array.length_toList,hes,List.length_map,←List.length_map (f:=Prod.fst) (as:=L),hperm.length_eq]
 have hb':es.size<4096:=hb
 refine call_len_set ho ⟨rfl,rfl,rfl⟩ rfl hf (by omega) ?_
 exact ⟨.int es.size,_,I.kept (t':=s.toks+1+1) (fun _ _ e=>e),⟨_,rfl⟩,by rw [hlen];exact q⟩
end
end L2
namespace L2
open PySem PySem.Spec PyProof.Rows
section
variable {prog : Program} {w : World} {A : Around} {E : Value → Shared → Prop} {s : Shared}
theorem fP {it l:Addr}{i:Nat}{items}{x:Value}{Q:Value→Shared→Prop} (hit:s.heap.IsTupleIter it l i)
  (hl:s.heap.IsTuple l items) (hx:items[i]?=some x)
  (hQ:∀ h',h'.IsTupleIter it l (i+1)→Heap.SameBut it s.heap h'→Q x { s with heap:=h' }) :
  wpAny (model prog w) A (Builtin.SmallTypes.nextOf (.ref it)) Q E s:=by
 obtain ⟨o,ho,hc,hd⟩:=id hit
 obtain ⟨ol,hol,_,nl,hdl⟩:=hl
 unfold Builtin.SmallTypes.nextOf
 refine wpAny_bind (wpAny_callSpecial?_slot (name:=Str.ofString "__next__") hit.typeIs PySem.F.slot_tuple_iterator_next
  (wpAny_call_entry PySem.F.slot_tuple_iterator_next hit.typeIs PySem.F.entry_tuple_iterator_next ?_ (PySem.F.args_tuple_iterator_next_1 _)))
 show wpAny _ _ (field (.ref it) 0 >>= _) _ _ s
 refine wpAny_bind (wpAny_field ho hd (x:=.ref l) rfl ?_)
 show wpAny _ _ (if (Value.ref l==Value.none)=true then _ else _) _ _ s
 rw [if_neg (show ¬ ((Value.ref l==Value.none)=true) from Bool.false_ne_true)]
 show wpAny _ _ (field (.ref it) 1 >>= _) _ _ s
 refine wpAny_bind (wpAny_field ho hd (x:=.int i 0) rfl ?_)
 show wpAny _ _ (seqItems? (.ref l) >>= _) _ _ s
 refine wpAny_bind (wpAny_seqItems hol hdl ?_)
 simp only [Int.toNat_natCast,hx]
 refine wpAny_bind (wpAny_setField ho hd (by simp) (wpAny_pure ⟨x,rfl,wpAny_pure (hQ _ ?_ (Heap.SameBut.update ..))⟩))
 exact ⟨_,Heap.get?_update_self _ ho (Obj.isFreed_of_fields (Obj.data_mapFields hd _)),(Obj.cls_mapFields ..).trans hc,by
  rw [Obj.data_mapFields hd];simp [rawInt]⟩
theorem di {it l:Addr}{i:Nat}{items}{Q:Value→Shared→Prop} (hh:A.handled=none)
  (hit:s.heap.IsTupleIter it l i) (hl:s.heap.IsTuple l items) (hx:items[i]?=none)
  (hE:∀ h' e,Heap.ExtBut it s.heap h'→(∃ o,h'.get? e=some o∧o.cls=.type "StopIteration")→E (.ref e) { s with heap:=h' }) :
  wpAny (model prog w) A (Builtin.SmallTypes.nextOf (.ref it)) Q E s:=by
 obtain ⟨o,ho,hc,hd⟩:=id hit
 obtain ⟨ol,hol,_,nl,hdl⟩:=hl
 unfold Builtin.SmallTypes.nextOf
 refine wpAny_bind (wpAny_callSpecial?_slot (name:=Str.ofString "__next__") hit.typeIs PySem.F.slot_tuple_iterator_next
  (wpAny_call_entry PySem.F.slot_tuple_iterator_next hit.typeIs PySem.F.entry_tuple_iterator_next ?_ (PySem.F.args_tuple_iterator_next_1 _)))
 show wpAny _ _ (field (.ref it) 0 >>= _) _ _ s
 refine wpAny_bind (wpAny_field ho hd (x:=.ref l) rfl ?_)
 show wpAny _ _ (if (Value.ref l==Value.none)=true then _ else _) _ _ s
 rw [if_neg (show ¬ ((Value.ref l==Value.none)=true) from Bool.false_ne_true)]
 show wpAny _ _ (field (.ref it) 1 >>= _) _ _ s
 refine wpAny_bind (wpAny_field ho hd (x:=.int i 0) rfl ?_)
 show wpAny _ _ (seqItems? (.ref l) >>= _) _ _ s
 refine wpAny_bind (wpAny_seqItems hol hdl ?_)
 simp only [Int.toNat_natCast,hx]
 refine wpAny_bind (wpAny_rule (wpAny_bind (wpAny_setField ho hd (by simp) ?_)))
 show wpAny _ _ (newExc (.type "StopIteration") [] >>= _) _ _ _
 refine wpAny_bind ?_
 simp only [newExc,newTuple]
 refine wpAny_bind (wpAny_newObj_type ?_ (by size_fits))
 refine wpAny_bind (m:=firstArgMember _ _) (wpAny_of_eq (a:=Value.none) (by first|rfl|(simp only [firstArgMember];rfl)) ?_)
 refine wpAny_newObj_type ?_ (by size_fits)
 simp only [raiseNew]
 refine wpAny_bind (wpAny_handled ?_)
 first|rw [show A.in1.handled=none from hh]|rw [hh]
 refine wpAny_bind (wpAny_pure (wpAny_throw ?_))
 exact hE _ _ (((Heap.SameBut.update ..).extBut.push _).push _) ⟨_,Heap.get?_push_size _ rfl,rfl⟩
end
theorem mY {prog:Program}{w:World}{A:Around} (hh:A.handled=none) (it l:Addr) (hne:l≠it) (items:Array Value) :
  Draws prog w A it [it,l] items.size (fun i v=>items[i]?=some v) (fun i h=>h.IsTupleIter it l i∧h.IsTuple l items) where
 live:=fun _ _ st=>let ⟨o,ho,_⟩:=st.1;⟨o,ho⟩
 frame:=fun _ _ _ st hk=>⟨st.1.at fun o e=>hk it (by simp) o e,let ⟨o,ho,r⟩:=st.2;⟨o,hk l (by simp) o ho,r⟩⟩
 item:=fun i s Q E hi st hQ=>by
  refine fP st.1 st.2 (x:=items[i]) (by simp [hi]) fun h' hit' hs'=>?_
  exact hQ _ h' s.toks (by simp [hi]) ⟨hit',let ⟨o,ho,r⟩:=st.2;⟨o,(hs'.2 l hne).trans ho,r⟩⟩ hs'
 done:=fun s Q E st hE=>di hh st.1 st.2 (by simp) hE
open AutoSeq1 (wpAny_loadPart') in
theorem iO (l:Addr) (items:Array Value) (n:Nat) (dct:Option Addr) (sl:Array (Option Value)) :
  Meets (Builtin.«enumerate.__new__» ⟨[.type "enumerate",.ref l],[]⟩) (fun _ R s=>s.heap.get? l=some { cls:=.type "tuple",dict:=dct,data:=.seq items n,slots:=sl } ∧
   R (.ok (.ret (.ref (s.heap.push { cls:=.type "tuple_iterator",data:=.fields #[.ref l,.int 0 0] }).objs.size)))
    { s with heap:=(s.heap.push { cls:=.type "tuple_iterator",data:=.fields #[.ref l,.int 0 0] }).push { cls:=.type "enumerate",data:=.fields #[.none,.bool false,.ref s.heap.objs.size,rawInt 0,.none,.none] } }) :=
 .of_wp fun prog w A R s h=>by
  obtain ⟨hp,g,d,tk,os⟩:=s;obtain ⟨hl,h⟩:=h
  have hsub:=sub_enumerate
  have hL:Heap.IsTuple (Shared.heap ⟨hp,g,d,tk,os⟩) l items:=⟨_,hl,rfl,n,rfl⟩
  wp_walk using wpAny_loadPart' hl
  refine wpAny_stack_any fun st=>wpAny_pure ?_
  split
  ·rename_i c _ _ _ _ _
   cases (c==Value.type "enumerate")
   ·wp_walk using wpAny_loadPart' hl,wpAny_pyIter_tuple hL
    exact ⟨_,rfl,h⟩
   ·wp_walk using wpAny_loadPart' hl,wpAny_pyIter_tuple hL
    exact ⟨_,rfl,h⟩
  ·wp_walk using wpAny_loadPart' hl,wpAny_pyIter_tuple hL
   exact ⟨_,rfl,h⟩
section
variable {prog : Program} {w : World} {A : Around} {E : Value → Shared → Prop} {s : Shared}
theorem d4 {l:Addr}{items:Array Value}{Q:Value→Shared→Prop} (hL:s.heap.IsTuple l items)
  (h:∀ h',IsEnum h' (s.heap.objs.size+1) s.heap.objs.size 0 .none→h'.IsTupleIter s.heap.objs.size l 0→h'.objs.size=s.heap.objs.size+2 →
   (∀ b o,s.heap.get? b=some o→h'.get? b=some o)→Q (.ref (s.heap.objs.size+1)) { s with heap:=h' }) :
  wpAny (model prog w) A (call (.type "enumerate") [.ref l]) Q E s:=by
 obtain ⟨⟨c,dct,dt,sl⟩,hl,hc,n,hd⟩:=hL
 replace hc:c=.type "tuple":=hc
 replace hd:dt=.seq items n:=hd
 subst hc hd
 refine callType_new PySem.F.called_enumerate (by decide) (PySem.F.typeCall_enumerate_1 _) (PySem.F.newCall_enumerate_1 _) (fun obj=>PySem.F.args_object_init_2 obj _) PySem.F.entry_enumerate_new
  (iO l items n dct sl) ⟨hl,?_⟩
 have hz:(s.heap.push { cls:=.type "tuple_iterator",data:=.fields #[.ref l,.int 0 0] }).objs.size=s.heap.objs.size+1:=Heap.size_push ..
 show _∧_
 rw [hz]
 have he:IsEnum ((s.heap.push { cls:=.type "tuple_iterator",data:=.fields #[.ref l,.int 0 0] }).push
   { cls:=.type "enumerate",data:=.fields #[.none,.bool false,.ref s.heap.objs.size,rawInt 0,.none,.none] }) (s.heap.objs.size+1) s.heap.objs.size 0 .none:=by
  have:=Heap.get?_push_size (s.heap.push { cls:=.type "tuple_iterator",data:=.fields #[.ref l,.int 0 0] })
   (o:={ cls:=.type "enumerate",data:=.fields #[.none,.bool false,.ref s.heap.objs.size,rawInt 0,.none,.none] }) rfl
  rw [hz] at this;exact this
 refine ⟨⟨_,he,rfl⟩,h _ he ⟨_,Heap.get?_push_of_some _ (Heap.get?_push_size _ rfl),rfl,rfl⟩ (by rw [Heap.size_push,hz]) fun b o x=>Heap.get?_push_of_some _ (Heap.get?_push_of_some _ x)⟩
end
end L2
namespace L2
open PySem PySem.Spec PyProof.Rows
section
variable {X : Cx} {pins : List (Addr × Obj)} {σ : List (Option V)} {H : Hp} {s : Shared} {h' : Heap}
theorem Inv.pZ {t':Nat}{ch:List Addr} (I:Inv X pins σ H s) (hf:∀ b∈ch,fB X pins H b) (k:∀ b o,b∉ch→s.heap.get? b=some o→h'.get? b=some o):Inv X pins σ H { s with heap:=h',toks:=t' }:=by
 have nit:∀ b u,H b=some u→b∉ch:=fun b u e z=>by rw [(hf b z).1] at e;cases e
 refine I.step (g':=s.gens) (d':=s.drawn) (ch:=ch) (fun b hb=>?_) (fun b o _ _ hc e _=>k b o hc e) (fun b o _ _ hc e _=>⟨o.slots,k b o hc e⟩) (fun _ _ _ _ n=>n)
  (fun b o hc e=>⟨o,k b o hc e⟩) (fun _ _ e=>e) (fun _ _ _ e=>e) (fun b ps e=>⟨#[],by rw [e];simp⟩) (fun m hm=>?_) (fun b u e=>?_) I.bare
 ·obtain ⟨f0,f1,f2,f3,f4,f5⟩:=hf b hb
  exact ⟨f3,f1,f4,f5⟩
 ·obtain ⟨o,es,ep,ho,r⟩:=hm
  exact ⟨o,es,ep,k _ o (fun z=>(hf _ z).2.1 rfl) ho,r⟩
 ·refine (I.hok b u e).kH (fun c v hc q=>k c v ?_ q) (fun _ q=>q) fun _ _ q=>q
  rcases hc with z|z
  ·rw [z];exact nit b u e
  ·exact nit c _ z
theorem Inv.oJ {t':Nat}{ch:List Addr}{T:Addr}{o:HO} (I:Inv X pins σ H s) (hf:∀ b∈ch,fB X pins H b) (k:∀ b o,b∉ch→s.heap.get? b=some o→h'.get? b=some o) (hT:s.heap.objs.size≤T) (new:bG X.prog X.w (upd H T o) h' T o) :
  Inv X pins σ (upd H T o) { s with heap:=h',toks:=t' }:=by
 have I1:Inv X pins σ H { s with heap:=h',toks:=t' }:=I.pZ hf k
 have hn:H T=none:=I.hok.fresh hT
 have nT:∀ b o,s.heap.get? b=some o→b≠T:=fun b o e z=>by rw [z] at e;exact absurd (Nat.lt_of_lt_of_le (Heap.lt_size e) hT) (Nat.lt_irrefl _)
 have nH:∀ b u,H b=some u→b≠T:=fun b u e z=>by rw [z,hn] at e;cases e
 refine I.step (g':=s.gens) (d':=s.drawn) (ch:=ch) (fun b hb=>?_) (fun b o _ _ hc e _=>k b o hc e) (fun b o _ _ hc e _=>⟨o.slots,k b o hc e⟩) (fun b o _ e n=>by rw [ai (nT b o e)];exact n)
  (fun b o hc e=>⟨o,k b o hc e⟩) (fun b _ e=>by rw [ai (nH b _ e)];exact e) (fun b _ _ e=>by rw [ai (nH b _ e)];exact e) (fun b ps e=>⟨#[],by rw [ai (nH b _ e),e];simp⟩) (fun m hm=>?_) (fun b u e=>?_) I.bare
 ·obtain ⟨f0,f1,f2,f3,f4,f5⟩:=hf b hb
  exact ⟨f3,f1,f4,f5⟩
 ·obtain ⟨o,es,ep,ho,r⟩:=hm
  exact ⟨o,es,ep,k _ o (fun z=>(hf _ z).2.1 rfl) ho,r⟩
 ·by_cases hb:b=T
  ·subst hb;rw [aq] at e;cases e;exact new
  ·rw [ai hb] at e
   exact (I1.hok b u e).kH (fun c v _ q=>q) (fun c q=>by rw [ai (nH c _ q)];exact q) fun c xs q=>by rw [ai (nH c _ q)];exact q
end
noncomputable def Ite (Sq:Hp→List V→Prop):It :=
 ⟨fun i H=>∃ xs x,Sq H xs∧xs[i]?=some x,fun i H x H'=>∃ p,H p=none∧x=.ref p∧∀ xs v,Sq H xs→xs[i]?=some v→H'=upd H p (.tup [.int i,v]),fun i H=>∃ xs,Sq H xs∧xs.length≤i⟩
theorem jZ {P:Program}{w:World}{K:PySem.W.Frag}{es:List Expr}{kx}{ps:Pos} (Sq:Hp→List V→Prop) (a e it:Addr) (hei:e≠it) (At:Nat→Heap→Prop) (Is:Heap→Array Value→Prop)
  (hat:∀ i h h',At i h→(∀ o,h.get? it=some o→h'.get? it=some o)→At i h') (hao:∀ i h,At i h→∃ o,h.get? it=some o∧∀ v,o.data≠.cell v)
  (hsq:∀ (X:Cx) (pins:List (Addr×Obj)) (s:Shared) (σ:St) (H:Hp) (xs:List V),X.K=K→Inv X pins σ H s→Sq H xs→∃ its:List Value,Vals xs its∧Is s.heap its.toArray)
  (hinj:∀ (X:Cx) (pins:List (Addr×Obj)) (s:Shared) (σ:St) (H:Hp) (xs ys:List V),X.K=K→Inv X pins σ H s→Sq H xs→Sq H ys→xs=ys)
  (hea:∀ h items i old,Is h items→IsEnum h e it i old→e≠a)
  (hD:∀ (A:Around) (items:Array Value),A.handled=none→Draws P w A it [it,a] items.size (fun i v=>items[i]?=some v) (fun i h=>At i h∧Is h items))
  (hend:∀ (A:Around) (s:Shared) (i:Nat) (items:Array Value) (Q:Value→Shared→Prop) (E:Value→Shared→Prop),A.handled=none→At i s.heap→Is s.heap items→items[i]?=none →
   (∀ h' x,Heap.ExtBut it s.heap h'→(∃ o,h'.get? x=some o∧o.cls=.type "StopIteration")→E (.ref x) { s with heap:=h' })→wpAny (model P w) A (Builtin.SmallTypes.nextOf (.ref it)) Q E s) :
  Turn P w K (.Tuple es kx ps) (Ite Sq) [e,it] e (fun i h=>(∃ old,IsEnum h e it i old)∧At i h) where
 mem:=by simp
 obj:=fun i h st b hb=>by
  obtain ⟨⟨old,he⟩,hl⟩:=st
  rcases List.mem_cons.mp hb with z|z
  ·rw [z];exact ⟨_,he,fun v z=>by
    have z':Data.fields _=Data.cell v:=z
    cases z'⟩
  ·rw [List.mem_singleton.mp z];exact hao i h hl
 keep:=fun i h h' ⟨⟨old,he⟩,hl⟩ k=>⟨⟨old,k e (by simp) _ he⟩,hat i h h' hl fun o q=>k it (by simp) o q⟩
 item:=by
  intro X hP hw hK hc i pins s σ H E I hf ⟨⟨old,he⟩,hl⟩ hg
  subst hP hw
  obtain ⟨xs,x,hq,hx⟩:=hg
  obtain ⟨its,rv,p⟩:=hsq X pins s σ H xs hK I hq
  obtain ⟨u,hu,ru⟩:=rv.get hx
  have hlt:i<its.toArray.size:=by simpa using (List.getElem?_eq_some_iff.mp hu).1
  have D:=hD X.A.in1 its.toArray (by simpa using I.ok.hd hc)
  have hea':=hea _ _ _ _ p he
  refine wpAny_pyNext_enum_itemD D he ⟨hl,p⟩ hlt hei (by simp [hei,hea']) fun y h1 tk hy ho st1 hT hsz hk=>?_
  have ey:y=u:=by
   have:its.toArray[i]?=some u:=by simpa using hu
   rw [this] at hy;cases hy;rfl
  subst ey
  refine ⟨_,rfl,wpAny_letOwnedTupleGo_enum (s:={ s with heap:=h1,toks:=tk+1 }) ho fun h2 he2 hs2=>?_⟩
  have heS:e<s.heap.objs.size:=Heap.lt_size he
  have hT2:h2.get? s.heap.objs.size=some { cls:=.type "tuple",data:=.seq #[.int i tk,y] }:=(hs2.2 _ (Nat.ne_of_gt heS)).trans hT
  have k2:∀ b o,b∉[e,it]→s.heap.get? b=some o→h2.get? b=some o:=fun b o hb q=>by
   simp only [List.mem_cons,List.not_mem_nil,or_false,not_or] at hb
   exact (hs2.2 b hb.1).trans (hk b o hb.1 hb.2 q)
  have I2:Inv X pins σ (upd H s.heap.objs.size (.tup [.int i,x])) { s with heap:=h2,toks:=tk+1 }:=I.oJ hf k2 (Nat.le_refl _)
   (show bG X.prog X.w _ h2 _ (.tup [.int i,x]) from ⟨by show 2≤sizeLine;decide,[.int i tk,y],.cons ⟨tk,rfl⟩ (.cons ru .nil),⟨_,hT2,rfl,_,rfl⟩⟩)
  refine ⟨.ref s.heap.objs.size,_,I2,rfl,⟨_,I.hok.fresh (Nat.le_refl _),rfl,fun ys v hy hv=>?_⟩,⟨⟨_,he2⟩,hat (i+1) h1 h2 st1.1 fun o q=>(hs2.2 it (Ne.symm hei)).trans q⟩,fun b hb=>?_⟩
  ·have:=hinj X pins s σ H ys xs hK I hy hq
   subst this
   rw [hx] at hv
   cases hv
   rfl
  ·have hb':b≠s.heap.objs.size:=by
    rcases List.mem_cons.mp hb with z|z
    ·rw [z];exact Nat.ne_of_lt heS
    ·rw [List.mem_singleton.mp z]
     obtain ⟨o,q,_⟩:=hao i _ hl
     exact Nat.ne_of_lt (Heap.lt_size q)
   rw [ai hb']
   exact (hf b hb).1
 done:=by
  intro X hP hw hK hc i pins s σ H E I hf ⟨⟨old,he⟩,hl⟩ hg
  subst hP hw
  obtain ⟨xs,hq,hx⟩:=hg
  obtain ⟨its,rv,p⟩:=hsq X pins s σ H xs hK I hq
  have hlen:=rv.length
  have hT:s.TypeIs (.ref e) "enumerate":=⟨_,he,rfl⟩
  unfold pyNext
  refine wpAny_bind (wpAny_attempt (wpAny_callSpecial?_slot (name:=Str.ofString "__next__") hT PySem.F.slot_enumerate_next
   (wpAny_call_entry PySem.F.slot_enumerate_next hT PySem.F.entry_enumerate_next ?_ (PySem.F.args_enumerate_next_1 _))))
  show wpAny _ _ (field (.ref e) 2 >>= _) _ _ _
  refine wpAny_bind (wpAny_field he rfl (x:=.ref it) rfl ?_)
  refine wpAny_bind (hend _ _ i its.toArray _ _ (by simpa using I.ok.hd hc) hl p (by simp;omega) fun h' x he' hx'=>?_)
  obtain ⟨o,ho,hcl⟩:=hx'
  refine wpAny_bind (wpAny_isInstance (T:="StopIteration") (b:=true) ⟨o,ho,hcl⟩ isSubtype_stop ?_)
  refine wpAny_pure ⟨rfl,I.pZ (t':=s.toks) (ch:=[it]) (fun b hb=>hf b (List.mem_cons_of_mem _ hb)) fun b o hb q=>he' b o (fun z=>hb (by simp [z])) q⟩
 self:=fun A i s Q E ⟨⟨old,he⟩,hl⟩ h=>wpAny_pyIter_enum he h
section
variable {X : Cx} {es : List Expr} {kx : Nat} {ps p pos : Pos}
theorem qW:bootBuiltins "enumerate"=some (.type "enumerate"):=by decide +kernel
noncomputable def A_ (K:PySem.W.Frag) (ta:TA):TI:=fun σ H R=>ta σ H fun vs H1=>∃ a,vs=[.ref a]∧((∃ xs,SqL K H1 a xs)∧R (Ite fun H xs=>SqL K H a xs) H1∨(∃ xs,SqT K H1 a xs)∧R (Ite fun H xs=>SqT K H a xs) H1)
theorem ye (a e it:Addr) (hei:e≠it) (hia:a≠it):Turn X.prog X.w X.K (.Tuple es kx ps) (Ite fun H xs=>SqL X.K H a xs) [e,it] e (fun i h=>(∃ old,IsEnum h e it i old)∧h.IsListIter it a i):=by
 refine jZ _ a e it hei (fun i h=>h.IsListIter it a i) (fun h items=>h.IsList a items) (fun i h h' x k=>x.at k) (fun i h ⟨o,ho,hc,hd⟩=>⟨o,ho,fun v z=>by rw [hd] at z;cases z⟩)
  (fun Y pins s σ H xs hK I hq=>?_) (fun Y pins s σ H xs ys hK I hx hy=>?_) (fun h items i old ⟨o,ho,hc,_⟩ he z=>?_) (fun A items hh=>Draws.list hh it a hia items) (fun A s i items Q E hh hl hp hx hE=>wpAny_nextOf_list_end hh hl hp hx hE)
 ·rw [←hK] at hq
  obtain ⟨its,rv,p,hz⟩:=I.list hq
  exact ⟨its,rv,p.isList⟩
 ·rw [←hK] at hx hy
  exact I.il hx hy
 ·rw [←z,he] at ho
  cases ho
  have hc':Value.type "enumerate"=Value.type "list":=hc
  exact absurd hc' (by decide)
theorem yf (a e it:Addr) (hei:e≠it) (hia:a≠it):Turn X.prog X.w X.K (.Tuple es kx ps) (Ite fun H xs=>SqT X.K H a xs) [e,it] e (fun i h=>(∃ old,IsEnum h e it i old)∧h.IsTupleIter it a i):=by
 refine jZ _ a e it hei (fun i h=>h.IsTupleIter it a i) (fun h items=>h.IsTuple a items) (fun i h h' x k=>x.at k) (fun i h ⟨o,ho,hc,hd⟩=>⟨o,ho,fun v z=>by rw [hd] at z;cases z⟩)
  (fun Y pins s σ H xs hK I hq=>?_) (fun Y pins s σ H xs ys hK I hx hy=>?_) (fun h items i old ⟨o,ho,hc,_⟩ he z=>?_) (fun A items hh=>mY hh it a hia items) (fun A s i items Q E hh hl hp hx hE=>di hh hl hp hx hE)
 ·rw [←hK] at hq
  obtain ⟨its,rv,p,hz⟩:=I.tuple hq
  exact ⟨its,rv,p⟩
 ·rw [←hK] at hx hy
  exact I.eE hx hy
 ·rw [←z,he] at ho
  cases ho
  have hc':Value.type "enumerate"=Value.type "tuple":=hc
  exact absurd hc' (by decide)
theorem vm {a:Expr}{ta:TA} (hg:Gl X "enumerate") (hm:X.mg "enumerate"=none) (ha:PA X [a] ta) (hs:starEach [a] X.env=[(false,eval a X.env)]):PI X (.Tuple es kx ps) (.Call (.Name "enumerate" p) [a] [] pos) (A_ X.K ta):=by
 intro pins s σ H R I h
 refine Call_ (dr I hg hm qW (PyProof.Rows.callWith_type1 (thn (ha pos pins s σ H _ I h) fun us s1 ⟨vs,H1,I1,r1,q1⟩=>?_) hs rfl))
 obtain ⟨a',e,q⟩:=q1
 subst e
 obtain ⟨u,rfl,r⟩:=vals1 r1
 cases r
 have ne1:s1.heap.objs.size+1≠s1.heap.objs.size:=Nat.succ_ne_self _
 have fin:∀ (h':Heap),(∀ b∈[s1.heap.objs.size+1,s1.heap.objs.size],fB X pins H1 b):=fun h' b hb=>by
  have hb':s1.heap.objs.size≤b:=by
   rcases List.mem_cons.mp hb with z|z
   ·rw [z];exact Nat.le_succ _
   ·rw [List.mem_singleton.mp z];exact Nat.le_refl _
  exact I1.uV hb' (I1.hok.fresh hb')
 rcases q with ⟨⟨xs,hq⟩,q⟩|⟨⟨xs,hq⟩,q⟩
 ·obtain ⟨its,rv,p,hz⟩:=I1.list hq
  have hlt:a'<s1.heap.objs.size:=let ⟨o,ho,_⟩:=p.isList;Heap.lt_size ho
  refine call_enumerate_list p.isList fun h' he hl hsz hk=>?_
  refine wpAny_pyIter_enum he ⟨_,[s1.heap.objs.size+1,s1.heap.objs.size],_,_,H1,rfl,I1.kept (t':=s1.toks) hk,ye a' _ _ ne1 (Nat.ne_of_lt hlt),⟨⟨_,he⟩,hl⟩,fin h',q⟩
 ·obtain ⟨its,rv,p,hz⟩:=I1.tuple hq
  have hlt:a'<s1.heap.objs.size:=let ⟨o,ho,_⟩:=p;Heap.lt_size ho
  refine d4 p fun h' he hl hsz hk=>?_
  refine wpAny_pyIter_enum he ⟨_,[s1.heap.objs.size+1,s1.heap.objs.size],_,_,H1,rfl,I1.kept (t':=s1.toks) hk,yf a' _ _ ne1 (Nat.ne_of_lt hlt),⟨⟨_,he⟩,hl⟩,fin h',q⟩
variable {pins : List (Addr × Obj)} {σ : List (Option V)} {H : Hp} {s : Shared}
end
end L2
namespace L2
open PySem PySem.Spec PyProof.Rows
theorem qX (l:Addr) (items:Array Value) (n:Nat) (b:Addr) (items2:Array Value) (n2:Nat) (dd:Option Addr) (sl:Array (Option Value)) (hs0:¬(!items.isEmpty&&Builtin.List.listTooLong (items.size+items2.size))=true) (hs1:items.size≤sizeLine) (hs2:items.size+items2.size≤sizeLine+1) :
  Meets (Builtin.«list.extend» ⟨[.ref l,.ref b],[]⟩) (fun _ R s=>s.heap.get? l=some { cls:=.type "list",dict:=none,data:=.seq items n,slots:=#[] }∧s.heap.get? b=some { cls:=.type "list",dict:=dd,data:=.seq items2 n2,slots:=sl }∧R (.ok (.ret Value.none)) { s with heap:=s.heap.update l (Obj.mapSeq fun x=>x++items2),toks:=s.toks }) :=
 .of_wp fun prog w A R s h=>by
  obtain ⟨hp,g,d,tk,os⟩:=s;obtain ⟨hl,hb,h⟩:=h;have f1:=AutoSeq1.idx_int;have f2:=AutoSeq1.sub_tuple_tuple;have f3:=AutoSeq1.sub_list_list;have f4:=AutoSeq1.sub_tuple_list;have f5:=AutoSeq1.sub_list_tuple;
  have hz':(items++items2).size≤sizeLine+1:=by rw [Array.size_append];exact hs2
  wp_walk using (wpAny_updateSeq hl rfl (hz:=hs1) (_hz':=hz')),AutoSeq1.wpAny_loadPart' hl,AutoSeq1.wpAny_loadPart' hb;exact ⟨_,rfl,h⟩
theorem qY (l:Addr) (items:Array Value) (n:Nat) (b:Addr) (items2:Array Value) (n2:Nat) (dd:Option Addr) (sl:Array (Option Value)) (hs0:¬(!items.isEmpty&&Builtin.List.listTooLong (items.size+items2.size))=true) (hs1:items.size≤sizeLine) (hs2:items.size+items2.size≤sizeLine+1) :
  Meets (Builtin.«list.extend» ⟨[.ref l,.ref b],[]⟩) (fun _ R s=>s.heap.get? l=some { cls:=.type "list",dict:=none,data:=.seq items n,slots:=#[] }∧s.heap.get? b=some { cls:=.type "tuple",dict:=dd,data:=.seq items2 n2,slots:=sl }∧R (.ok (.ret Value.none)) { s with heap:=s.heap.update l (Obj.mapSeq fun x=>x++items2),toks:=s.toks }) :=
 .of_wp fun prog w A R s h=>by
  obtain ⟨hp,g,d,tk,os⟩:=s;obtain ⟨hl,hb,h⟩:=h;have f1:=AutoSeq1.idx_int;have f2:=AutoSeq1.sub_tuple_tuple;have f3:=AutoSeq1.sub_list_list;have f4:=AutoSeq1.sub_tuple_list;have f5:=AutoSeq1.sub_list_tuple;
  have hz':(items++items2).size≤sizeLine+1:=by rw [Array.size_append];exact hs2
  wp_walk using (wpAny_updateSeq hl rfl (hz:=hs1) (_hz':=hz')),AutoSeq1.wpAny_loadPart' hl,AutoSeq1.wpAny_loadPart' hb;exact ⟨_,rfl,h⟩
section
variable {X : Cx} {pins : List (Addr × Obj)} {σ : List (Option V)} {H : Hp} {s : Shared}
theorem oK:MtM X "list.extend" (fun x vs H Q=>∃ l b xs zs,x=.ref l∧vs=[.ref b]∧H l=some (.lst xs)∧(SqL X.K H b zs∨SqT X.K H b zs)∧xs.length+zs.length≤sizeLine∧Q .non (upd H l (.lst (xs++zs)))):=by
 intro pins s σ H x vs v us Q I rx rv h
 obtain ⟨l,b,xs,zs,rfl,rfl,hH,hB,hz,q⟩:=h
 cases rx
 obtain ⟨u,rfl,ru⟩:=rv.one
 cases ru
 obtain ⟨z,its,n,r,hl,e⟩:=I.xU hH
 have fin:∀ its2:List Value,Vals zs its2→EP X pins σ Q Value.none { s with heap:=s.heap.update l (Obj.mapSeq fun x=>x++its2.toArray),toks:=s.toks }:=fun its2 r2=>by
  refine ⟨.non,_,I.jx (its':=its++its2) hH e (by simp) (r.append r2) ?_,rfl,q⟩
  rw [List.length_append]
  omega
 have sz:∀ its2:List Value,zs.length=its2.length→its.toArray.size+its2.toArray.size≤sizeLine:=fun its2 h=>by rw [List.size_toArray,List.size_toArray];omega
 have lg:∀ its2:List Value,zs.length=its2.length→¬ (!its.toArray.isEmpty&&Builtin.List.listTooLong (its.toArray.size+its2.toArray.size))=true:=fun its2 h=>by
  rw [sk (sz its2 h),Bool.and_false]
  exact Bool.false_ne_true
 rcases hB with hB|hB
 ·obtain ⟨its2,r2,pl,_⟩:=I.list hB
  obtain ⟨⟨cls,dd,data,sl⟩,ho,hc,n2,hd⟩:=pl.isList
  simp only at hc hd
  subst hc hd
  have hl2:=r2.length
  have h1:=sz its2 hl2
  exact call_meets F.slot_list_extend ⟨_,e,rfl⟩ F.entry_list_extend (F.args_list_extend_2 _ _) (qX l its.toArray n b its2.toArray n2 dd sl (lg its2 hl2) (by omega) (by omega)) ⟨e,ho,fin its2 r2⟩
 ·obtain ⟨its2,r2,pl,_⟩:=I.tuple hB
  obtain ⟨⟨cls,dd,data,sl⟩,ho,hc,n2,hd⟩:=pl
  simp only at hc hd
  subst hc hd
  have hl2:=r2.length
  have h1:=sz its2 hl2
  exact call_meets F.slot_list_extend ⟨_,e,rfl⟩ F.entry_list_extend (F.args_list_extend_2 _ _) (qY l its.toArray n b its2.toArray n2 dd sl (lg its2 hl2) (by omega) (by omega)) ⟨e,ho,fin its2 r2⟩
end
end L2
namespace L2
open PySem PySem.W PyProof.Rows
noncomputable def fi {α:Type} (lt:Nat→Nat→Bool):KasT α→α
 |.ret x=>x
 |.ask i j k=>fi lt (k (lt i j))
noncomputable def InT {α:Type} (n:Nat) (P:α→Prop):KasT α→Prop
 |.ret x=>P x
 |.ask i j k=>i<n∧j<n∧∀ b,InT n P (k b)
theorem InT.bnd {α β:Type}{n:Nat}{P:α→Prop}{Q:β→Prop}{f:α→KasT β} (hf:∀ x,P x→InT n Q (f x)):∀ {t:KasT α},InT n P t→InT n Q (t.bind f)
 |.ret x,h=>hf x h
 |.ask i j k,h=>⟨h.1,h.2.1,fun b=>InT.bnd hf (h.2.2 b)⟩
theorem InT.got {α:Type}{n:Nat}{P:α→Prop}{lt:Nat→Nat→Bool}:∀ {t:KasT α},InT n P t→P (fi lt t)
 |.ret _,h=>h
 |.ask i j k,h=>InT.got (t:=k (lt i j)) (h.2.2 _)
theorem InT.wp {α:Type}{n:Nat}{P:α→Prop}{lt:Nat→Nat→Bool}{s:Shared}{cmp:Nat→Nat→(Bool→Shared→Prop)→Shared→Prop} (hc:∀ i j,i<n→j<n→∀ C:Bool→Shared→Prop,C (lt i j) s→cmp i j C s) {Q:α→Shared→Prop} :
  ∀ {t:KasT α},InT n P t→Q (fi lt t) s→t.kasWp cmp Q s
 |.ret _,_,q=>q
 |.ask i j k,h,q=>hc i j h.1 h.2.1 _ (InT.wp hc (t:=k (lt i j)) (h.2.2 _) q)
noncomputable def Pm (n:Nat) (p:Array Nat):Prop:=p.toList.Perm (List.range n)
section
variable {n : Nat} (hn : 0 < n)
include hn
theorem Pm.at {p:Array Nat} (h:Pm n p) (i:Nat):p.getD i 0<n:=by
 by_cases hi:i<p.size
 ·have:p.getD i 0=p[i]:=by simp [Array.getD,hi]
  rw [this]
  have hm:p[i]∈p.toList:=by simp
  exact List.mem_range.mp (h.mem_iff.mp hm)
 ·have:p.getD i 0=0:=by simp [Array.getD,hi]
  rw [this]
  exact hn
omit hn in
theorem Pm.rev {p:Array Nat} (h:Pm n p) (i j:Nat):Pm n (kas_rev p i j):=(mirror_perm p i j _).toList.trans h
omit hn in
theorem Pm.bub {p:Array Nat} (h:Pm n p) (i j:Nat):Pm n (bubble p i j):=(bubble_perm p i j).toList.trans h
theorem oM {p:Array Nat} (h:Pm n p):∀ (f m:Nat),InT n (fun _=>True) (kas_asc p f m)
 |0,m=>trivial
 |f+1,m=>⟨h.at hn _,h.at hn _,fun b=>by
  cases b
  ·exact oM h f (m+1)
  ·exact trivial⟩
theorem h_:∀ (f:Nat) (p:Array Nat) (m q:Nat),Pm n p→InT n (fun r=>Pm n r.1) (kas_desc f p m q)
 |0,p,m,q,h=>h
 |f+1,p,m,q,h=>⟨h.at hn _,h.at hn _,fun b=>by
  cases b
  ·exact ⟨h.at hn _,h.at hn _,fun b=>by
    cases b
    ·exact h_ f p (m+1) (q+1) h
    ·exact h⟩
  ·show InT n _ (if q > 0 then _ else _)
   split
   ·exact h_ f _ _ _ (h.rev _ _)
   ·exact h_ f _ _ _ h⟩
theorem p5 {p:Array Nat} (h:Pm n p) (m r:Nat):InT n (fun x=>Pm n x.2) (kas_tail3 m r p):=by
 unfold kas_tail3
 refine InT.bnd (fun x _=>?_) (oM hn (h.rev _ _) _ _)
 exact h.rev _ _
theorem p6 {p:Array Nat} (h:Pm n p) (m r:Nat):InT n (fun x=>Pm n x.2) (kas_descPart m r p):=by
 unfold kas_descPart
 refine InT.bnd (fun x hx=>?_) (h_ hn _ _ _ _ h)
 split
 ·exact p5 hn (hx.rev _ _) _ _
 ·exact p5 hn hx _ _
theorem sQ {p:Array Nat} (h:Pm n p) (r:Nat):InT n (fun x=>Pm n x.2) (kas_count r p):=by
 unfold kas_count
 refine InT.bnd (fun m _=>?_) (oM hn h _ _)
 split
 ·exact h
 ·split
  ·exact ⟨h.at hn _,h.at hn _,fun b=>by
    cases b
    ·exact p6 hn (h.rev _ _) _ _
    ·exact h⟩
  ·exact p6 hn h _ _
theorem iP {p:Array Nat} (h:Pm n p) (k:Nat):∀ (f l r:Nat),InT n (fun _=>True) (kas_place p k f l r)
 |0,l,r=>trivial
 |f+1,l,r=>by
  unfold kas_place
  split
  ·exact trivial
  ·exact ⟨h.at hn _,h.at hn _,fun b=>by
    cases b
    ·exact iP h k f _ _
    ·exact iP h k f _ _⟩
theorem sR:∀ (f:Nat) (p:Array Nat) (k:Nat),Pm n p→InT n (Pm n) (kas_bin f p k)
 |0,p,k,h=>h
 |f+1,p,k,h=>InT.bnd (fun l _=>sR f _ _ (h.bub _ _)) (iP hn h _ _ _ _)
theorem p7:InT n (Pm n) (kas_sort n):=by
 unfold kas_sort
 refine InT.bnd (fun x hx=>?_) (sQ hn (p:=List.toArray (List.range n)) (by unfold Pm;simp) n)
 split
 ·exact sR hn _ _ _ hx
 ·exact hx
end
theorem iQ (lt:Nat→Nat→Bool) (n:Nat):(fi lt (kas_sort n)).toList.Perm (List.range n):=by
 cases n with
 |zero=>exact List.Perm.refl _
 |succ n=>exact (p7 (Nat.succ_pos n)).got
end L2
namespace L2
open PySem PySem.W PyProof.Rows
section
variable {prog : Program} {w : World} {A : Around} {E : Value → Shared → Prop} {s : Shared}
theorem qZ {a:Addr}{vs:List Value}{n:Nat}{P:PySem.Fin→Shared→Prop}{lt:Nat→Nat→Bool} (ho:s.heap.get? a=some (seqObj "list" vs.toArray n)) (h64:vs.length<64)
  (hkk:2≤vs.length→∀ s1:Shared,(∀ b o,b≠a→s.heap.get? b=some o→s1.heap.get? b=some o)→wpAny (model prog w) A (keyKind' vs.toArray) (fun κ s'=>s'=s1∧∀ i j,i<vs.length→j<vs.length→∀ C:Bool→Shared→Prop,C (lt i j) s1→kas_ask prog w A κ vs i j C s1) (fun _ _=>False) s1)
  (h:P (.done (.ret .none)) { s with heap:=sortedHeap s.heap a vs (((fi lt (kas_sort vs.length)).toList.map fun i=>vs.getD i Value.none).toArray) }) :
  wpAny (model prog w) A (Builtin.«list.sort» ⟨[.ref a],[]⟩) P E s:=by
 have ha:a<s.heap.objs.size:=Heap.lt_size ho
 have big:(64:Nat)≤sizeLine:=by decide
 rw [list_sort_plain]
 refine wpAny_bind (listItems_at ho rfl (wpAny_bind (listUpdate_at ho rfl ?_ (by rw [List.size_toArray];omega) (Nat.zero_le _))))
 obtain ⟨e1,ho1⟩:∃ e1,(s.heap.update a (Obj.mapSeq fun _=>(#[]:Array Value))).get? a=some (seqObj "list" #[] e1):=⟨_,get?_update_seq ho fun _=>#[]⟩
 refine wpAny_bind (seqEpoch_at ho1 rfl (wpAny_bind (wpAny_newTuple (wpAny_bind (wpAny_newList (wpAny_holding ?_) (Nat.zero_le _))) (by show vs.length≤_;omega))))
 have ho6:(((s.heap.update a (Obj.mapSeq fun _=>(#[]:Array Value))).push (seqObj "tuple" vs.toArray 0)).push (seqObj "list" #[] 0)).get? a=some (seqObj "list" #[] e1):=Heap.get?_push_of_some _ (Heap.get?_push_of_some _ ho1)
 have old:∀ b o,b≠a→s.heap.get? b=some o→(((s.heap.update a (Obj.mapSeq fun _=>(#[]:Array Value))).push (seqObj "tuple" vs.toArray 0)).push (seqObj "list" #[] 0)).get? b=some o:=fun b o hb e =>
  Heap.get?_push_of_some _ (Heap.get?_push_of_some _ (by rw [Heap.get?_update_ne _ _ _ _ hb];exact e))
 show wpAny (model prog w) A _ P E { s with heap:=((s.heap.update a (Obj.mapSeq fun _=>(#[]:Array Value))).push (seqObj "tuple" vs.toArray 0)).push (seqObj "list" #[] 0) }
 dsimp only
 have plen:((fi lt (kas_sort vs.length)).toList.map fun i=>vs.getD i Value.none).length=vs.length:=by rw [List.length_map,(iQ lt _).length_eq,List.length_range]
 by_cases h2:vs.toArray.size<2
 ·rw [if_pos h2,if_pos h2]
  refine wpAny_bind (wpAny_pure ?_)
  rw [StateT.run_pure]
  refine wpAny_bind (wpAny_pure ?_)
  have eo:((fi lt (kas_sort vs.length)).toList.map fun i=>vs.getD i Value.none).toArray=(vs.toArray.zip vs.toArray).map (·.2):=by
   have hp:=iQ lt vs.length
   clear h hkk plen old ho6 ho h64
   match vs,h2,hp with
   |[],_,hp=>rw [show (fi lt (kas_sort ([]:List Value).length)).toList=[] from List.perm_nil.mp hp];simp
   |[v],_,hp=>rw [show (fi lt (kas_sort [v].length)).toList=[0] from List.perm_singleton.mp hp];simp
   |_::_::_,h2,_=>simp at h2;omega
  rw [eo] at h
  dsimp only
  refine wpAny_bind (seqEpoch_at ho6 rfl (wpAny_bind (listUpdate_at ho6 rfl ?_ (Nat.zero_le _) (by rw [Array.size_map];show (pairsOf vs).size≤_;rw [pairsOf_size];omega))))
  simp only [bne_self_eq_false,Bool.false_eq_true,if_false]
  exact wpAny_pure h
 ·rw [if_neg h2,if_neg h2]
  have h2':2≤vs.length:=by rw [List.size_toArray] at h2;omega
  refine wpAny_bind (wpAny_mono (hkk h2' _ old) (fun κ s0 hk=>?_) fun _ _ x=>x.elim)
  obtain ⟨rfl,hk⟩:=hk
  refine wpAny_bind (wpAny_mono (kat_run (κ:=κ) (ks:=vs) (vs:=vs) (G:=fun p s'=>p=fi lt (kas_sort vs.length)∧s'={ s with heap:=((s.heap.update a (Obj.mapSeq fun _=>(#[]:Array Value))).push (seqObj "tuple" vs.toArray 0)).push (seqObj "list" #[] 0) })
   (Q:=fun st' s'=>∃ p:Array Nat,arrOf st'=p.map (kas_item (vs.toArray.zip vs.toArray))∧failedOf st'=none∧p=fi lt (kas_sort vs.length)∧s'={ s with heap:=((s.heap.update a (Obj.mapSeq fun _=>(#[]:Array Value))).push (seqObj "tuple" vs.toArray 0)).push (seqObj "list" #[] 0) })
   rfl h2' h64 (fun p st' s' a1 a2 a3 a4=>⟨p,a2,a3,a4⟩) (InT.wp hk (p7 (by omega)) ⟨rfl,rfl⟩)) ?_ fun _ _ e=>e)
  rintro ⟨⟨⟩,st'⟩ s' ⟨p,har,hf,rfl,rfl⟩
  dsimp only
  have hout:=kat_snds rfl har
  rw [hout,hf]
  refine wpAny_bind (seqEpoch_at ho6 rfl (wpAny_bind (listUpdate_at ho6 rfl ?_ (Nat.zero_le _) (by rw [List.size_toArray,plen];omega))))
  simp only [bne_self_eq_false,Bool.false_eq_true,if_false]
  exact wpAny_pure h
end
end L2
namespace L2
open PySem PySem.W PyProof.Rows
noncomputable abbrev lp:=Str×Int
noncomputable def kLt (ks:List Str) (i j:Nat):Bool:=decide ((ks.getD i Str.empty).cps.toList<(ks.getD j Str.empty).cps.toList)
noncomputable def gZ (ks:List Str):List Nat:=(fi (kLt ks) (kas_sort ks.length)).toList
theorem eG (ks:List Str):(gZ ks).Perm (List.range ks.length):=iQ _ _
noncomputable def zL (x:Str) (n:Int) (t u:Tok):Obj:={ cls:=.type "tuple",data:=.seq #[.str x t,.int n u] }
noncomputable def dP (h:Heap) (as:List Addr) (ps:List lp):Prop:=as.length=ps.length∧∀ (j:Nat) (a:Addr),as[j]?=some a→∃ p t u,ps[j]?=some p∧h.get? a=some (zL p.1 p.2 t u)
theorem dP.keeps {h h':Heap}{as:List Addr}{ps:List lp} (x:dP h as ps) (k:∀ b o,b∈as→h.get? b=some o→h'.get? b=some o):dP h' as ps :=
 ⟨x.1,fun j a e=>let ⟨p,t,u,e1,e2⟩:=x.2 j a e;⟨p,t,u,e1,k a _ (List.mem_of_getElem? e) e2⟩⟩
theorem dP.tail {h:Heap}{a:Addr}{as:List Addr}{p:lp}{ps:List lp} (x:dP h (a::as) (p::ps)):dP h as ps :=
 ⟨by have:=x.1;simpa using this,fun j b e=>by
  obtain ⟨q,t,u,e1,e2⟩:=x.2 (j+1) b (by simpa using e)
  exact ⟨q,t,u,by simpa using e1,e2⟩⟩
theorem dP.g_ {h:Heap}:∀ {as:List Addr}{ps:List lp},dP h as ps→∃ fs:List Value,KatTups h (as.map Value.ref) fs∧fs.length=as.length∧∀ v∈fs,∃ x t,v=Value.str x t
 |[],_,_=>⟨[],KatTups.nil,rfl,by simp⟩
 |a::as,[],x=>by have:=x.1;simp at this
 |a::as,p::ps,x=>by
  obtain ⟨fs,h1,h2,h3⟩:=dP.g_ x.tail
  obtain ⟨q,t,u,e1,e2⟩:=x.2 0 a rfl
  refine ⟨.str q.1 t::fs,KatTups.cons e2 rfl rfl rfl h1,by simp [h2],fun v hv=>?_⟩
  rcases List.mem_cons.mp hv with rfl|hv
  ·exact ⟨_,_,rfl⟩
  ·exact h3 v hv
theorem j3 {α β:Type}{F:α→β→Prop}:∀ {l:List α}{m:List β}{i:Nat}{x:α},Paired F l m→l[i]?=some x→∃ y,m[i]?=some y∧F x y
 |_,_,_,_,.nil,e=>by simp at e
 |_,_,0,_,.cons r _,e=>by simp at e;subst e;exact ⟨_,rfl,r⟩
 |_,_,i+1,x,.cons _ t,e=>by
  obtain ⟨u,h1,h2⟩:=j3 (i:=i) (x:=x) t (by simpa using e)
  exact ⟨u,by simpa using h1,h2⟩
section
variable {prog : Program} {w : World} {A : Around} {E : Value → Shared → Prop} {s : Shared}
theorem yg {as:List Addr}{ps:List lp}{C:Bool→Shared→Prop} (x:dP s.heap as ps) (hnd:(ps.map (·.1)).Nodup) {i j:Nat} (hi:i<as.length) (hj:j<as.length) (q:C (kLt (ps.map (·.1)) i j) s) :
  kas_ask prog w A (tuples' true) (as.map Value.ref) i j C s:=by
 obtain ⟨p,t,u,e1,e2⟩:=x.2 i as[i] (by simp [hi])
 obtain ⟨p',t',u',e1',e2'⟩:=x.2 j as[j] (by simp [hj])
 have hl:=x.1
 have hip:i<ps.length:=by omega
 have hjp:j<ps.length:=by omega
 have gi:(as.map Value.ref).getD i Value.none=.ref as[i]:=by simp [List.getD,hi]
 have gj:(as.map Value.ref).getD j Value.none=.ref as[j]:=by simp [List.getD,hj]
 have ki:(ps.map (·.1)).getD i Str.empty=p.1:=by simp [List.getD,e1]
 have kj:(ps.map (·.1)).getD j Str.empty=p'.1:=by simp [List.getD,e1']
 unfold kas_ask
 rw [gi,gj]
 refine kat_lt (b:=true) e2 rfl e2' rfl ?_
 unfold kLt at q
 rw [ki,kj] at q
 show KatLex prog w A true (decide (2<2)) C [(.str p.1 t,.str p'.1 t'),(.int p.2 u,.int p'.2 u')] 0 s
 refine kat_cons (wpAny_eqBool_str ?_)
 by_cases h:p.1=p'.1
 ·have hij:i=j:=by
   have a1:(ps.map (·.1))[i]'(by simpa using hip)=(ps.map (·.1))[j]'(by simpa using hjp):=by
    obtain ⟨_,z1⟩:=List.getElem?_eq_some_iff.mp e1
    obtain ⟨_,z2⟩:=List.getElem?_eq_some_iff.mp e1'
    simp [z1,z2,h]
   exact (List.getElem_inj hnd).mp a1
  subst hij
  rw [e1] at e1'
  cases e1'
  rw [decide_eq_true rfl]
  refine kat_yes (kat_cons (wpAny_eqBool_int ?_))
  rw [show (p.2==p.2)=true by simp]
  refine kat_yes (kat_nil ?_)
  have:decide (p.1.cps.toList<p.1.cps.toList)=false:=decide_eq_false (List.lt_irrefl _)
  rw [this] at q
  exact q
 ·rw [decide_eq_false h]
  exact kat_no (oneLt_str q)
theorem yh {as:List Addr}{ps:List lp} (x:dP s.heap as ps) (hnd:(ps.map (·.1)).Nodup) (h2:2≤as.length) :
  wpAny (model prog w) A (keyKind' (as.map Value.ref).toArray) (fun κ s'=>s'=s∧∀ i j,i<(as.map Value.ref).length→j<(as.map Value.ref).length→∀ C:Bool→Shared→Prop,C (kLt (ps.map (·.1)) i j) s→kas_ask prog w A κ (as.map Value.ref) i j C s) (fun _ _=>False) s:=by
 obtain ⟨fs,f1,f2,f3⟩:=x.g_
 refine kat_kind (T:=.type "str") f1 (by omega) (fun v hv=>?_) rfl ⟨rfl,fun i j hi hj C q=>?_⟩
 ·obtain ⟨y,t,rfl⟩:=f3 v hv
  exact Looks.of_pure rfl
 ·rw [List.length_map] at hi hj
  exact yg x hnd hi hj q
end
noncomputable def hJ (H:Hp):List (Addr×List V)→Hp
 |[]=>H
 |(a,vs)::r=>upd (hJ H r) a (.tup vs)
theorem iR {H:Hp}:∀ {l:List (Addr×List V)}{b:Addr}{o:HO},hJ H l b=some o→(∃ vs,(b,vs)∈l∧o=.tup vs)∨H b=some o
 |[],b,o,h=>.inr h
 |(a,vs)::r,b,o,h=>by
  by_cases hb:b=a
  ·subst hb
   rw [hJ,aq] at h
   cases h
   exact .inl ⟨vs,by simp,rfl⟩
  ·rw [hJ,ai hb] at h
   rcases iR h with ⟨ws,q1,q2⟩|q
   ·exact .inl ⟨ws,by simp [q1],q2⟩
   ·exact .inr q
theorem iS {H:Hp}:∀ {l:List (Addr×List V)}{b:Addr},(∀ p∈l,p.1≠b)→hJ H l b=H b
 |[],b,_=>rfl
 |(a,vs)::r,b,h=>by
  rw [hJ,ai (Ne.symm (h _ List.mem_cons_self))]
  exact iS fun p hp=>h p (by simp [hp])
theorem p8 {H:Hp}:∀ {l:List (Addr×List V)}{b:Addr}{vs:List V},(l.map (·.1)).Nodup→(b,vs)∈l→hJ H l b=some (.tup vs)
 |(a,ws)::r,b,vs,nd,h=>by
  have nd':a∉r.map (·.1)∧(r.map (·.1)).Nodup:=by simpa using nd
  rcases List.mem_cons.mp h with h|h
  ·cases h
   exact aq
  ·have:b≠a:=fun z=>nd'.1 (by rw [←z];exact List.mem_map.mpr ⟨_,h,rfl⟩)
   rw [hJ,ai this]
   exact p8 nd'.2 h
section
variable {X : Cx} {pins : List (Addr × Obj)} {σ : List (Option V)} {H H' : Hp} {s : Shared} {h' : Heap}
theorem Inv.many {t':Nat} (I:Inv X pins σ H s) (k:∀ b u,s.heap.get? b=some u→h'.get? b=some u) (hH:∀ b o,H b=some o→H' b=some o)
  (hn:∀ b o,H' b=some o→H b=some o∨(s.heap.objs.size≤b∧bG X.prog X.w H' h' b o)):Inv X pins σ H' { s with heap:=h',toks:=t' }:=by
 refine I.un ⟨fun b u q _ _ _=>k b u q,fun b u q _ _ _=>⟨u.slots,k b u q⟩,fun b u q n _=>?_,fun b u q _=>⟨u,k b u q⟩,fun b xs q=>hH b _ q,fun b u xs q=>hH b _ q,fun b ps q=>⟨#[],by rw [hH b _ q];simp⟩⟩ fun b o e=>?_
 ·cases e:H' b with
  |none=>rfl
  |some o =>
   rcases hn b o e with z|⟨z,_⟩
   ·rw [n] at z;cases z
   ·exact absurd (Nat.lt_of_lt_of_le (Heap.lt_size q) z) (Nat.lt_irrefl _)
 ·rcases hn b o e with z|⟨_,z⟩
  ·exact (I.hok b o z).kH (fun c v _ q=>k c v q) (fun c q=>hH c _ q) fun c xs q=>hH c _ q
  ·exact z
noncomputable def prV (p:lp):List V:=[.str p.1,.int p.2]
theorem lq {Q:VK}{d:Addr}{ps:List lp} (hc:X.calm=true) (I:Inv X pins σ H s) (e:H d=some (.dK (ps.map fun p=>((Sum.inr p.1:Key),V.int p.2)))) (hnd:(ps.map (·.1)).Nodup) (h64:ps.length<64)
  (q:∀ (as:List Addr) (L:Addr),as.length=ps.length→as.Nodup→(∀ a∈L::as,H a=none)→L∉as→Q (.ref L) (upd (hJ H (as.zip (ps.map prV))) L (.lst ((gZ (ps.map (·.1))).map fun i=>V.ref (as.getD i 0))))) :
  wpAny (model X.prog X.w) X.A (call (.builtin "dict.items") [.ref d]) (fun v s1=>wpAny (model X.prog X.w) X.A (call (.builtin "sorted") [v]) (EP X pins σ Q) X.xe s1) X.xe s:=by
 have big:(64:Nat)≤sizeLine:=by decide
 obtain ⟨hz,lo,vs,kv,dd⟩:=wR I.hok e
 have hlen:vs.length=ps.length:=by
  have:=Paired.length kv
  simpa using this.symm
 obtain ⟨o,es,ep,hd⟩:=id dd
 refine call_meetsIn PySem.F.slot_dict_items (show s.TypeIs (.ref d) "dict" from ⟨o,hd.1,hd.2.1.1⟩) PySem.F.entry_dict_items (PySem.F.args_dict_items_1 _) (meets_dict_items (aM X.prog X.w) d lo) ⟨⟨vs,dd⟩,?_⟩
 show wpAny (model X.prog X.w) X.A (call (.builtin "sorted") [.ref s.heap.objs.size]) (EP X pins σ Q) X.xe { s with heap:=s.heap.push { cls:=.type "dict_items",data:=.fields #[.ref d] } }
 have k1:∀ b u,s.heap.get? b=some u→(s.heap.push { cls:=.type "dict_items",data:=.fields #[.ref d] }).get? b=some u:=fun b u z=>Heap.get?_push_of_some _ z
 have dd1:(s.heap.push { cls:=.type "dict_items",data:=.fields #[.ref d] }).DictOf (aM X.prog X.w) d vs:=⟨o,es,ep,k1 _ _ hd.1,hd.2⟩
 have hat:(s.heap.push { cls:=.type "dict_items",data:=.fields #[.ref d] }).DictAt (aM X.prog X.w) d vs ep:=⟨o,es,k1 _ _ hd.1,hd.2⟩
 refine Calls.call_function_entry kind_sorted plain_sorted entry_sorted (args_sorted1 _) ?_
 unfold Builtin.«sorted»
 refine wpAny_bind (m:=checkCount "sorted" 1 1 _) (wpAny_pure ?_)
 refine wpAny_bind (kdx_collect (A:=X.A.in1) (knd:=aM X.prog X.w) (kvs:=vs) (ep:=ep) (I.ok.hd hc) ⟨_,Heap.get?_push_size _ rfl,rfl,rfl⟩ hat (by omega) fun h1 tk as hk hl hG=>?_)
 have hl':as.length=ps.length:=hl.trans hlen
 have above:∀ a∈as,s.heap.objs.size≤a:=fun a ha=>by
  have:=hG.above a ha
  have z:(s.heap.push { cls:=.type "dict_items",data:=.fields #[.ref d] }).objs.size=s.heap.objs.size+1:=size_push' ..
  have this':(s.heap.push { cls:=.type "dict_items",data:=.fields #[.ref d] }).objs.size<a:=this
  omega
 have pa:dP h1 as ps:=⟨hl',fun j a ea=>by
  obtain ⟨key,k,x,e1,e2,e3⟩:=hG.pairs j a ea
  have hj:j<ps.length:=by rw [←hl'];exact (List.getElem?_eq_some_iff.mp ea).1
  obtain ⟨y,ey,r1,r2⟩:=j3 kv (i:=j) (x:=((Sum.inr ps[j].1:Key),V.int ps[j].2)) (by simp [hj])
  rw [e1] at ey
  cases ey
  obtain ⟨tx,rfl⟩:∃ t,x=.int ps[j].2 t:=r2
  have r1':k=Sum.inr ps[j].1:=r1.symm
  subst r1'
  obtain ⟨t,rfl⟩:=Value.isStrOf_shape (x:=ps[j].1) (v:=key) e2
  exact ⟨ps[j],t,tx,by simp [hj],e3⟩⟩
 have nd:as.Nodup:=hG.rise.imp fun h=>Nat.ne_of_lt h
 refine wpAny_bind (wpAny_newList ?_ (by rw [List.length_map];omega))
 have hoL:(h1.push (seqObj "list" (as.map Value.ref).toArray 0)).get? h1.objs.size=some (seqObj "list" (as.map Value.ref).toArray 0):=Heap.get?_push_size _ rfl
 show wpAny _ _ _ _ _ { s with heap:=h1.push (seqObj "list" (as.map Value.ref).toArray 0),toks:=tk }
 have lt1:∀ a∈as,a<h1.objs.size:=fun a ha=>hG.there ha
 refine wpAny_bind (wpAny_holding (wpAny_call_entry slot_list_sort ⟨_,hoL,rfl⟩ entry_list_sort (qZ (lt:=kLt (ps.map (·.1))) hoL (by rw [List.length_map];omega) (fun h2 s1 ks=>?_) ⟨_,rfl,?_⟩) (args_list_sort _)))
 ·refine yh (pa.keeps fun b o hb z=>ks b o (Nat.ne_of_lt (lt1 b hb)) (Heap.get?_push_of_some _ z)) hnd (by rw [List.length_map] at h2;exact h2)
 ·obtain ⟨ee,he⟩:=sortedHeap_at (out:=((fi (kLt (ps.map (·.1))) (kas_sort (as.map Value.ref).length)).toList.map fun i=>(as.map Value.ref).getD i Value.none).toArray) hoL
  have hold:∀ b o,h1.get? b=some o→(sortedHeap (h1.push (seqObj "list" (as.map Value.ref).toArray 0)) h1.objs.size (as.map Value.ref) ((fi (kLt (ps.map (·.1))) (kas_sort (as.map Value.ref).length)).toList.map fun i=>(as.map Value.ref).getD i Value.none).toArray).get? b=some o:=fun b o z=>by
   have hlt:b<h1.objs.size:=Heap.lt_size z
   rw [sortedHeap_old (Nat.ne_of_lt hlt) (by rw [size_push'];exact Nat.lt_succ_of_lt hlt)]
   exact Heap.get?_push_of_some _ z
  have hsz1:s.heap.objs.size≤h1.objs.size:=Nat.le_of_lt (Heap.lt_size (hk _ _ (Heap.get?_push_size _ rfl)))
  have eP:((fi (kLt (ps.map (·.1))) (kas_sort (as.map Value.ref).length)).toList)=gZ (ps.map (·.1)):=by
   unfold gZ
   rw [List.length_map,List.length_map,hl']
  have hLn:H h1.objs.size=none:=I.hok.fresh hsz1
  have hLa:h1.objs.size∉as:=fun z=>Nat.lt_irrefl _ (lt1 _ z)
  have han:∀ a∈as,H a=none:=fun a ha=>I.hok.fresh (above a ha)
  have hzip:∀ {b:Addr} {ws:List V},(b,ws)∈as.zip (ps.map prV)→b∈as:=fun z=>(List.of_mem_zip z).1
  refine wpAny_pure ⟨_,rfl,.ref h1.objs.size,upd (hJ H (as.zip (ps.map prV))) h1.objs.size (.lst ((gZ (ps.map (·.1))).map fun i=>V.ref (as.getD i 0))),?_,rfl,q as _ hl' nd (fun a ha=>?_) hLa⟩
  ·refine I.many (fun b u z=>hold b u (hk b u (k1 b u z))) (fun b o z=>?_) fun b o z=>?_
   ·have n1:b≠h1.objs.size:=fun y=>by rw [y,hLn] at z;cases z
    rw [ai n1,iS fun p hp y=>?_]
    ·exact z
    ·have:=han p.1 (hzip (b:=p.1) (ws:=p.2) hp)
     rw [y,z] at this
     cases this
   ·by_cases hb:b=h1.objs.size
    ·subst hb
     rw [aq] at z
     cases z
     refine .inr ⟨hsz1,by rw [List.length_map,(eG _).length_eq,List.length_range,List.length_map];omega,(gZ (ps.map (·.1))).map fun i=>(as.map Value.ref).getD i Value.none,ee,?_,?_⟩
     ·have hin:∀ i∈gZ (ps.map (·.1)),i<as.length:=fun i hi=>by
       have:=List.mem_range.mp ((eG _).mem_iff.mp hi)
       rw [List.length_map] at this
       omega
      generalize gZ (ps.map (·.1))=l at hin
      induction l with
      |nil=>exact .nil
      |cons i l ih =>
       refine .cons ?_ (ih fun j hj=>hin j (by simp [hj]))
       have hi:=hin i (by simp)
       show RelV (.ref (as.getD i 0)) ((as.map Value.ref).getD i Value.none)
       have:(as.map Value.ref).getD i Value.none=.ref (as.getD i 0):=by simp [List.getD,hi]
       rw [this]
       rfl
     ·rw [←eP]
      exact he
    ·rw [ai hb] at z
     rcases iR z with ⟨ws,z1,rfl⟩|z1
     ·obtain ⟨j,hj,ej⟩:=List.mem_iff_getElem.mp z1
      have hja:j<as.length:=by simp at hj;omega
      have hjp:j<ps.length:=by omega
      have ej':as[j]=b∧prV ps[j]=ws:=by simpa using ej
      obtain ⟨rfl,rfl⟩:=ej'
      obtain ⟨p,t,u,e1,e2⟩:=pa.2 j as[j] (by simp [hja])
      have:p=ps[j]:=by simpa [hjp] using e1.symm
      subst this
      exact .inr ⟨above _ (by simp),by show 2≤sizeLine;omega,[.str ps[j].1 t,.int ps[j].2 u],.cons ⟨t,rfl⟩ (.cons ⟨u,rfl⟩ .nil),_,hold _ _ e2,rfl,0,rfl⟩
     ·exact .inl z1
  ·rcases List.mem_cons.mp ha with rfl|ha
   ·exact hLn
   ·exact han a ha
end
end L2
namespace TM
open PySem L2
inductive U where
 |non|bl (b:Bool)|int (i:Int)|str (x:Str)
 |tup (xs:List U)|lst (xs:List U)
 |dic (ks:List Str) (vs:List U)|rdc (ks:List dw)
mutual
noncomputable def imm:U→Bool
 |.tup xs=>fQ xs
 |.lst _=>false
 |.dic _ _=>false
 |.rdc _=>false
 |.non=>true|.bl _=>true|.int _=>true|.str _=>true
noncomputable def fQ:List U→Bool
 |[]=>true
 |u::us=>imm u&&fQ us
end
inductive Kd where|own|io|loc|any|bor (j:Nat)|ownD
deriving DecidableEq
noncomputable def Kd.root:Kd→Bool
 |.own=>true
 |.io=>true
 |_=>false
noncomputable abbrev ag:=List (Option (Kd×U))
structure Ct where
 P:Program
 w:World
 K:PySem.W.Frag
 H₀:Hp
 Par:Addr→Prop
 IO:Addr→Prop
noncomputable def KL (K:PySem.W.Frag) (a:Addr) (xs:List V):Prop :=
 ∃ (o:Obj) (its:Array Value) (n:Nat),K.lookup a=some o∧o.cls=.type "list"∧o.dict=none∧o.data=.seq its n∧its.size≤sizeLine∧Vals xs its.toList
noncomputable def LAt (K:PySem.W.Frag) (S:Addr→Prop) (H:Hp) (a:Addr) (vs:List V):Prop:=(S a∧Rd H a (.lst vs))∨KL K a vs
theorem LAt.sq {K:PySem.W.Frag}{S:Addr→Prop}{H:Hp}{a:Addr}{vs:List V} (h:LAt K S H a vs):SqL K H a vs:=h.elim (fun z=>.inl z.2) .inr
noncomputable def DAt (H:Hp) (R:List V→Prop) (a:Addr) (ks:List Str):Prop:=∃ kvs:List (Key×V),H a=some (.dK kvs)∧kvs.map (·.1)=ks.map Sum.inr∧R (kvs.map (·.2))
section
variable (C : Ct) (S : Addr → Prop) (H : Hp)
mutual
noncomputable def Rep:U→V→Prop
 |.non,v=>v=.non
 |.bl b,v=>v=.bl b
 |.int i,v=>v=.int i
 |.str x,v=>v=.str x
 |.tup us,v=>∃ a vs,v=.ref a∧SqT C.K H a vs∧ah us vs
 |.lst us,v=>∃ a vs,v=.ref a∧LAt C.K S H a vs∧ah us vs
 |.dic ks us,v=>∃ a,v=.ref a∧S a∧DAt H (ah us) a ks
 |.rdc ks,v=>∃ a,v=.ref a∧S a∧dO C.P C.w C.K H a ks
noncomputable def ah:List U→List V→Prop
 |[],vs=>vs=[]
 |u::us,vs=>∃ v r,vs=v::r∧Rep u v∧ah us r
end
end
noncomputable def Tp:HO→Prop
 |.tup _=>True
 |.frz _ (.tup _)=>True
 |_=>False
structure Mv (S:Addr→Prop) (H:Hp) (S':Addr→Prop) (H':Hp):Prop where
 sub:∀ a,S a→S' a
 tps:∀ a o,H a=some o→Tp o→H' a=some o
 sam:∀ a o,S a→H a=some o→H' a=some o
theorem Mv.sqT {K:PySem.W.Frag}{S S':Addr→Prop}{H H':Hp}{a:Addr}{vs:List V} (m:Mv S H S' H') (h:SqT K H a vs):SqT K H' a vs:=by
 rcases h with (h|⟨o,h⟩)|h
 ·exact .inl (.inl (m.tps a _ h trivial))
 ·exact .inl (.inr ⟨o,m.tps a _ h trivial⟩)
 ·exact .inr h
theorem Mv.lat {K:PySem.W.Frag}{S S':Addr→Prop}{H H':Hp}{a:Addr}{vs:List V} (m:Mv S H S' H') (h:LAt K S H a vs):LAt K S' H' a vs:=by
 rcases h with ⟨s,h|⟨o,h⟩⟩|h
 ·exact .inl ⟨m.sub a s,.inl (m.sam a _ s h)⟩
 ·exact .inl ⟨m.sub a s,.inr ⟨o,m.sam a _ s h⟩⟩
 ·exact .inr h
theorem Mv.row {K:PySem.W.Frag}{S S':Addr→Prop}{H H':Hp}{v:V}{r:dw} (m:Mv S H S' H') (h:dZ K H v r):dZ K H' v r :=
 let ⟨a,b,e,h1,h2⟩:=h;⟨a,b,e,m.sqT h1,m.sqT h2⟩
theorem DAt.mv {H H':Hp}{R R':List V→Prop}{a:Addr}{ks:List Str} (ha:∀ o,H a=some o→H' a=some o) (hR:∀ vs,R vs→R' vs) (h:DAt H R a ks):DAt H' R' a ks :=
 let ⟨kvs,h1,h2,h3⟩:=h;⟨kvs,ha _ h1,h2,hR _ h3⟩
theorem Mv.p9 {P:Program}{w:World}{K:PySem.W.Frag}{S S':Addr→Prop}{H H':Hp}{a:Addr}{ks:List dw} (m:Mv S H S' H') (ha:∀ o,H a=some o→H' a=some o) (h:dO P w K H a ks):dO P w K H' a ks :=
 let ⟨xs,h1,h2,h3⟩:=h;⟨xs,ha _ h1,h2,fun x hx=>m.row (h3 x hx)⟩
section
variable {C : Ct} {S S' : Addr → Prop} {H H' : Hp}
mutual
theorem Rep.mv' (m:Mv S H S' H'):∀ (u:U) (v:V),Rep C S H u v→Rep C S' H' u v
 |.non,_,h=>h
 |.bl _,_,h=>h
 |.int _,_,h=>h
 |.str _,_,h=>h
 |.tup us,v,h=>by
  obtain ⟨a,vs,e,h1,h2⟩:=h
  exact ⟨a,vs,e,m.sqT h1,ah.mv' m us vs h2⟩
 |.lst us,v,h=>by
  obtain ⟨a,vs,e,h1,h2⟩:=h
  exact ⟨a,vs,e,m.lat h1,ah.mv' m us vs h2⟩
 |.dic ks us,v,h=>by
  obtain ⟨a,e,h1,h2⟩:=h
  exact ⟨a,e,m.sub a h1,h2.mv (fun o q=>m.sam a o h1 q) fun vs q=>ah.mv' m us vs q⟩
 |.rdc ks,v,h=>by
  obtain ⟨a,e,h1,h2⟩:=h
  exact ⟨a,e,m.sub a h1,m.p9 (fun o q=>m.sam a o h1 q) h2⟩
theorem ah.mv' (m:Mv S H S' H'):∀ (us:List U) (vs:List V),ah C S H us vs→ah C S' H' us vs
 |[],_,h=>h
 |u::us,vs,h=>by
  obtain ⟨v,r,e,h1,h2⟩:=h
  exact ⟨v,r,e,Rep.mv' m u v h1,ah.mv' m us r h2⟩
end
mutual
theorem Rep.q9:∀ (u:U) (v:V),imm u=true→Rep C S H u v→Rep C S' H u v
 |.non,_,_,h=>h
 |.bl _,_,_,h=>h
 |.int _,_,_,h=>h
 |.str _,_,_,h=>h
 |.tup us,v,i,h=>by
  obtain ⟨a,vs,e,h1,h2⟩:=h
  exact ⟨a,vs,e,h1,ah.q9 us vs (by simpa [TM.imm] using i) h2⟩
 |.lst us,v,i,h=>by simp [TM.imm] at i
 |.dic ks us,v,i,h=>by simp [TM.imm] at i
 |.rdc ks,v,i,h=>by simp [TM.imm] at i
theorem ah.q9:∀ (us:List U) (vs:List V),fQ us=true→ah C S H us vs→ah C S' H us vs
 |[],_,_,h=>h
 |u::us,vs,i,h=>by
  obtain ⟨v,r,e,h1,h2⟩:=h
  have i':TM.imm u=true∧fQ us=true:=by simpa [fQ] using i
  exact ⟨v,r,e,Rep.q9 u v i'.1 h1,ah.q9 us r i'.2 h2⟩
end
theorem Rep.mv (m:Mv S H S' H') {u:U}{v:V} (h:Rep C S H u v):Rep C S' H' u v:=Rep.mv' m u v h
theorem ah.mv (m:Mv S H S' H') {us:List U}{vs:List V} (h:ah C S H us vs):ah C S' H' us vs:=ah.mv' m us vs h
theorem Rep.imm {u:U}{v:V} (i:TM.imm u=true) (h:Rep C S H u v):Rep C S' H u v:=Rep.q9 u v i h
theorem ah.imm {us:List U}{vs:List V} (i:fQ us=true) (h:ah C S H us vs):ah C S' H us vs:=ah.q9 us vs i h
theorem Mv.up (sub:∀ a,S a→S' a):Mv S H S' H:=⟨sub,fun _ _ h _=>h,fun _ _ _ h=>h⟩
theorem ah.len:∀ {us:List U}{vs:List V},ah C S H us vs→us.length=vs.length
 |[],_,h=>by cases h;rfl
 |u::us,vs,h=>by
  obtain ⟨v,r,rfl,_,h2⟩:=h
  rw [List.length_cons,List.length_cons,ah.len h2]
theorem ah.get:∀ {us:List U}{vs:List V}{i:Nat}{u:U},ah C S H us vs→us[i]?=some u→∃ v,vs[i]?=some v∧Rep C S H u v
 |[],_,_,_,_,e=>by simp at e
 |u::us,vs,0,w,h,e=>by
  obtain ⟨v,r,rfl,h1,_⟩:=h
  simp at e
  subst e
  exact ⟨v,rfl,h1⟩
 |u::us,vs,i+1,w,h,e=>by
  obtain ⟨v,r,rfl,_,h2⟩:=h
  obtain ⟨v',e',h'⟩:=ah.get (i:=i) (u:=w) h2 (by simpa using e)
  exact ⟨v',by simpa using e',h'⟩
theorem ah.append:∀ {us ws:List U}{vs ys:List V},ah C S H us vs→ah C S H ws ys→ah C S H (us++ws) (vs++ys)
 |[],_,_,_,h,h'=>by cases h;exact h'
 |u::us,ws,vs,ys,h,h'=>by
  obtain ⟨v,r,rfl,h1,h2⟩:=h
  exact ⟨v,r++ys,rfl,h1,h2.append h'⟩
theorem ah.take:∀ {us:List U}{vs:List V} (n:Nat),ah C S H us vs→ah C S H (us.take n) (vs.take n)
 |_,_,0,_=>by simp [ah]
 |[],_,n+1,h=>by cases h;simp [ah]
 |u::us,vs,n+1,h=>by
  obtain ⟨v,r,rfl,h1,h2⟩:=h
  exact ⟨v,r.take n,rfl,h1,h2.take n⟩
theorem ah.drop:∀ {us:List U}{vs:List V} (n:Nat),ah C S H us vs→ah C S H (us.drop n) (vs.drop n)
 |_,_,0,h=>h
 |[],_,n+1,h=>by cases h;simp [ah]
 |u::us,vs,n+1,h=>by
  obtain ⟨v,r,rfl,h1,h2⟩:=h
  exact h2.drop n
theorem ah.set:∀ {us:List U}{vs:List V} (n:Nat) {u:U}{v:V},ah C S H us vs→Rep C S H u v→ah C S H (us.set n u) (vs.set n v)
 |[],_,n,_,_,h,_=>by cases h;simp [ah]
 |u::us,vs,0,_,_,h,h'=>by
  obtain ⟨v,r,rfl,h1,h2⟩:=h
  exact ⟨_,r,rfl,h',h2⟩
 |u::us,vs,n+1,_,_,h,h'=>by
  obtain ⟨v,r,rfl,h1,h2⟩:=h
  exact ⟨v,_,rfl,h1,h2.set n h'⟩
theorem ah.snoc {us:List U}{vs:List V}{u:U}{v:V} (h:ah C S H us vs) (h':Rep C S H u v):ah C S H (us++[u]) (vs++[v]):=h.append ⟨v,[],rfl,h',rfl⟩
theorem ah.strs:∀ {xs:List Str}{vs:List V},ah C S H (xs.map .str) vs↔vs=xs.map V.str
 |[],vs=>by simp [ah]
 |x::xs,vs=>by
  constructor
  ·rintro ⟨v,r,rfl,h1,h2⟩
   rw [ah.strs.mp h2]
   have:v=.str x:=h1
   rw [this];rfl
  ·rintro rfl
   exact ⟨_,_,rfl,rfl,ah.strs.mpr rfl⟩
end
structure Ct.Eqv (C C':Ct):Prop where
 P:C.P=C'.P
 w:C.w=C'.w
 K:C.K=C'.K
section
variable {C C' : Ct} {S : Addr → Prop} {H : Hp}
mutual
theorem Rep.cg' (q:C.Eqv C'):∀ (u:U) (v:V),Rep C S H u v→Rep C' S H u v
 |.non,_,h=>h
 |.bl _,_,h=>h
 |.int _,_,h=>h
 |.str _,_,h=>h
 |.tup us,v,h=>by
  obtain ⟨a,vs,e,h1,h2⟩:=h
  exact ⟨a,vs,e,q.K ▸ h1,ah.cg' q us vs h2⟩
 |.lst us,v,h=>by
  obtain ⟨a,vs,e,h1,h2⟩:=h
  exact ⟨a,vs,e,q.K ▸ h1,ah.cg' q us vs h2⟩
 |.dic ks us,v,h=>by
  obtain ⟨a,e,h1,h2⟩:=h
  exact ⟨a,e,h1,h2.mv (fun _ q=>q) fun vs z=>ah.cg' q us vs z⟩
 |.rdc ks,v,h=>by
  obtain ⟨a,e,h1,h2⟩:=h
  exact ⟨a,e,h1,by rw [←q.P,←q.w,←q.K];exact h2⟩
theorem ah.cg' (q:C.Eqv C'):∀ (us:List U) (vs:List V),ah C S H us vs→ah C' S H us vs
 |[],_,h=>h
 |u::us,vs,h=>by
  obtain ⟨v,r,e,h1,h2⟩:=h
  exact ⟨v,r,e,Rep.cg' q u v h1,ah.cg' q us r h2⟩
end
theorem Rep.cg (q:C.Eqv C') {u:U}{v:V} (h:Rep C S H u v):Rep C' S H u v:=Rep.cg' q u v h
theorem ah.cg (q:C.Eqv C') {us:List U}{vs:List V} (h:ah C S H us vs):ah C' S H us vs:=ah.cg' q us vs h
end
noncomputable def cM (C:Ct) (S:Addr→Prop) (H:Hp) (r:Addr):U→Prop
 |.lst us=>∃ vs,H r=some (.lst vs)∧ah C S H us vs
 |.dic ks us=>DAt H (ah C S H us) r ks
 |.rdc ks=>dO C.P C.w C.K H r ks
 |_=>False
theorem cM.mv {C:Ct}{S S':Addr→Prop}{H H':Hp}{r:Addr}{u:U} (m:Mv S H S' H') (hr:∀ o,H r=some o→H' r=some o) (h:cM C S H r u):cM C S' H' r u:=by
 cases u with
 |lst us=>obtain ⟨vs,h1,h2⟩:=h;exact ⟨vs,hr _ h1,h2.mv m⟩
 |dic ks us=>exact DAt.mv hr (fun vs q=>q.mv m) h
 |rdc ks=>exact m.p9 hr h
 |non=>exact h
 |bl _=>exact h
 |int _=>exact h
 |str _=>exact h
 |tup _=>exact h
theorem cM.rep {C:Ct}{S S':Addr→Prop}{H:Hp}{r:Addr}{u:U} (hs:∀ a,S a→S' a) (hr:S' r) (h:cM C S H r u):Rep C S' H u (.ref r):=by
 cases u with
 |lst us=>obtain ⟨vs,h1,h2⟩:=h;exact ⟨r,vs,rfl,.inl ⟨hr,.inl h1⟩,h2.mv (.up hs)⟩
 |dic ks us=>exact ⟨r,rfl,hr,DAt.mv (fun _ q=>q) (fun vs q=>q.mv (.up hs)) h⟩
 |rdc ks=>exact ⟨r,rfl,hr,h⟩
 |non=>exact h.elim
 |bl _=>exact h.elim
 |int _=>exact h.elim
 |str _=>exact h.elim
 |tup _=>exact h.elim
theorem cM.cg {C C':Ct}{S:Addr→Prop}{H:Hp}{r:Addr} (q:C.Eqv C') {u:U} (h:cM C S H r u):cM C' S H r u:=by
 cases u with
 |lst us=>obtain ⟨vs,h1,h2⟩:=h;exact ⟨vs,h1,h2.cg q⟩
 |dic ks us=>exact DAt.mv (fun _ q=>q) (fun vs z=>z.cg q) h
 |rdc ks=>show dO _ _ _ _ _ _;rw [←q.P,←q.w,←q.K];exact h
 |non=>exact h
 |bl _=>exact h
 |int _=>exact h
 |str _=>exact h
 |tup _=>exact h
theorem cM.some {C:Ct}{S:Addr→Prop}{H:Hp}{r:Addr}{u:U} (h:cM C S H r u):∃ o,H r=some o∧¬ Tp o:=by
 cases u with
 |lst us=>obtain ⟨vs,h1,_⟩:=h;exact ⟨_,h1,fun z=>z⟩
 |dic ks us=>obtain ⟨kvs,h1,_⟩:=h;exact ⟨_,h1,fun z=>z⟩
 |rdc ks=>obtain ⟨xs,h1,_⟩:=h;exact ⟨_,h1,fun z=>z⟩
 |non=>exact h.elim
 |bl _=>exact h.elim
 |int _=>exact h.elim
 |str _=>exact h.elim
 |tup _=>exact h.elim
end TM
namespace TM
open PySem L2
structure Cf where
 S:Addr→Prop
 H:Hp
 σ:St
 st:ag
 kid:Nat→List Addr
noncomputable def Cf.R1 (c:Cf) (a:Addr):Prop:=∃ (j:Nat) (k:Kd) (u:U),k.root=true∧c.st[j]?=some (some (k,u))∧c.σ[j]?=some (some (.ref a))
noncomputable def Cf.RD (c:Cf) (j:Nat) (a:Addr):Prop:=∃ (u:U) (r:Addr),c.st[j]?=some (some (.ownD,u))∧c.σ[j]?=some (some (.ref r))∧(a=r∨a∈c.kid j)
noncomputable def Cf.R (c:Cf) (a:Addr):Prop:=c.R1 a∨∃ j,c.RD j a
noncomputable def PS (C:Ct) (S:Addr→Prop):Addr→Prop:=fun a=>C.Par a∨S a
noncomputable def d5 (C:Ct) (S:Addr→Prop) (H:Hp):Kd→U→V→Prop
 |.own,u,v=>∃ r,v=.ref r∧¬ S r∧¬ C.Par r∧C.H₀ r=none∧cM C S H r u
 |.io,u,v=>∃ r,v=.ref r∧¬ S r∧¬ C.Par r∧C.IO r∧cM C S H r u
 |.loc,u,v=>Rep C S H u v
 |.any,u,v=>Rep C (PS C S) H u v
 |.bor _,_,_=>False
 |.ownD,_,v=>∃ r,v=.ref r
noncomputable def cB (C:Ct) (S:Addr→Prop) (H:Hp):List U→List Addr→Prop
 |[],as=>as=[]
 |u::us,as=>∃ a as' ys vs,as=a::as'∧u=.lst ys∧H a=some (.lst vs)∧ah C S H ys vs∧cB C S H us as'
noncomputable def bK (C:Ct) (S:Addr→Prop) (H:Hp) (r:Addr) (as:List Addr):U→Prop
 |.dic ks us=>∃ kvs:List (Key×V),H r=some (.dK kvs)∧kvs.map (·.1)=ks.map Sum.inr∧kvs.map (·.2)=as.map V.ref∧(r::as).Nodup∧(∀ a∈r::as,¬ S a∧¬ C.Par a∧C.H₀ a=none)∧cB C S H us as
 |_=>False
structure DOk (C:Ct) (c:Cf):Prop where
 kd:∀ (j:Nat) (u:U) (r:Addr),c.st[j]?=some (some (.ownD,u))→c.σ[j]?=some (some (.ref r))→bK C c.S c.H r (c.kid j) u
 dj:∀ (i j:Nat) (a:Addr),c.RD i a→c.RD j a→i=j
 d1:∀ (j:Nat) (a:Addr),c.RD j a→¬ c.R1 a
structure Ok (C:Ct) (c:Cf):Prop where
 same:∀ a o,C.H₀ a=some o→¬ C.IO a→c.H a=some o
 sfr:∀ a,c.S a→C.H₀ a=none∧∃ o,c.H a=some o
 par:∀ a,C.Par a→(∃ o,C.H₀ a=some o)∧¬ C.IO a
 io:∀ a,C.IO a→(∃ o,C.H₀ a=some o)∧∃ o,c.H a=some o
 len:c.st.length=c.σ.length
 sl:∀ (i:Nat) (k:Kd) (u:U),c.st[i]?=some (some (k,u))→∃ v,c.σ[i]?=some (some v)∧d5 C c.S c.H k u v
 inj:∀ (i j:Nat) (k k':Kd) (u u':U) (r:Addr),k.root=true→k'.root=true→c.st[i]?=some (some (k,u))→c.st[j]?=some (some (k',u'))→c.σ[i]?=some (some (.ref r))→c.σ[j]?=some (some (.ref r))→i=j
 dd:DOk C c
structure Ns (c c':Cf):Prop where
 keep:∀ a o,c.H a=some o→¬ c.R a→c'.H a=some o
 there:∀ a o,c.H a=some o→∃ o',c'.H a=some o'
 roots:∀ a,c'.R a→c.R a∨c.H a=none
 sub:∀ a,c.S a→c'.S a
 new:∀ a,c'.S a→c.S a∨c.R a∨c.H a=none
section
variable {C : Ct} {c c' c'' c0 c1 : Cf}
theorem Ns.refl (c:Cf):Ns c c:=⟨fun _ _ h _=>h,fun _ o h=>⟨o,h⟩,fun _ h=>.inl h,fun _ h=>h,fun _ h=>.inl h⟩
theorem Ns.none (n:Ns c c') {a:Addr} (h:c'.H a=.none):c.H a=.none:=by
 cases e:c.H a with
 |none=>rfl
 |some o=>obtain ⟨o',q⟩:=n.there a o e;rw [h] at q;cases q
theorem Ns.trans (m:Ns c c') (n:Ns c' c''):Ns c c'' where
 keep:=fun a o h hr=>by
  refine n.keep a o (m.keep a o h hr) fun z=>?_
  rcases m.roots a z with z|z
  ·exact hr z
  ·rw [h] at z;cases z
 there:=fun a o h=>let ⟨o',h'⟩:=m.there a o h;n.there a o' h'
 roots:=fun a h=>by
  rcases n.roots a h with z|z
  ·exact m.roots a z
  ·exact .inr (m.none z)
 sub:=fun a h=>n.sub a (m.sub a h)
 new:=fun a h=>by
  rcases n.new a h with z|z|z
  ·exact m.new a z
  ·rcases m.roots a z with z|z
   ·exact .inr (.inl z)
   ·exact .inr (.inr z)
  ·exact .inr (.inr (m.none z))
theorem d5.rt {S:Addr→Prop}{H:Hp}{k:Kd}{u:U}{v:V} (hk:k.root=true) (h:d5 C S H k u v):∃ r,v=.ref r∧¬ S r∧¬ C.Par r∧(C.H₀ r=none∨C.IO r)∧cM C S H r u:=by
 cases k with
 |own=>obtain ⟨r,h1,h2,h3,h4,h5⟩:=h;exact ⟨r,h1,h2,h3,.inl h4,h5⟩
 |io=>obtain ⟨r,h1,h2,h3,h4,h5⟩:=h;exact ⟨r,h1,h2,h3,.inr h4,h5⟩
 |_=>cases hk
theorem cB.mem {S:Addr→Prop}{H:Hp}:∀ {us:List U}{as:List Addr}{a:Addr},cB C S H us as→a∈as→∃ vs,H a=some (.lst vs)
 |[],as,a,h,ha=>by cases h;cases ha
 |u::us,as,a,h,ha=>by
  obtain ⟨a',as',ys,vs,rfl,_,h1,_,h2⟩:=h
  rcases List.mem_cons.mp ha with rfl|ha
  ·exact ⟨vs,h1⟩
  ·exact cB.mem h2 ha
theorem cB.mv {S S':Addr→Prop}{H H':Hp} (m:Mv S H S' H'):∀ {us:List U}{as:List Addr},(∀ a∈as,∀ o,H a=some o→H' a=some o)→cB C S H us as→cB C S' H' us as
 |[],as,_,h=>h
 |u::us,as,hf,h=>by
  obtain ⟨a,as',ys,vs,rfl,e,h1,h2,h3⟩:=h
  exact ⟨a,as',ys,vs,rfl,e,hf a (by simp) _ h1,h2.mv m,cB.mv m (fun a ha=>hf a (by simp [ha])) h3⟩
theorem bK.fr {S:Addr→Prop}{H:Hp}{r:Addr}{as:List Addr}{u:U} (h:bK C S H r as u):∀ a∈r::as,¬ S a∧¬ C.Par a∧C.H₀ a=none:=by
 cases u <;> first|exact h.elim|(obtain ⟨kvs,_,_,_,_,h5,_⟩:=h;exact h5)
theorem bK.there {S:Addr→Prop}{H:Hp}{r:Addr}{as:List Addr}{u:U} (h:bK C S H r as u):∀ a∈r::as,∃ o,H a=some o∧¬ Tp o:=by
 cases u <;> first|exact h.elim|skip
 obtain ⟨kvs,h1,_,_,_,_,h6⟩:=h
 intro a ha
 rcases List.mem_cons.mp ha with rfl|ha
 ·exact ⟨_,h1,fun z=>z⟩
 ·obtain ⟨vs,e⟩:=h6.mem ha
  exact ⟨_,e,fun z=>z⟩
theorem bK.mv {S S':Addr→Prop}{H H':Hp}{r:Addr}{as:List Addr}{u:U} (m:Mv S H S' H') (hf:∀ a∈r::as,¬ S' a∧∀ o,H a=some o→H' a=some o) (h:bK C S H r as u):bK C S' H' r as u:=by
 cases u <;> first|exact h.elim|skip
 obtain ⟨kvs,h1,h2,h3,h4,h5,h6⟩:=h
 exact ⟨kvs,(hf r (by simp)).2 _ h1,h2,h3,h4,fun a ha=>⟨(hf a ha).1,(h5 a ha).2⟩,h6.mv m fun a ha=>(hf a (by simp [ha])).2⟩
theorem DOk.of (d:DOk C c) (hk:c'.kid=c.kid) (hD:∀ (j:Nat) (u:U),c'.st[j]?=some (some (.ownD,u))→c.st[j]?=some (some (.ownD,u))∧c'.σ[j]?=c.σ[j]?) (h1:∀ a,c'.R1 a→c.R1 a∨∀ j,¬ c.RD j a)
  (m:Mv c.S c.H c'.S c'.H) (hf:∀ j a,c.RD j a→¬ c'.S a∧∀ o,c.H a=some o→c'.H a=some o):DOk C c':=by
 have back:∀ j a,c'.RD j a→c.RD j a:=fun j a hIx=>by
  obtain ⟨u,r,e1,e2,e3⟩:=hIx
  obtain ⟨q1,q2⟩:=hD j u e1
  rw [q2] at e2
  rw [hk] at e3
  exact ⟨u,r,q1,e2,e3⟩
 refine ⟨fun j u r e1 e2=>?_,fun i j a z1 z2=>d.dj i j a (back i a z1) (back j a z2),fun j a z1 z2=>?_⟩
 ·obtain ⟨q1,q2⟩:=hD j u e1
  rw [q2] at e2
  rw [hk]
  exact bK.mv m (fun a ha=>hf j a ⟨u,r,q1,e2,List.mem_cons.mp ha⟩) (d.kd j u r q1 e2)
 ·rcases h1 a z2 with z|z
  ·exact d.d1 j a (back j a z1) z
  ·exact z j (back j a z1)
theorem DOk.hs (d:DOk C c) {H':Hp}{S':Addr→Prop} (m:Mv c.S c.H S' H') (hf:∀ j a,c.RD j a→¬ S' a∧∀ o,c.H a=Option.some o→H' a=Option.some o):DOk C { c with H:=H',S:=S' } :=
 d.of rfl (fun _ _ e=>⟨e,rfl⟩) (fun _ z=>.inl z) m hf
theorem Ok.root (ok:Ok C c) {r:Addr} (h:c.R r):¬ c.S r∧¬ C.Par r∧(C.H₀ r=none∨C.IO r)∧∃ o,c.H r=some o∧¬ Tp o:=by
 rcases h with ⟨j,k,u,hk,h1,h2⟩|⟨j,u,r',h1,h2,h3⟩
 ·obtain ⟨v,e,hs⟩:=ok.sl j _ _ h1
  obtain ⟨r',ev,h3,h4,h5,h6⟩:=hs.rt hk
  rw [h2] at e
  cases e
  cases ev
  exact ⟨h3,h4,h5,h6.some⟩
 ·have hd:=ok.dd.kd j u r' h1 h2
  obtain ⟨q1,q2,q3⟩:=bK.fr hd r (List.mem_cons.mpr h3)
  exact ⟨q1,q2,.inl q3,bK.there hd r (List.mem_cons.mpr h3)⟩
theorem Ok.mv (ok:Ok C c) (n:Ns c c'):Mv c.S c.H c'.S c'.H:=⟨n.sub,fun a o h t=>n.keep a o h fun z=>by
  obtain ⟨_,_,_,o',h',nt⟩:=ok.root z
  rw [h] at h';cases h'
  exact nt t,fun a o s h=>n.keep a o h fun z=>(ok.root z).1 s⟩
theorem Ok.mvP (ok:Ok C c) (n:Ns c c'):Mv (PS C c.S) c.H (PS C c'.S) c'.H:=⟨fun a h=>h.imp id (n.sub a),(ok.mv n).tps,fun a o s h=>n.keep a o h fun z=>by
  rcases s with s|s
  ·exact (ok.root z).2.1 s
  ·exact (ok.root z).1 s⟩
theorem Ok.jE (ok:Ok C c) {p:Addr} (h:c.H p=none):C.H₀ p=none∧¬ c.S p∧¬ C.Par p∧¬ C.IO p∧¬ c.R p:=by
 have hio:¬ C.IO p:=fun z=>by obtain ⟨_,o,q⟩:=ok.io p z;rw [h] at q;cases q
 have h0:C.H₀ p=none:=by
  cases e:C.H₀ p with
  |none=>rfl
  |some o=>have:=ok.same p o e hio;rw [h] at this;cases this
 refine ⟨h0,fun z=>?_,fun z=>?_,hio,fun z=>?_⟩
 ·obtain ⟨_,o,q⟩:=ok.sfr p z;rw [h] at q;cases q
 ·obtain ⟨⟨o,q⟩,_⟩:=ok.par p z;rw [h0] at q;cases q
 ·obtain ⟨_,_,_,o,q,_⟩:=ok.root z;rw [h] at q;cases q
theorem d5.mv {S S':Addr→Prop}{H H':Hp}{k:Kd}{u:U}{v:V} (m:Mv S H S' H') (mp:Mv (PS C S) H (PS C S') H') (hr:k.root=true→∀ r,v=.ref r→¬ S' r∧∀ o,H r=some o→H' r=some o) (h:d5 C S H k u v):d5 C S' H' k u v:=by
 cases k with
 |own =>
  obtain ⟨r,e,h1,h2,h3,h4⟩:=h
  obtain ⟨q1,q2⟩:=hr rfl r e
  exact ⟨r,e,q1,h2,h3,h4.mv m q2⟩
 |io =>
  obtain ⟨r,e,h1,h2,h3,h4⟩:=h
  obtain ⟨q1,q2⟩:=hr rfl r e
  exact ⟨r,e,q1,h2,h3,h4.mv m q2⟩
 |loc=>exact Rep.mv m h
 |any=>exact Rep.mv mp h
 |bor j=>exact h.elim
 |ownD=>exact h
structure Nx (c c':Cf):Prop extends Ns c c' where
 all:∀ a o,c.H a=some o→c'.H a=some o
noncomputable instance {c c':Cf}:Coe (Nx c c') (Ns c c'):=⟨Nx.toNs⟩
theorem Nx.refl (c:Cf):Nx c c:=⟨.refl c,fun _ _ h=>h⟩
theorem Nx.trans (m:Nx c c') (n:Nx c' c''):Nx c c'':=⟨m.toNs.trans n.toNs,fun a o h=>n.all a o (m.all a o h)⟩
theorem Nx.none (n:Nx c c') {a:Addr} (h:c'.H a=.none):c.H a=.none:=n.toNs.none h
theorem Ok.lay (ok:Ok C c) {p:Addr}{o:HO} (h:c.H p=none):Ok C { c with H:=upd c.H p o }∧Nx c { c with H:=upd c.H p o }:=by
 have ne:∀ {a:Addr} {o':HO},c.H a=some o'→a≠p:=fun e z=>by subst z;rw [h] at e;cases e
 have kp:∀ a o',c.H a=some o'→(upd c.H p o) a=some o':=fun a o' e=>by rw [ai (ne e)];exact e
 have nx:Nx c { c with H:=upd c.H p o }:=⟨⟨fun a o' e _=>kp a o' e,fun a o' e=>⟨o',kp a o' e⟩,fun a z=>.inl z,fun _ z=>z,fun _ z=>.inl z⟩,kp⟩
 refine ⟨⟨fun a o' e z=>kp a o' (ok.same a o' e z),fun a z=>⟨(ok.sfr a z).1,let ⟨o',q⟩:=(ok.sfr a z).2;⟨o',kp a o' q⟩⟩,ok.par,fun a z=>⟨(ok.io a z).1,let ⟨o',q⟩:=(ok.io a z).2;⟨o',kp a o' q⟩⟩,ok.len,fun i k u e=>?_,ok.inj,ok.dd.hs (ok.mv nx.toNs) fun j a z=>⟨(ok.root (.inr ⟨j,z⟩)).1,fun o' e=>kp a o' e⟩⟩,nx⟩
 obtain ⟨v,e1,e2⟩:=ok.sl i k u e
 refine ⟨v,e1,e2.mv (ok.mv nx.toNs) (ok.mvP nx.toNs) fun hk r er=>?_⟩
 obtain ⟨r',er',q1,_⟩:=e2.rt hk
 rw [er] at er'
 cases er'
 exact ⟨q1,fun o' e=>kp r o' e⟩
theorem Ok.grow (ok:Ok C c) {H':Hp}{S':Addr→Prop} (hs:xW c.H H') (hS:∀ a,S' a→c.S a∨(c.H a=none∧∃ o,H' a=some o)) (hS1:∀ a,c.S a→S' a):Ok C { c with H:=H',S:=S' }∧Nx c { c with H:=H',S:=S' }:=by
 have nx:Nx c { c with H:=H',S:=S' }:=⟨⟨fun a o' e _=>hs a o' e,fun a o' e=>⟨o',hs a o' e⟩,fun a z=>.inl z,hS1,fun a z=>(hS a z).imp id fun q=>.inr q.1⟩,hs⟩
 refine ⟨⟨fun a o' e z=>hs a o' (ok.same a o' e z),fun a z=>?_,ok.par,fun a z=>⟨(ok.io a z).1,let ⟨o',q⟩:=(ok.io a z).2;⟨o',hs a o' q⟩⟩,ok.len,fun i k u e=>?_,ok.inj,ok.dd.hs (ok.mv nx.toNs) fun j a z=>⟨fun z'=>?_,fun o' e=>hs a o' e⟩⟩,nx⟩
 rotate_left 2
 ·obtain ⟨q1,_,_,o,q4,_⟩:=ok.root (.inr ⟨j,z⟩)
  rcases hS a z' with z'|⟨z',_⟩
  ·exact q1 z'
  ·rw [q4] at z';cases z'
 ·rcases hS a z with q|⟨q1,q2⟩
  ·exact ⟨(ok.sfr a q).1,let ⟨o',q⟩:=(ok.sfr a q).2;⟨o',hs a o' q⟩⟩
  ·exact ⟨(ok.jE q1).1,q2⟩
 ·obtain ⟨v,e1,e2⟩:=ok.sl i k u e
  refine ⟨v,e1,e2.mv (ok.mv nx.toNs) (ok.mvP nx.toNs) fun hk r er=>?_⟩
  obtain ⟨r',er',q1,q2,q3,q4⟩:=e2.rt hk
  rw [er] at er'
  cases er'
  obtain ⟨o,ho,_⟩:=q4.some
  refine ⟨fun z=>?_,fun o' e=>hs r o' e⟩
  rcases hS r z with z|⟨z,_⟩
  ·exact q1 z
  ·rw [z] at ho;cases ho
noncomputable def aB (C:Ct) (c0 c:Cf):Kd→U→V→Prop
 |.own,u,v=>∃ r,v=.ref r∧c0.H r=none∧¬ c.S r∧¬ c.R r∧cM C c.S c.H r u
 |.loc,u,v=>Rep C c.S c.H u v
 |.any,u,v=>Rep C (PS C c.S) c.H u v
 |.bor j,u,v=>(∃ k:Kd,k.root=true∧c.st[j]?=some (some (k,u)))∧c.σ[j]?=some (some v)
 |.io,_,_=>False
 |.ownD,_,_=>False
noncomputable def d6 (C:Ct) (c0 c:Cf):Kd→U→V→Prop
 |.own,u,v=>∃ r,v=.ref r∧c0.H r=none∧¬ c.S r∧¬ c.R r∧cM C c.S c.H r u
 |.loc,u,v=>Rep C c.S c.H u v
 |.any,u,v=>Rep C (PS C c.S) c.H u v
 |.bor j,u,v=>c.σ[j]?=some (some v)
 |.io,_,_=>False
 |.ownD,_,_=>False
theorem aB.w {k:Kd}{u:U}{v:V} (h:aB C c0 c k u v):d6 C c0 c k u v:=by
 cases k with
 |own=>exact h
 |loc=>exact h
 |any=>exact h
 |bor j=>exact h.2
 |io=>exact h
 |ownD=>exact h
theorem d6.on' {k:Kd}{u:U}{v:V} (ok:Ok C c) (n:Ns c c') (hσ:∀ j,k=.bor j→c'.σ[j]?=c.σ[j]?) (h:d6 C c0 c k u v):d6 C c0 c' k u v:=by
 cases k with
 |own =>
  obtain ⟨r,e,h1,h2,h3,h4⟩:=h
  obtain ⟨o,ho,_⟩:=h4.some
  refine ⟨r,e,h1,fun z=>?_,fun z=>?_,h4.mv (ok.mv n) fun o q=>n.keep r o q h3⟩
  ·rcases n.new r z with z|z|z
   ·exact h2 z
   ·exact h3 z
   ·rw [z] at ho;cases ho
  ·rcases n.roots r z with z|z
   ·exact h3 z
   ·rw [z] at ho;cases ho
 |loc=>exact Rep.mv (ok.mv n) h
 |any=>exact Rep.mv (ok.mvP n) h
 |bor j=>show c'.σ[j]?=_;rw [hσ j rfl];exact h
 |io=>exact h
 |ownD=>exact h
theorem d6.on {k:Kd}{u:U}{v:V} (ok:Ok C c) (n:Ns c c') (hσ:c'.σ=c.σ) (h:d6 C c0 c k u v):d6 C c0 c' k u v:=h.on' ok n fun j _=>by rw [hσ]
theorem d6.from {k:Kd}{u:U}{v:V} (n:Ns c0 c1) (h:d6 C c1 c k u v):d6 C c0 c k u v:=by
 cases k with
 |own=>obtain ⟨r,e,h1,h2⟩:=h;exact ⟨r,e,n.none h1,h2⟩
 |loc=>exact h
 |any=>exact h
 |bor j=>exact h
 |io=>exact h
 |ownD=>exact h
theorem aB.from {k:Kd}{u:U}{v:V} (n:Ns c0 c1) (h:aB C c1 c k u v):aB C c0 c k u v:=by
 cases k with
 |own=>obtain ⟨r,e,h1,h2⟩:=h;exact ⟨r,e,n.none h1,h2⟩
 |loc=>exact h
 |any=>exact h
 |bor j=>exact h
 |io=>exact h
 |ownD=>exact h
noncomputable def SK (C:Ct) (c:Cf):Kd→Addr→Prop
 |.any=>PS C c.S
 |_=>c.S
noncomputable def kE:Kd→Kd
 |.any=>.any
 |_=>.loc
theorem Ok.rootOf (ok:Ok C c) {j:Nat}{u:U}{v:V} (h:∃ k:Kd,k.root=true∧c.st[j]?=some (some (k,u))) (e:c.σ[j]?=some (some v)):∃ r,v=.ref r∧¬ c.S r∧¬ C.Par r∧(C.H₀ r=none∨C.IO r)∧cM C c.S c.H r u:=by
 obtain ⟨k,hk,h⟩:=h
 obtain ⟨v',e1,e2⟩:=ok.sl j _ _ h
 rw [e] at e1
 cases e1
 exact e2.rt hk
theorem aB.list {k:Kd}{us:List U}{v:V} (ok:Ok C c) (h:aB C c0 c k (.lst us) v):∃ a vs,v=.ref a∧SqL C.K c.H a vs∧ah C (SK C c k) c.H us vs:=by
 cases k with
 |own=>obtain ⟨r,e,_,_,_,vs,h1,h2⟩:=h;exact ⟨r,vs,e,SqL.of h1,h2⟩
 |loc=>obtain ⟨a,vs,e,h1,h2⟩:=h;exact ⟨a,vs,e,h1.sq,h2⟩
 |any=>obtain ⟨a,vs,e,h1,h2⟩:=h;exact ⟨a,vs,e,h1.sq,h2⟩
 |bor j=>obtain ⟨r,e,_,_,_,vs,h1,h2⟩:=ok.rootOf h.1 h.2;exact ⟨r,vs,e,SqL.of h1,h2⟩
 |io=>exact h.elim
 |ownD=>exact h.elim
theorem aB.tuple {k:Kd}{us:List U}{v:V} (ok:Ok C c) (h:aB C c0 c k (.tup us) v):∃ a vs,v=.ref a∧SqT C.K c.H a vs∧ah C (SK C c k) c.H us vs:=by
 cases k with
 |own=>obtain ⟨r,e,_,_,_,h⟩:=h;exact h.elim
 |loc=>obtain ⟨a,vs,e,h1,h2⟩:=h;exact ⟨a,vs,e,h1,h2⟩
 |any=>obtain ⟨a,vs,e,h1,h2⟩:=h;exact ⟨a,vs,e,h1,h2⟩
 |bor j=>obtain ⟨r,e,_,_,_,h⟩:=ok.rootOf h.1 h.2;exact h.elim
 |io=>exact h.elim
 |ownD=>exact h.elim
theorem aB.flat {k:Kd}{u:U}{v:V} (ok:Ok C c) (hu:imm u=true) (h:aB C c0 c k u v):Rep C c.S c.H u v:=by
 cases k with
 |own=>obtain ⟨r,e,_,_,_,h⟩:=h;cases u <;> simp [imm] at hu <;> exact h.elim
 |loc=>exact h
 |any=>exact Rep.imm hu h
 |bor j=>obtain ⟨r,e,_,_,_,h⟩:=ok.rootOf h.1 h.2;cases u <;> simp [imm] at hu <;> exact h.elim
 |io=>exact h.elim
 |ownD=>exact h.elim
theorem aB.int {k:Kd}{i:Int}{v:V} (ok:Ok C c) (h:aB C c0 c k (.int i) v):v=.int i:=h.flat ok rfl
theorem aB.str {k:Kd}{x:Str}{v:V} (ok:Ok C c) (h:aB C c0 c k (.str x) v):v=.str x:=h.flat ok rfl
theorem aB.bl {k:Kd}{b:Bool}{v:V} (ok:Ok C c) (h:aB C c0 c k (.bl b) v):v=.bl b:=h.flat ok rfl
theorem aB.item {k:Kd}{u:U}{v:V} (h:Rep C (SK C c k) c.H u v):aB C c0 c (kE k) u v:=by
 cases k <;> exact h
noncomputable def Dom (H:Hp):Addr→Prop:=fun a=>∃ o,H a=some o
theorem Ok.vn (ok:Ok C c):∀ a,c.S a→Dom c.H a:=fun a h=>(ok.sfr a h).2
theorem Ok.Ba (ok:Ok C c):∀ a,PS C c.S a→Dom c.H a:=fun a h=>by
 rcases h with h|h
 ·obtain ⟨⟨o,e⟩,n⟩:=ok.par a h
  exact ⟨o,ok.same a o e n⟩
 ·exact ok.vn a h
theorem aB.read {k:Kd}{u:U}{v:V} (ok:Ok C c) (h:aB C c0 c k u v):Rep C (Dom c.H) c.H u v:=by
 cases k with
 |own =>
  obtain ⟨r,e,_,_,_,h4⟩:=h
  rw [e]
  obtain ⟨o,ho,_⟩:=h4.some
  exact h4.rep ok.vn ⟨o,ho⟩
 |loc=>exact Rep.mv (.up ok.vn) h
 |any=>exact Rep.mv (.up ok.Ba) h
 |bor j =>
  obtain ⟨r,e,_,_,_,h4⟩:=ok.rootOf h.1 h.2
  rw [e]
  obtain ⟨o,ho,_⟩:=h4.some
  exact h4.rep ok.vn ⟨o,ho⟩
 |io=>exact h.elim
 |ownD=>exact h.elim
theorem Ok.newList (ok:Ok C c) (n:Nx c0 c) {p:Addr}{us:List U}{vs:List V} (h:c.H p=none) (hr:ah C c.S c.H us vs) :
  Ok C { c with H:=upd c.H p (.lst vs) }∧Nx c0 { c with H:=upd c.H p (.lst vs) }∧aB C c0 { c with H:=upd c.H p (.lst vs) } .own (.lst us) (.ref p):=by
 obtain ⟨ok',n'⟩:=ok.lay (o:=.lst vs) h
 obtain ⟨h0,h1,h2,h3,h4⟩:=ok.jE h
 exact ⟨ok',n.trans n',p,rfl,n.none h,h1,h4,vs,aq,hr.mv (ok.mv n'.toNs)⟩
theorem Ok.yi (ok:Ok C c) (n:Nx c0 c) {p:Addr}{us:List U}{vs:List V} (h:c.H p=none) (hr:ah C c.S c.H us vs) :
  Ok C { c with H:=upd c.H p (.tup vs) }∧Nx c0 { c with H:=upd c.H p (.tup vs) }∧aB C c0 { c with H:=upd c.H p (.tup vs) } .loc (.tup us) (.ref p):=by
 obtain ⟨ok',n'⟩:=ok.lay (o:=.tup vs) h
 exact ⟨ok',n.trans n',p,vs,rfl,SqT.of aq,hr.mv (ok.mv n'.toNs)⟩
end
end TM
namespace TM
open PySem L2
inductive Ex (α:Type) where|ok (a:α)|exc (c:Str)
noncomputable def M (α:Type):=ag→Option (Ex α×ag)
namespace M
variable {α β : Type}
noncomputable def pure (a:α):M α:=fun st=>some (.ok a,st)
noncomputable def fail:M α:=fun _=>none
noncomputable def bind (m:M α) (f:α→M β):M β:=fun st=>match m st with
 |none=>none
 |some (.ok a,st')=>f a st'
 |some (.exc c,st')=>some (.exc c,st')
noncomputable def ofO (o:Option α):M α:=fun st=>match o with
 |none=>none
 |some a=>some (.ok a,st)
end M
noncomputable instance:Monad M:={ pure:=M.pure,bind:=M.bind }
noncomputable def W {α:Type} (m:M α) (st:ag) (Q:α→ag→Prop):Prop:=∃ a st',m st=some (.ok a,st')∧Q a st'
section
variable {α β : Type} {m : M α} {f : α → M β} {st : ag}
theorem af {a:α}{Q:α→ag→Prop}:W (pure a) st Q↔Q a st:=by
 constructor
 ·rintro ⟨b,st',e,h⟩;cases e;exact h
 ·intro h;exact ⟨a,st,rfl,h⟩
theorem ab {Q:β→ag→Prop}:W (m >>= f) st Q↔W m st fun a st'=>W (f a) st' Q:=by
 constructor
 ·rintro ⟨b,st',e,h⟩
  have e':M.bind m f st=some (.ok b,st'):=e
  unfold M.bind at e'
  cases q:m st with
  |none=>rw [q] at e';cases e'
  |some r =>
   obtain ⟨r,s1⟩:=r
   rw [q] at e'
   cases r with
   |ok a=>exact ⟨a,s1,q,b,st',e',h⟩
   |exc c=>cases e'
 ·rintro ⟨a,s1,q,b,st',e,h⟩
  refine ⟨b,st',?_,h⟩
  show M.bind m f st=_
  unfold M.bind
  rw [q]
  exact e
theorem bP {o:Option α}{Q:α→ag→Prop}:W (M.ofO o) st Q↔∃ a,o=some a∧Q a st:=by
 cases o with
 |none=>exact ⟨fun ⟨_,_,e,_⟩=>(by cases e),fun ⟨_,e,_⟩=>(by cases e)⟩
 |some a=>exact ⟨fun ⟨_,_,e,h⟩=>(by cases e;exact ⟨a,rfl,h⟩),fun ⟨_,e,h⟩=>(by cases e;exact ⟨a,st,rfl,h⟩)⟩
theorem av {Q:α→ag→Prop}:W (M.fail:M α) st Q↔False:=⟨fun ⟨_,_,e,_⟩=>(by cases e),False.elim⟩
theorem W.mono {Q Q':α→ag→Prop} (h:W m st Q) (i:∀ a s,Q a s→Q' a s):W m st Q':=let ⟨a,s,e,q⟩:=h;⟨a,s,e,i a s q⟩
end
inductive Bop where|add|sub|mul|fdv|mod|pow
deriving DecidableEq
inductive Cop where|eq|ne|lt|le|gt|ge|isin|notin|is|isnt
deriving DecidableEq
inductive Bf where|len|sorted|list|tuple|str|int|repr|max|min|all|any
deriving DecidableEq
inductive B2 where|revT|revL|sset|jx
deriving DecidableEq
inductive Mf where|split|join|partition|endswith
deriving DecidableEq
inductive Ty5 where|str|list|tuple|int|bool
deriving DecidableEq
inductive Ik where|seq|rng1|rng2|enm|zip|rev
deriving DecidableEq
inductive E where
 |var (i:Nat)
 |cst (u:U)
 |glb (x:Str) (u:U)
 |bin (op:Bop) (a b:E)
 |cmp (op:Cop) (a b:E)
 |cmp2 (o1 o2:Cop) (a b c:E)
 |and (es:List E)|or (es:List E)|not (a:E)
 |ite (c a b:E)
 |tup (es:List E)|lst (es:List E)|dnew (r:Bool)
 |idx (a b:E)
 |slc (a:E) (lo hi:List E)
 |bi (f:Bf) (es:List E)
 |bi2 (f:B2) (es:List E)
 |mth (m:Mf) (a:E) (es:List E)
 |call (f:Str) (es:List E)
 |comp (k:Nat) (t:Bool) (ik:Ik) (src:List E) (cond:List E) (e:E)
 |neg (a:E)|bad|isi (a:E) (T:Ty5)|fst (es:List E)|inD (neg:Bool) (a:E) (i:Nat)|pub (i:Nat)|get2 (i:Nat) (k d:E)|sit (i:Nat)|sdf (ln:Bool) (a b:E)
inductive S where
 |set (i:Nat) (e:E)
 |setT (is:List Nat) (e:E)
 |put (i:Nat) (k v:E)
 |app (i:Nat) (e:E)|ext (i:Nat) (e:E)|bad|newD (i:Nat)|putD (i:Nat) (k v:E)|appD (i:Nat) (k v:E)|aug (sub:Bool) (i:Nat) (k v:E)|rvs (i:Nat)
 |exp (e:E)
 |ret (e:E)|retN
 |ite (c:E) (a b:List S)
 |for_ (t:Bool) (is:List Nat) (ik:Ik) (src:List E) (body:List S)
 |whl (c:E) (body:List S)
 |brk|cnt|pas
noncomputable def isAny:Kd→Bool
 |.any=>true
 |_=>false
noncomputable def lr (k:Kd) (xs:List U):Bool:=!isAny k||fQ xs
noncomputable def cut {α:Type} (xs:List α) (lo hi:Option Int):List α:=(xs.drop (HT.sIx xs.length 0 lo)).take (HT.sIx xs.length xs.length hi - HT.sIx xs.length 0 lo)
noncomputable def sT:Kd×U→Kd×U→Option (Kd×U)
 |(_,.int i),(_,.int j)=>some (.loc,.int (i+j))
 |(_,.str x),(_,.str y)=>if x.length+y.length≤sizeLine then some (.loc,.str (x++y)) else none
 |(k,.lst xs),(k',.lst ys)=>if xs.length+ys.length≤sizeLine∧lr k xs=true∧lr k' ys=true then some (.own,.lst (xs++ys)) else none
 |_,_=>none
noncomputable def oN (f:Int→Int→Option Int):U→U→Option (Kd×U)
 |.int i,.int j=>(f i j).map fun n=>(.loc,.int n)
 |_,_=>none
noncomputable def vp (i j:Int):Option Int:=if ((-(2 ^ 64)<i∧i<2 ^ 64)∨(-(2 ^ 64)<j∧j<2 ^ 64)) then some (i * j) else none
noncomputable def vq (i j:Int):Option Int:=if 0<j∧j<1073741824 then some (i / j) else none
noncomputable def vt (i j:Int):Option Int:=if 0<j then some (i % j) else none
noncomputable def vv (i j:Int):Option Int:=if 0≤j∧j≤1000000∧i.natAbs<2 ^ 64 then some (i ^ j.toNat) else none
noncomputable def opU (op:Bop) (x y:Kd×U):Option (Kd×U):=match op with
 |.add=>sT x y
 |.sub=>oN (fun i j=>some (i - j)) x.2 y.2
 |.mul=>oN vp x.2 y.2
 |.fdv=>oN vq x.2 y.2
 |.mod=>oN vt x.2 y.2
 |.pow=>oN vv x.2 y.2
mutual
noncomputable def eqD:Nat→U→Bool
 |_,.dic _ _=>false
 |_,.rdc _=>false
 |0,.tup _=>false
 |0,.lst _=>false
 |n+1,.tup xs=>bM n xs
 |n+1,.lst xs=>bM n xs
 |_,.non=>true|_,.bl _=>true|_,.int _=>true|_,.str _=>true
noncomputable def bM:Nat→List U→Bool
 |_,[]=>true
 |n,u::us=>eqD n u&&bM n us
end
mutual
noncomputable def aV:U→U→Bool
 |.non,.non=>true
 |.bl a,.bl b=>a==b
 |.bl a,.int b=>(if a then 1 else 0)==b
 |.int a,.bl b=>a==(if b then 1 else 0)
 |.int a,.int b=>a==b
 |.str a,.str b=>a==b
 |.tup xs,.tup ys=>bQ xs ys
 |.lst xs,.lst ys=>bQ xs ys
 |_,_=>false
noncomputable def bQ:List U→List U→Bool
 |[],[]=>true
 |u::us,w::ws=>aV u w&&bQ us ws
 |_,_=>false
end
noncomputable def inU (x:U) (ys:List U):Option Bool:=if eqD 50 x=true∧bM 50 ys=true then some (ys.any fun y=>aV y x) else none
noncomputable def strsOf:List U→Option (List Str)
 |[]=>some []
 |.str x::us=>(strsOf us).map (x::·)
 |_::_=>none
noncomputable def rowOf:U→Option dw
 |.tup [.str x,.tup ys]=>(strsOf ys).map fun ss=>(x,ss)
 |_=>none
noncomputable def vA:U→U→Option Bool
 |x,.lst ys=>inU x ys
 |x,.tup ys=>inU x ys
 |.str x,.dic ks _=>some (decide (x∈ks))
 |x,.rdc ks=>(rowOf x).map fun r=>decide (r∈ks)
 |_,_=>none
noncomputable def cN:List Str→List U→Str→Option U
 |y::ks,u::us,x=>if y=x then some u else cN ks us x
 |_,_,_=>none
noncomputable def dput (ks:List Str) (us:List U) (x:Str) (u:U):List Str×List U :=
 if x∈ks then (ks,(ks.zip us).map fun p=>if p.1=x then u else p.2) else (ks++[x],us++[u])
noncomputable def bh:Cop→U→U→Option Bool
 |.eq,a,b=>if eqD 50 a=true∧eqD 50 b=true then some (aV a b) else none
 |.ne,a,b=>if eqD 50 a=true∧eqD 50 b=true then some (!aV a b) else none
 |.lt,.int i,.int j=>some (decide (i<j))
 |.gt,.int i,.int j=>some (decide (j<i))
 |.ge,.int i,.int j=>some (decide (j≤i))
 |.isin,x,y=>vA x y
 |.notin,x,y=>(vA x y).map (!·)
 |_,_,_=>none
noncomputable def iT:List U→Option (List Bool)
 |[]=>some []
 |.bl x::us=>(iT us).map (x::·)
 |_::_=>none
noncomputable def fR:Kd×U→U→Option (Kd×U)
 |(k,.lst xs),.int i=>(atI xs i).map fun u=>(kE k,u)
 |(k,.tup xs),.int i=>(atI xs i).map fun u=>(kE k,u)
 |(_,.str x),.int i=>if x.length≤sizeLine then (atI x.cps.toList i).map fun c=>(.loc,.str ⟨#[c]⟩) else none
 |_,_=>none
noncomputable def oO:Kd×U→Option Int→Option Int→Option (Kd×U)
 |(k,.lst xs),lo,hi=>if lr k xs=true then some (.own,.lst (cut xs lo hi)) else none
 |(k,.tup xs),lo,hi=>some (kE k,.tup (cut xs lo hi))
 |(_,.str x),lo,hi=>if x.length≤sizeLine then some (.loc,.str (PySem.StrLaws.sliceText x lo hi)) else none
 |_,_,_=>none
noncomputable def yj:U→Option Nat
 |.lst xs=>some xs.length
 |.tup xs=>some xs.length
 |.str x=>if x.length≤sizeLine then some x.length else none
 |_=>none
noncomputable def gw {β:Type} (f:Kd×U→Option β):List (Kd×U)→Option β
 |[x]=>f x
 |_=>none
noncomputable def yk:Kd×U→Option (Kd×U)
 |(_,.lst xs)=>(strsOf xs).bind fun ss=>if ss.length<64 then some (.own,.lst ((aO ss).map .str)) else none
 |(_,.tup xs)=>(strsOf xs).bind fun ss=>if ss.length<64 then some (.own,.lst ((aO ss).map .str)) else none
 |_=>none
noncomputable def yl:Kd×U→Option (Kd×U)
 |(k,.lst xs)=>some (kE k,.tup xs)
 |(k,.tup xs)=>some (kE k,.tup xs)
 |_=>none
noncomputable def vB:Kd×U→Option (Kd×U)
 |(_,.int i)=>if i.natAbs.log2<1920 then some (.loc,.str (toString i)) else none
 |_=>none
noncomputable def ym:Kd×U→Option (Kd×U)
 |(_,.lst xs)=>(iT xs).map fun bs=>(.loc,.bl (bs.all id))
 |_=>none
noncomputable def biU (f:Bf) (rs:List (Kd×U)):Option (Kd×U):=match f with
 |.len=>gw (fun x=>(yj x.2).map fun (n:Nat)=>(Kd.loc,U.int (n:Int))) rs
 |.sorted=>gw yk rs
 |.tuple=>gw yl rs
 |.str=>gw vB rs
 |.all=>gw ym rs
 |_=>none
noncomputable def mZ:U→Option (List Str)
 |.lst xs=>(strsOf xs).bind fun ss=>if ss.length+1<scanBound then some (aE ss) else none
 |.tup xs=>(strsOf xs).bind fun ss=>if ss.length+1<scanBound then some (aE ss) else none
 |_=>none
noncomputable def oP (f:B2) (rs:List (Kd×U)):Option (Kd×U):=match f with
 |.sset=>gw (fun x=>(mZ x.2).bind fun ss=>if ss.length<64 then some (.own,.lst ((aO ss).map .str)) else none) rs
 |.jx=>gw (fun x=>(mZ x.2).map fun ss=>(.loc,.int ss.length)) rs
 |_=>none
noncomputable def hU:Mf→U→List (Kd×U)→Option (Kd×U)
 |.split,.str a,[(_,.str b)]=>if (b.length==0)=false∧a.length+2≤sizeLine then some (.own,.lst ((Txt.split a b).map .str)) else none
 |.join,.str a,[(_,.lst xs)]=>(strsOf xs).bind fun ss=>if JoinOk a ss=true then some (.loc,.str (Txt.join a ss)) else none
 |_,_,_=>none
noncomputable def Bb:Kd×U→Option (List (Kd×U))
 |(k,.lst xs)=>some (xs.map fun u=>(kE k,u))
 |(k,.tup xs)=>some (xs.map fun u=>(kE k,u))
 |_=>none
noncomputable def q_:Kd×U→Option (List (Kd×U))
 |(_,.int n)=>if n<2 ^ 62∧-(2 ^ 62)<n then some ((List.range n.toNat).map fun i:Nat=>(Kd.loc,U.int (0+(i:Int)))) else none
 |_=>none
noncomputable def yn:Kd×U→Option (List (Kd×U))
 |(k,.lst xs)=>some (xs.zipIdx.map fun p=>(kE k,.tup [.int p.2,p.1]))
 |(k,.tup xs)=>some (xs.zipIdx.map fun p=>(kE k,.tup [.int p.2,p.1]))
 |_=>none
noncomputable def itU (ik:Ik) (rs:List (Kd×U)):Option (List (Kd×U)):=match ik with
 |.seq=>gw Bb rs
 |.rng1=>gw q_ rs
 |.enm=>gw yn rs
 |_=>none
noncomputable def intsOf:List U→Option (List Int)
 |[]=>some []
 |.int x::us=>(intsOf us).map (x::·)
 |_::_=>none
noncomputable def vC (ps:List (Str×Int)):List (Str×Int):=(gZ (ps.map (·.1))).map fun i=>ps.getD i (Str.empty,0)
noncomputable def rf (p:Str×Int):U:=.tup [.str p.1,.int p.2]
noncomputable def sU:U→Option (Kd×U)
 |.dic ks us=>(intsOf us).bind fun ns=>if ks.length<64∧ks.Nodup∧ks.length=ns.length then some (.own,.lst ((vC (ks.zip ns)).map rf)) else none
 |_=>none
noncomputable def lu:U→Option Bool
 |.bl b=>some b
 |.lst xs=>some !xs.isEmpty
 |.tup xs=>some !xs.isEmpty
 |.str x=>if x.length≤sizeLine then some ((x.length:Int) != 0) else none
 |_=>none
noncomputable def lift:Kd×U→M U
 |(.own,u)=>pure u
 |(.loc,u)=>pure u
 |(.any,u)=>if imm u=true then pure u else M.fail
 |(.bor j,_)=>fun st=>match st[j]? with
  |some (some (.own,u))=>some (.ok u,st.set j (some (.loc,u)))
  |_=>none
 |(.io,_)=>M.fail
 |(.ownD,_)=>M.fail
noncomputable def cv:List (Kd×U)→M (List U)
 |[]=>pure []
 |r::rs=>do let u ←lift r;let us ←cv rs;pure (u::us)
noncomputable def dU (i:Nat):Kd×U→M Unit
 |(.bor j,_)=>fun st=>match st[j]? with
  |some (some (.own,u))=>some (.ok (),(st.set j (some (.loc,u))).set i (some (.loc,u)))
  |_=>none
 |(.io,_)=>M.fail
 |(.ownD,_)=>M.fail
 |(k,u)=>fun st=>some (.ok (),st.set i (some (k,u)))
noncomputable def bj:List (Kd×U)→ag→Prop
 |[],_=>True
 |(.bor j,u)::rs,st=>(∃ k:Kd,k.root=true∧st[j]?=some (some (k,u)))∧bj rs st
 |_::rs,st=>bj rs st
open Classical in
noncomputable def au (rs:List (Kd×U)):M Unit:=fun st=>if bj rs st then some (.ok (),st) else none
noncomputable abbrev Tab:=Str→List U→Option (Ex (Kd×U))
noncomputable def iU (Γ:Tab) (f:Str) (us:List U):M (Kd×U):=fun st=>match Γ f us with
 |none=>none
 |some r=>some (r,st)
noncomputable def cT (i:Nat):M (Kd×U):=fun st=>match st[i]? with
 |some (some (.ownD,_))=>none
 |some (some (k,u))=>some (.ok (if k.root=true then .bor i else k,u),st)
 |_=>none
noncomputable def eO (i:Nat):M (List Str×List U):=fun st=>match st[i]? with
 |some (some (.ownD,.dic ks us))=>some (.ok (ks,us),st)
 |_=>none
noncomputable def fS (x:Kd×U):M Str:=match x.2 with
 |.str y=>pure y
 |_=>M.fail
noncomputable def inB (neg:Bool) (y:Str) (ks:List Str):Bool:=if neg=true then !decide (y∈ks) else decide (y∈ks)
noncomputable def sV (i:Nat):M (Kd×U):=fun st=>match st[i]? with
 |some (some (.ownD,u))=>some (.ok (.bor i,u),st.set i (some (.own,u)))
 |_=>cT i st
noncomputable def wW (i:Nat):M Unit:=fun st=>some (.ok (),st.set i (some (.ownD,.dic [] [])))
noncomputable def iV (i:Nat) (y:Str):Kd×U→M Unit
 |(.own,.lst us)=>fun st=>match st[i]? with
  |some (some (.ownD,.dic ks vs))=>if y∉ks∧ks.length<sizeLine then some (.ok (),st.set i (some (.ownD,.dic (ks++[y]) (vs++[.lst us])))) else none
  |_=>none
 |_=>M.fail
noncomputable def hV:List Str→List U→Str→U→List U
 |k::ks,v::vs,y,u=>if k=y then u::vs else v::hV ks vs y u
 |_,vs,_,_=>vs
noncomputable def iW (i:Nat) (y:Str) (u:U):M Unit:=fun st=>match st[i]? with
 |some (some (.ownD,.dic ks vs))=>match cN ks vs y with
  |some (.lst xs)=>if xs.length<sizeLine then some (.ok (),st.set i (some (.ownD,.dic ks (hV ks vs y (.lst (xs++[u])))))) else none
  |_=>none
 |_=>none
noncomputable def isD:U→M Unit
 |.dic _ _=>pure ()
 |_=>M.fail
noncomputable def vD (x:Kd×U) (y:Str) (u:U):Option (Kd×U):=match x with
 |(k,.dic ks us)=>some (match cN ks us y with|some v=>(kE k,v)|none=>(.loc,u))
 |_=>none
noncomputable def m3 (i:Nat):M (List U):=fun st=>match st[i]? with
 |some (some (k,.lst us))=>if k.root=true then some (.ok us,st) else none
 |_=>none
noncomputable def rg (x:Kd×U):M Int:=match x.2 with
 |.int j=>pure j
 |_=>M.fail
noncomputable def m4 (us:List U) (j:Int):Option Int:=if 0≤j then (match us[j.toNat]? with|some (.int o)=>some o|_=>none) else none
noncomputable def rh (sub:Bool) (o w:Int):Int:=if sub=true then o - w else o+w
noncomputable def vE:U→Option U
 |.lst us=>some (.lst us.reverse)
 |_=>none
noncomputable def sets:List Nat→List (Kd×U)→M Unit
 |[],[]=>pure ()
 |i::is,r::rs=>do dU i r;sets is rs
 |_,_=>M.fail
noncomputable def cE (t:Bool) (is:List Nat) (r:Kd×U):M Unit:=match t,is,r with
 |false,[i],r=>dU i r
 |true,is,(k,.tup xs)=>sets is (xs.map fun u=>(kE k,u))
 |_,_,_=>M.fail
noncomputable def inScope {α:Type} (k:Nat) (m:M α):M α:=fun st=>match m (List.replicate k none++st) with
 |none=>none
 |some (r,st')=>some (r,st'.drop k)
noncomputable def bB (k:Nat) (t:Bool) (cond:M Bool) (elt:M (Kd×U)) (src:List (Kd×U)):List (Kd×U)→List U→M (List U)
 |[],acc=>do au src;pure acc
 |x::xs,acc=>do
  au src
  let r ←inScope k (cE t (List.range k) x >>= fun _=>cond >>= fun b=>if b=true then (elt >>= fun r=>lift r >>= fun u=>pure (some u)) else pure none)
  match r with
  |some u=>if acc.length<sizeLine then bB k t cond elt src xs (acc++[u]) else M.fail
  |none=>bB k t cond elt src xs acc
noncomputable def oQ:U→Ty5→Option Bool
 |.str _,T=>some (decide (T=.str))
 |.int _,T=>some (decide (T=.int))
 |.bl _,.bool=>some true
 |.bl _,.int=>some true
 |.lst _,.list=>some true
 |.tup _,.tuple=>some true
 |_,_=>none
noncomputable def Bc:Kd×U→Option (Kd×U)
 |(_,.int i)=>some (.loc,.int (-i))
 |_=>none
noncomputable def yo (x:Kd×U):M (Option Int):=match x.2 with
 |.int i=>pure (some i)
 |_=>M.fail
section
variable (Γ : Tab)
mutual
noncomputable def ev:E→M (Kd×U)
 |.var i=>cT i
 |.cst u=>pure (.loc,u)
 |.glb _ u=>pure (.loc,u)
 |.bin op a b=>do
  let x ←ev a
  let y ←ev b
  au [x,y]
  M.ofO (opU op x y)
 |.cmp op a b=>do
  let x ←ev a
  let y ←ev b
  au [x,y]
  let c ←M.ofO (bh op x.2 y.2)
  pure (.loc,.bl c)
 |.cmp2 o1 o2 a b c=>do
  let x ←ev a
  let y ←ev b
  au [x,y]
  let p ←M.ofO (bh o1 x.2 y.2)
  if p=true then do
   let z ←ev c
   au [y,z]
   let q ←M.ofO (bh o2 y.2 z.2)
   pure (.loc,.bl q)
  else pure (.loc,.bl false)
 |.and es=>sW es
 |.or es=>yp es
 |.not a=>do
  let x ←ev a
  match x.2 with
  |.bl c=>pure (.loc,.bl !c)
  |_=>M.fail
 |.ite c a b=>do
  let p ←tst c
  if p=true then ev a else ev b
 |.tup es=>do
  let rs ←bE es
  au rs
  let us ←cv rs
  if us.length≤sizeLine then pure (.loc,.tup us) else M.fail
 |.lst es=>do
  let rs ←bE es
  au rs
  let us ←cv rs
  if us.length≤sizeLine then pure (.own,.lst us) else M.fail
 |.dnew r=>pure (.own,if r=true then .rdc [] else .dic [] [])
 |.idx a b=>do
  let x ←ev a
  let y ←ev b
  au [x,y]
  M.ofO (fR x y.2)
 |.slc a lo hi=>do
  let x ←ev a
  let l ←evO lo
  let h ←evO hi
  au [x]
  M.ofO (oO x l h)
 |.bi f es=>do
  let rs ←bE es
  au rs
  M.ofO (biU f rs)
 |.bi2 f es=>do
  let rs ←bE es
  au rs
  M.ofO (oP f rs)
 |.mth m a es=>do
  let x ←ev a
  let rs ←bE es
  au (x::rs)
  M.ofO (hU m x.2 rs)
 |.call f es=>do
  let rs ←bE es
  au rs
  iU Γ f (rs.map (·.2))
 |.comp k t ik src cond e=>do
  let rs ←bE src
  au rs
  let xs ←M.ofO (itU ik rs)
  let us ←bB k t (aS cond) (ev e) rs xs []
  pure (.own,.lst us)
 |.neg a=>do
  let x ←ev a
  M.ofO (Bc x)
 |.bad=>M.fail
 |.inD neg a i=>do
  let x ←ev a
  let y ←fS x
  let d ←eO i
  pure (.loc,.bl (inB neg y d.1))
 |.pub i=>sV i
 |.get2 i k d=>do
  let x ←cT i
  isD x.2
  let y ←ev k
  let y ←fS y
  let z ←ev d
  let u ←lift z
  let x ←cT i
  M.ofO (vD x y u)
 |.sit i=>do
  let x ←cT i
  M.ofO (sU x.2)
 |.sdf _ _ _=>M.fail
 |.fst es=>M.fail
 |.isi a T=>do
  let x ←ev a
  let b ←M.ofO (oQ x.2 T)
  pure (.loc,.bl b)
noncomputable def bE:List E→M (List (Kd×U))
 |[]=>pure []
 |e::es=>do let r ←ev e;let rs ←bE es;pure (r::rs)
noncomputable def evO:List E→M (Option Int)
 |[]=>pure none
 |[e]=>do let x ←ev e;yo x
 |_=>M.fail
noncomputable def sW:List E→M (Kd×U)
 |[]=>M.fail
 |[e]=>ev e
 |e::es=>do
  let x ←ev e
  match x.2 with
  |.bl true=>sW es
  |.bl false=>pure (.loc,.bl false)
  |_=>M.fail
noncomputable def yp:List E→M (Kd×U)
 |[]=>M.fail
 |[e]=>ev e
 |e::es=>do
  let x ←ev e
  match x.2 with
  |.bl true=>pure (.loc,.bl true)
  |.bl false=>yp es
  |_=>M.fail
noncomputable def tst:E→M Bool
 |.and es=>aS es
 |.or es=>gO es
 |.not a=>do let b ←tst a;pure !b
 |.cmp op a b=>do
  let x ←ev a
  let y ←ev b
  au [x,y]
  M.ofO (bh op x.2 y.2)
 |.var i=>do let x ←cT i;M.ofO (lu x.2)
 |.cst u=>M.ofO (lu u)
 |.idx a b=>do
  let x ←ev a
  let y ←ev b
  au [x,y]
  let r ←M.ofO (fR x y.2)
  M.ofO (lu r.2)
 |.bi2 f es=>do
  let rs ←bE es
  au rs
  let r ←M.ofO (oP f rs)
  M.ofO (lu r.2)
 |.bi f es=>do
  let rs ←bE es
  au rs
  let r ←M.ofO (biU f rs)
  M.ofO (lu r.2)
 |.mth m a es=>do
  let x ←ev a
  let rs ←bE es
  au (x::rs)
  let r ←M.ofO (hU m x.2 rs)
  M.ofO (lu r.2)
 |.call f es=>do
  let rs ←bE es
  au rs
  let r ←iU Γ f (rs.map (·.2))
  M.ofO (lu r.2)
 |.cmp2 o1 o2 a b c=>do
  let x ←ev a
  let y ←ev b
  au [x,y]
  let p ←M.ofO (bh o1 x.2 y.2)
  if p=true then do
   let z ←ev c
   au [y,z]
   M.ofO (bh o2 y.2 z.2)
  else pure false
 |.inD neg a i=>do
  let x ←ev a
  let y ←fS x
  let d ←eO i
  pure (inB neg y d.1)
 |.isi a T=>do
  let x ←ev a
  M.ofO (oQ x.2 T)
 |_=>M.fail
noncomputable def aS:List E→M Bool
 |[]=>pure true
 |[e]=>tst e
 |e::es=>do let b ←tst e;if b=true then aS es else pure false
noncomputable def gO:List E→M Bool
 |[]=>pure false
 |[e]=>tst e
 |e::es=>do let b ←tst e;if b=true then pure true else gO es
end
inductive Fl where|nx|rt (k:Kd) (u:U)|bk|ct
noncomputable def retS:Kd×U→M Fl
 |(.own,u)=>pure (.rt .own u)
 |(.loc,u)=>pure (.rt .loc u)
 |(.any,u)=>if imm u=true then pure (.rt .loc u) else M.fail
 |(.bor j,_)=>fun st=>match st[j]? with
  |some (some (.own,u))=>some (.ok (.rt .own u),st.set j none)
  |_=>none
 |(.io,_)=>M.fail
 |(.ownD,_)=>M.fail
noncomputable def forM (t:Bool) (is:List Nat) (body:M Fl) (src:List (Kd×U)):List (Kd×U)→M Fl
 |[]=>do au src;pure .nx
 |x::xs=>do
  au src
  cE t is x
  let f ←body
  match f with
  |.nx=>forM t is body src xs
  |.ct=>forM t is body src xs
  |.bk=>pure .nx
  |.rt k u=>pure (.rt k u)
noncomputable def fj (c:M Bool) (body:M Fl):Nat→M Fl
 |0=>M.fail
 |n+1=>do
  let b ←c
  if b=true then do
   let f ←body
   match f with
   |.nx=>fj c body n
   |.ct=>fj c body n
   |.bk=>pure .nx
   |.rt k u=>pure (.rt k u)
  else pure .nx
noncomputable def modS (i:Nat) (f:U→Option U):M Unit:=fun st=>match st[i]? with
 |some (some (k,u))=>if k.root=true then match f u with
   |some u'=>some (.ok (),st.set i (some (k,u')))
   |none=>none
  else none
 |_=>none
noncomputable def sX (u:U):U→Option U
 |.lst xs=>if xs.length<sizeLine then some (.lst (xs++[u])) else none
 |_=>none
noncomputable def jF:Kd×U→U→Option U
 |(k,.lst ys),.lst xs=>if xs.length+ys.length≤sizeLine∧lr k ys=true then some (.lst (xs++ys)) else none
 |(k,.tup ys),.lst xs=>if xs.length+ys.length≤sizeLine∧lr k ys=true then some (.lst (xs++ys)) else none
 |_,_=>none
noncomputable def cZ (x u:U):U→Option U
 |.dic ks vs=>match x with
  |.str y=>if ks.length<sizeLine then some (.dic (dput ks vs y u).1 (dput ks vs y u).2) else none
  |_=>none
 |.rdc ks=>match rowOf x,u with
  |some r,.bl true=>if r∉ks∧ks.length≤1000 then some (.rdc (ks++[r])) else none
  |_,_=>none
 |.lst xs=>match x with
  |.int i=>(ixN xs.length i).map fun j=>.lst (xs.set j u)
  |_=>none
 |_=>none
noncomputable def p_:List U→U→Option U
 |[u,x]=>cZ x u
 |_=>fun _=>none
noncomputable def isL:U→M Unit
 |.lst _=>pure ()
 |_=>M.fail
noncomputable def fuel:Nat:=100000
mutual
noncomputable def nsS:S→Nat→Bool
 |.set i _,j=>decide (j≠i)
 |.setT is _,j=>decide (j∉is)
 |.ite _ a b,j=>nsL a j&&nsL b j
 |.for_ _ is _ _ body,j=>decide (j∉is)&&nsL body j
 |.whl _ body,j=>nsL body j
 |.put _ _ _,_=>true
 |.app _ _,_=>true
 |.ext _ _,_=>true
 |.bad,_=>true
 |.newD i,j=>decide (j≠i)
 |.putD _ _ _,_=>true
 |.appD _ _ _,_=>true
 |.aug _ _ _ _,_=>true
 |.rvs _,_=>true
 |.exp _,_=>true
 |.ret _,_=>true
 |.retN,_=>true
 |.brk,_=>true
 |.cnt,_=>true
 |.pas,_=>true
noncomputable def nsL:List S→Nat→Bool
 |[],_=>true
 |s::ss,j=>nsS s j&&nsL ss j
end
noncomputable def qa (rs:List (Kd×U)) (is:List Nat) (body:List S):Bool:=rs.all fun r=>match r.1 with
 |.bor j=>decide (j∉is)&&nsL body j
 |_=>true
mutual
noncomputable def exec:S→M Fl
 |.set i e=>do let r ←ev Γ e;dU i r;pure .nx
 |.setT is e=>do let r ←ev Γ e;cE true is r;pure .nx
 |.put i k v=>do
  let r ←ev Γ v
  let _ ←cT i
  let x ←ev Γ k
  let us ←cv [r,x]
  modS i (p_ us)
  pure .nx
 |.app i e=>do
  let x ←cT i
  isL x.2
  let r ←ev Γ e
  let u ←lift r
  modS i (sX u)
  pure .nx
 |.ext i e=>do
  let x ←cT i
  isL x.2
  let r ←ev Γ e
  modS i (jF r)
  pure .nx
 |.bad=>M.fail
 |.newD i=>do wW i;pure .nx
 |.putD i k v=>do
  let r ←ev Γ v
  let d ←eO i
  let x ←ev Γ k
  let y ←fS x
  iV i y r
  pure .nx
 |.appD i k v=>do
  let _ ←eO i
  let x ←ev Γ k
  let y ←fS x
  let d ←eO i
  if y∈d.1 then do
   let r ←ev Γ v
   let u ←lift r
   iW i y u
   pure .nx
  else M.fail
 |.aug sub i k v=>do
  let _ ←m3 i
  let y ←ev Γ k
  let j ←rg y
  let us ←m3 i
  let o ←M.ofO (m4 us j)
  let z ←ev Γ v
  let w ←rg z
  modS i (cZ (.int j) (.int (rh sub o w)))
  pure .nx
 |.rvs i=>do
  modS i vE
  pure .nx
 |.exp e=>do let _ ←ev Γ e;pure .nx
 |.ret e=>do let r ←ev Γ e;retS r
 |.retN=>pure (.rt .loc .non)
 |.ite c a b=>do let p ←tst Γ c;if p=true then execs a else execs b
 |.for_ t is ik src body=>do
  let rs ←bE Γ src
  au rs
  let xs ←M.ofO (itU ik rs)
  if qa rs is body=true then forM t is (execs body) rs xs else M.fail
 |.whl c body=>fj (tst Γ c) (execs body) fuel
 |.brk=>pure .bk
 |.cnt=>pure .ct
 |.pas=>pure .nx
noncomputable def execs:List S→M Fl
 |[]=>pure .nx
 |s::ss=>do
  let f ←exec s
  match f with
  |.nx=>execs ss
  |f=>pure f
end
end
structure Fn where
 name:Str
 np:Nat
 ns:Nat
 body:List S
noncomputable def start (us:List U) (n:Nat):ag:=us.map (fun u=>some (if imm u=true then Kd.loc else Kd.any,u))++List.replicate (n - us.length) none
noncomputable def bX (Γ:Tab) (fn:Fn) (us:List U):Option (Ex (Kd×U)):=if us.length=fn.np then match execs Γ fn.body (start us fn.ns) with
  |some (.ok (.rt .own u),_)=>some (.ok (.own,u))
  |some (.ok (.rt .loc u),_)=>some (.ok (.loc,u))
  |some (.ok .nx,_)=>some (.ok (.loc,.non))
  |some (.exc c,_)=>some (.exc c)
  |_=>none
 else none
noncomputable def sem (P:List Fn):Nat→Tab
 |0=>fun _ _=>none
 |d+1=>fun f us=>match P.find? fun fn=>decide (fn.name=f) with
  |some fn=>bX (sem P d) fn us
  |none=>none
end TM
namespace TM
open PySem L2
section
variable {X : Cx} {pins : List (Addr × Obj)} {σ : St} {H : Hp} {s : Shared} {C : Ct} {S : Addr → Prop}
theorem qb (I:Inv X pins σ H s) {a:Addr}{vs:List V} (h:SqL X.K H a vs):∃ its:List Value,Vals vs its∧s.heap.IsList a its.toArray∧vs.length≤sizeLine:=by
 obtain ⟨its,r,p,z⟩:=I.list h
 exact ⟨its,r,p.isList,z⟩
theorem aC (I:Inv X pins σ H s) (hK:C.K=X.K) {a:Addr}{vs:List V} (h:LAt C.K S H a vs):∃ its:List Value,Vals vs its∧s.heap.IsList a its.toArray∧vs.length≤sizeLine:=qb I (hK ▸ h.sq)
theorem qc (I:Inv X pins σ H s) (hK:C.K=X.K) {a:Addr}{vs ws:List V} (h:LAt C.K S H a vs) (h':LAt C.K S H a ws):vs=ws:=I.il (hK ▸ h.sq) (hK ▸ h'.sq)
theorem fT (I:Inv X pins σ H s) (hK:C.K=X.K) {a:Addr}{vs ws:List V} (h:LAt C.K S H a vs) (h':SqT C.K H a ws):False:=by
 obtain ⟨its,_,p,_⟩:=aC I hK h
 rw [hK] at h'
 obtain ⟨its',_,p',_⟩:=I.tuple h'
 exact SeqAt.ne_of_list_tuple p p' rfl
mutual
theorem oR (I:Inv X pins σ H s) (hK:C.K=X.K):∀ (u w:U) (v:V) (n:Nat),eqD n u=true→eqD n w=true→Rep C S H u v→Rep C S H w v→aV u w=true
 |.non,w,v,n,_,h2,h3,h4=>by
  cases w <;> first|rfl|(simp only [Rep] at h3 h4;subst h3;first|(cases h4;done)|(obtain ⟨a,vs,e,_⟩:=h4;cases e;done))|(cases n <;> simp [eqD] at h2)
 |.bl b,w,v,n,_,h2,h3,h4=>by
  cases w <;> first|(simp only [Rep] at h3 h4;subst h3;first|(cases h4;done)|(cases h4;simp [aV];done)|(obtain ⟨a,vs,e,_⟩:=h4;cases e;done))|(cases n <;> simp [eqD] at h2)
 |.int b,w,v,n,_,h2,h3,h4=>by
  cases w <;> first|(simp only [Rep] at h3 h4;subst h3;first|(cases h4;done)|(cases h4;simp [aV];done)|(obtain ⟨a,vs,e,_⟩:=h4;cases e;done))|(cases n <;> simp [eqD] at h2)
 |.str b,w,v,n,_,h2,h3,h4=>by
  cases w <;> first|(simp only [Rep] at h3 h4;subst h3;first|(cases h4;done)|(cases h4;simp [aV];done)|(obtain ⟨a,vs,e,_⟩:=h4;cases e;done))|(cases n <;> simp [eqD] at h2)
 |.tup us,w,v,n,h1,h2,h3,h4=>by
  obtain ⟨a,vs,rfl,q1,q2⟩:=h3
  cases n with
  |zero=>simp [eqD] at h1
  |succ n =>
   cases w with
   |tup ws =>
    obtain ⟨a',vs',e,q3,q4⟩:=h4
    cases e
    rw [hK] at q1 q3
    have:=I.eE q1 q3
    subst this
    simp only [eqD] at h1 h2
    exact ly I hK us ws vs n h1 h2 q2 q4
   |lst ws =>
    obtain ⟨a',vs',e,q3,q4⟩:=h4
    cases e
    exact (fT I hK q3 q1).elim
   |dic=>simp [eqD] at h2
   |rdc=>simp [eqD] at h2
   |_=>simp only [Rep] at h4;cases h4
 |.lst us,w,v,n,h1,h2,h3,h4=>by
  obtain ⟨a,vs,rfl,q1,q2⟩:=h3
  cases n with
  |zero=>simp [eqD] at h1
  |succ n =>
   cases w with
   |lst ws =>
    obtain ⟨a',vs',e,q3,q4⟩:=h4
    cases e
    have:=qc I hK q1 q3
    subst this
    simp only [eqD] at h1 h2
    exact ly I hK us ws vs n h1 h2 q2 q4
   |tup ws =>
    obtain ⟨a',vs',e,q3,q4⟩:=h4
    cases e
    exact (fT I hK q1 q3).elim
   |dic=>simp [eqD] at h2
   |rdc=>simp [eqD] at h2
   |_=>simp only [Rep] at h4;cases h4
 |.dic _ _,_,_,n,h,_,_,_=>by cases n <;> simp [eqD] at h
 |.rdc _,_,_,n,h,_,_,_=>by cases n <;> simp [eqD] at h
theorem ly (I:Inv X pins σ H s) (hK:C.K=X.K):∀ (us ws:List U) (vs:List V) (n:Nat),bM n us=true→bM n ws=true→ah C S H us vs→ah C S H ws vs→bQ us ws=true
 |[],[],_,_,_,_,_,_=>rfl
 |[],w::ws,vs,n,_,_,h3,h4=>by
  obtain ⟨v,r,e,_⟩:=h4
  simp only [ah] at h3
  rw [h3] at e;cases e
 |u::us,[],vs,n,_,_,h3,h4=>by
  obtain ⟨v,r,e,_⟩:=h3
  simp only [ah] at h4
  rw [h4] at e;cases e
 |u::us,w::ws,vs,n,h1,h2,h3,h4=>by
  obtain ⟨v,r,rfl,q1,q2⟩:=h3
  obtain ⟨v',r',e,q3,q4⟩:=h4
  cases e
  simp only [bM,Bool.and_eq_true] at h1 h2
  simp only [bQ,Bool.and_eq_true]
  exact ⟨oR I hK u w v n h1.1 h2.1 q1 q3,ly I hK us ws r n h1.2 h2.2 q2 q4⟩
end
mutual
theorem qd (I:Inv X pins σ H s) (hK:C.K=X.K):∀ (u w:U) (v:V) (n:Nat),eqD n u=true→eqD n w=true→Rep C S H u v→Rep C S H w v→u=w
 |.non,w,v,n,_,h2,h3,h4=>by
  cases w <;> first|rfl|(simp only [Rep] at h3 h4;subst h3;first|(cases h4;done)|(obtain ⟨a,vs,e,_⟩:=h4;cases e;done))|(cases n <;> simp [eqD] at h2)
 |.bl b,w,v,n,_,h2,h3,h4=>by
  cases w <;> first|(simp only [Rep] at h3 h4;subst h3;first|(cases h4;done)|(cases h4;rfl;done)|(obtain ⟨a,vs,e,_⟩:=h4;cases e;done))|(cases n <;> simp [eqD] at h2)
 |.int b,w,v,n,_,h2,h3,h4=>by
  cases w <;> first|(simp only [Rep] at h3 h4;subst h3;first|(cases h4;done)|(cases h4;rfl;done)|(obtain ⟨a,vs,e,_⟩:=h4;cases e;done))|(cases n <;> simp [eqD] at h2)
 |.str b,w,v,n,_,h2,h3,h4=>by
  cases w <;> first|(simp only [Rep] at h3 h4;subst h3;first|(cases h4;done)|(cases h4;rfl;done)|(obtain ⟨a,vs,e,_⟩:=h4;cases e;done))|(cases n <;> simp [eqD] at h2)
 |.tup us,w,v,n,h1,h2,h3,h4=>by
  obtain ⟨a,vs,rfl,q1,q2⟩:=h3
  cases n with
  |zero=>simp [eqD] at h1
  |succ n =>
   cases w with
   |tup ws =>
    obtain ⟨a',vs',e,q3,q4⟩:=h4
    cases e
    rw [hK] at q1 q3
    have:=I.eE q1 q3
    subst this
    simp only [eqD] at h1 h2
    rw [iX I hK us ws vs n h1 h2 q2 q4]
   |lst ws =>
    obtain ⟨a',vs',e,q3,q4⟩:=h4
    cases e
    exact (fT I hK q3 q1).elim
   |dic=>simp [eqD] at h2
   |rdc=>simp [eqD] at h2
   |_=>simp only [Rep] at h4;cases h4
 |.lst us,w,v,n,h1,h2,h3,h4=>by
  obtain ⟨a,vs,rfl,q1,q2⟩:=h3
  cases n with
  |zero=>simp [eqD] at h1
  |succ n =>
   cases w with
   |lst ws =>
    obtain ⟨a',vs',e,q3,q4⟩:=h4
    cases e
    have:=qc I hK q1 q3
    subst this
    simp only [eqD] at h1 h2
    rw [iX I hK us ws vs n h1 h2 q2 q4]
   |tup ws =>
    obtain ⟨a',vs',e,q3,q4⟩:=h4
    cases e
    exact (fT I hK q1 q3).elim
   |dic=>simp [eqD] at h2
   |rdc=>simp [eqD] at h2
   |_=>simp only [Rep] at h4;cases h4
 |.dic _ _,_,_,n,h,_,_,_=>by cases n <;> simp [eqD] at h
 |.rdc _,_,_,n,h,_,_,_=>by cases n <;> simp [eqD] at h
theorem iX (I:Inv X pins σ H s) (hK:C.K=X.K):∀ (us ws:List U) (vs:List V) (n:Nat),bM n us=true→bM n ws=true→ah C S H us vs→ah C S H ws vs→us=ws
 |[],[],_,_,_,_,_,_=>rfl
 |[],w::ws,vs,n,_,_,h3,h4=>by
  obtain ⟨v,r,e,_⟩:=h4
  simp only [ah] at h3
  rw [h3] at e;cases e
 |u::us,[],vs,n,_,_,h3,h4=>by
  obtain ⟨v,r,e,_⟩:=h3
  simp only [ah] at h4
  rw [h4] at e;cases e
 |u::us,w::ws,vs,n,h1,h2,h3,h4=>by
  obtain ⟨v,r,rfl,q1,q2⟩:=h3
  obtain ⟨v',r',e,q3,q4⟩:=h4
  cases e
  simp only [bM,Bool.and_eq_true] at h1 h2
  rw [qd I hK u w v n h1.1 h2.1 q1 q3,iX I hK us ws r n h1.2 h2.2 q2 q4]
end
theorem cf:∀ {us ws:List U},us.length≠ws.length→bQ us ws=false
 |[],[],h=>absurd rfl h
 |[],_::_,_=>rfl
 |_::_,[],_=>rfl
 |u::us,w::ws,h=>by
  rw [bQ,cf (us:=us) (ws:=ws) (fun e=>h (by simp [e])),Bool.and_false]
theorem bH:∀ {us ws:List U},us.length=ws.length→bQ us ws=(List.range us.length).all fun j=>aV (us.getD j .non) (ws.getD j .non)
 |[],[],_=>rfl
 |[],_::_,h=>by simp at h
 |_::_,[],h=>by simp at h
 |u::us,w::ws,h=>by
  have h':us.length=ws.length:=by simpa using h
  rw [bQ,bH h',List.length_cons,List.range_succ_eq_map,List.all_cons,List.all_map]
  rfl
mutual
theorem sY (I:Inv X pins σ H s) (hK:C.K=X.K):∀ (u w:U) (v v':V) (x x':Value) (n:Nat) (A:Around),eqD n u=true→eqD n w=true→Rep C S H u v→Rep C S H w v'→RelV v x→RelV v' x'→A.units+n<cLine→SeqAt.EqAt A s x x' (aV u w)
 |.non,w,v,v',x,x',n,A,_,h2,h3,h4,r1,r2,hu=>by
  simp only [Rep] at h3
  subst h3
  cases r1
  cases w with
  |non=>simp only [Rep] at h4;subst h4;cases r2;exact SeqAt.EqAt.same _
  |bl b=>simp only [Rep] at h4;subst h4;cases r2;exact SeqAt.EqAt.none_bool b
  |int b=>simp only [Rep] at h4;subst h4;obtain ⟨t,rfl⟩:=r2;exact SeqAt.EqAt.none_int b t
  |str b=>simp only [Rep] at h4;subst h4;obtain ⟨t,rfl⟩:=r2;exact SeqAt.EqAt.none_str b t
  |tup ws=>obtain ⟨a,vs,rfl,q1,q2⟩:=h4;cases r2;rw [hK] at q1;obtain ⟨its,_,p,_⟩:=I.tuple q1;exact SeqAt.EqAt.none_tuple p (by omega)
  |lst ws=>obtain ⟨a,vs,rfl,q1,q2⟩:=h4;cases r2;obtain ⟨its,_,p,_⟩:=aC I hK q1;exact SeqAt.EqAt.none_list p (by omega)
  |dic=>cases n <;> simp [eqD] at h2
  |rdc=>cases n <;> simp [eqD] at h2
 |.bl a,w,v,v',x,x',n,A,_,h2,h3,h4,r1,r2,hu=>by
  simp only [Rep] at h3
  subst h3
  cases r1
  cases w with
  |non=>simp only [Rep] at h4;subst h4;cases r2;exact SeqAt.EqAt.bool_none a
  |bl b=>simp only [Rep] at h4;subst h4;cases r2;exact SeqAt.EqAt.bool_bool a b
  |int b=>simp only [Rep] at h4;subst h4;obtain ⟨t,rfl⟩:=r2;exact SeqAt.EqAt.bool_int a b t
  |str b=>simp only [Rep] at h4;subst h4;obtain ⟨t,rfl⟩:=r2;exact SeqAt.EqAt.bool_str a b t
  |tup ws=>obtain ⟨a,vs,rfl,q1,q2⟩:=h4;cases r2;rw [hK] at q1;obtain ⟨its,_,p,_⟩:=I.tuple q1;exact SeqAt.EqAt.bool_tuple _ p (by omega)
  |lst ws=>obtain ⟨a,vs,rfl,q1,q2⟩:=h4;cases r2;obtain ⟨its,_,p,_⟩:=aC I hK q1;exact SeqAt.EqAt.bool_list _ p (by omega)
  |dic=>cases n <;> simp [eqD] at h2
  |rdc=>cases n <;> simp [eqD] at h2
 |.int a,w,v,v',x,x',n,A,_,h2,h3,h4,r1,r2,hu=>by
  simp only [Rep] at h3
  subst h3
  obtain ⟨t',rfl⟩:=r1
  cases w with
  |non=>simp only [Rep] at h4;subst h4;cases r2;exact SeqAt.EqAt.int_none a t'
  |bl b=>simp only [Rep] at h4;subst h4;cases r2;exact SeqAt.EqAt.int_bool a t' b
  |int b=>simp only [Rep] at h4;subst h4;obtain ⟨t,rfl⟩:=r2;exact SeqAt.EqAt.int_int a t' b t
  |str b=>simp only [Rep] at h4;subst h4;obtain ⟨t,rfl⟩:=r2;exact SeqAt.EqAt.int_str a t' b t
  |tup ws=>obtain ⟨a,vs,rfl,q1,q2⟩:=h4;cases r2;rw [hK] at q1;obtain ⟨its,_,p,_⟩:=I.tuple q1;exact SeqAt.EqAt.int_tuple _ _ p (by omega)
  |lst ws=>obtain ⟨a,vs,rfl,q1,q2⟩:=h4;cases r2;obtain ⟨its,_,p,_⟩:=aC I hK q1;exact SeqAt.EqAt.int_list _ _ p (by omega)
  |dic=>cases n <;> simp [eqD] at h2
  |rdc=>cases n <;> simp [eqD] at h2
 |.str a,w,v,v',x,x',n,A,_,h2,h3,h4,r1,r2,hu=>by
  simp only [Rep] at h3
  subst h3
  obtain ⟨t',rfl⟩:=r1
  cases w with
  |non=>simp only [Rep] at h4;subst h4;cases r2;exact SeqAt.EqAt.str_none a t'
  |bl b=>simp only [Rep] at h4;subst h4;cases r2;exact SeqAt.EqAt.str_bool a t' b
  |int b=>simp only [Rep] at h4;subst h4;obtain ⟨t,rfl⟩:=r2;exact SeqAt.EqAt.str_int a t' b t
  |str b=>simp only [Rep] at h4;subst h4;obtain ⟨t,rfl⟩:=r2;exact SeqAt.EqAt.str_str a t' b t
  |tup ws=>obtain ⟨a,vs,rfl,q1,q2⟩:=h4;cases r2;rw [hK] at q1;obtain ⟨its,_,p,_⟩:=I.tuple q1;exact SeqAt.EqAt.str_tuple _ _ p (by omega)
  |lst ws=>obtain ⟨a,vs,rfl,q1,q2⟩:=h4;cases r2;obtain ⟨its,_,p,_⟩:=aC I hK q1;exact SeqAt.EqAt.str_list _ _ p (by omega)
  |dic=>cases n <;> simp [eqD] at h2
  |rdc=>cases n <;> simp [eqD] at h2
 |.tup us,w,v,v',x,x',n,A,h1,h2,h3,h4,r1,r2,hu=>by
  obtain ⟨a,vs,rfl,q1,q2⟩:=id h3
  cases r1
  have q1':=q1
  rw [hK] at q1'
  obtain ⟨its,rv,p,_⟩:=I.tuple q1'
  cases n with
  |zero=>simp [eqD] at h1
  |succ n =>
   cases w with
   |tup ws =>
    obtain ⟨a',vs',rfl,q3,q4⟩:=id h4
    cases r2
    by_cases e:a=a'
    ·subst e
     rw [oR I hK (.tup us) (.tup ws) (.ref a) (n+1) h1 h2 h3 h4]
     exact SeqAt.EqAt.same _
    ·rw [hK] at q3
     obtain ⟨its',rv',p',_⟩:=I.tuple q3
     simp only [eqD] at h1 h2
     have l1:=q2.len
     have l2:=q4.len
     have l3:=rv.length
     have l4:=rv'.length
     have ee:aV (.tup us) (.tup ws)=((List.range (min its.toArray.size its'.toArray.size)).all (fun j=>aV (us.getD j .non) (ws.getD j .non))&&its.toArray.size==its'.toArray.size):=by
      show bQ us ws=_
      simp only [List.size_toArray]
      by_cases el:us.length=ws.length
      ·rw [bH el,show min its.length its'.length=us.length by omega,show (its.length==its'.length)=true by simp;omega,Bool.and_true]
      ·rw [cf el,show (its.length==its'.length)=false by simp;omega,Bool.and_false]
     rw [ee]
     refine .of_refs e (.tuples p p' (by omega) fun j h1' h2'=>?_)
     simp only [List.size_toArray] at h1' h2'
     exact iY I hK us ws vs vs' its its' n A.in1 h1 h2 q2 q4 rv rv' (by show A.units+1+n < _;omega) j (us.getD j .non) (ws.getD j .non) _ _ (by rw [List.getD_eq_getElem?_getD,List.getElem?_eq_getElem (by omega)];simp) (by rw [List.getD_eq_getElem?_getD,List.getElem?_eq_getElem (by omega)];simp) (by simp) (by simp)
   |lst ws=>obtain ⟨a',vs',rfl,q3,q4⟩:=h4;cases r2;obtain ⟨its',_,p',_⟩:=aC I hK q3;exact SeqAt.EqAt.tuple_list p p' (by omega)
   |non=>simp only [Rep] at h4;subst h4;cases r2;exact SeqAt.EqAt.tuple_none p (by omega)
   |bl b=>simp only [Rep] at h4;subst h4;cases r2;exact SeqAt.EqAt.tuple_bool b p (by omega)
   |int b=>simp only [Rep] at h4;subst h4;obtain ⟨t,rfl⟩:=r2;exact SeqAt.EqAt.tuple_int b t p (by omega)
   |str b=>simp only [Rep] at h4;subst h4;obtain ⟨t,rfl⟩:=r2;exact SeqAt.EqAt.tuple_str b t p (by omega)
   |dic=>simp [eqD] at h2
   |rdc=>simp [eqD] at h2
 |.lst us,w,v,v',x,x',n,A,h1,h2,h3,h4,r1,r2,hu=>by
  obtain ⟨a,vs,rfl,q1,q2⟩:=id h3
  cases r1
  obtain ⟨its,rv,p,_⟩:=aC I hK q1
  cases n with
  |zero=>simp [eqD] at h1
  |succ n =>
   cases w with
   |lst ws =>
    obtain ⟨a',vs',rfl,q3,q4⟩:=id h4
    cases r2
    by_cases e:a=a'
    ·subst e
     rw [oR I hK (.lst us) (.lst ws) (.ref a) (n+1) h1 h2 h3 h4]
     exact SeqAt.EqAt.same _
    ·obtain ⟨its',rv',p',_⟩:=aC I hK q3
     simp only [eqD] at h1 h2
     have l1:=q2.len
     have l2:=q4.len
     have l3:=rv.length
     have l4:=rv'.length
     by_cases el:us.length=ws.length
     ·have ee:aV (.lst us) (.lst ws)=(List.range its.toArray.size).all (fun j=>aV (us.getD j .non) (ws.getD j .non)):=by
       show bQ us ws=_
       rw [bH el,List.size_toArray,show its.length=us.length by omega]
      rw [ee]
      refine .of_refs e (.lists p p' (by simp;omega) (by omega) fun j h1' h2'=>?_)
      simp only [List.size_toArray] at h1' h2'
      exact iY I hK us ws vs vs' its its' n A.in1 h1 h2 q2 q4 rv rv' (by show A.units+1+n < _;omega) j (us.getD j .non) (ws.getD j .non) _ _ (by rw [List.getD_eq_getElem?_getD,List.getElem?_eq_getElem (by omega)];simp) (by rw [List.getD_eq_getElem?_getD,List.getElem?_eq_getElem (by omega)];simp) (by simp) (by simp)
     ·have ee:aV (.lst us) (.lst ws)=false:=cf el
      rw [ee]
      exact .of_refs e (.lists_lengths p p' (by simp;omega) (by omega))
   |tup ws=>obtain ⟨a',vs',rfl,q3,q4⟩:=h4;cases r2;rw [hK] at q3;obtain ⟨its',_,p',_⟩:=I.tuple q3;exact SeqAt.EqAt.list_tuple p p' (by omega)
   |non=>simp only [Rep] at h4;subst h4;cases r2;exact SeqAt.EqAt.list_none p (by omega)
   |bl b=>simp only [Rep] at h4;subst h4;cases r2;exact SeqAt.EqAt.list_bool b p (by omega)
   |int b=>simp only [Rep] at h4;subst h4;obtain ⟨t,rfl⟩:=r2;exact SeqAt.EqAt.list_int b t p (by omega)
   |str b=>simp only [Rep] at h4;subst h4;obtain ⟨t,rfl⟩:=r2;exact SeqAt.EqAt.list_str b t p (by omega)
   |dic=>simp [eqD] at h2
   |rdc=>simp [eqD] at h2
 |.dic _ _,_,_,_,_,_,n,_,h,_,_,_,_,_,_=>by cases n <;> simp [eqD] at h
 |.rdc _,_,_,_,_,_,n,_,h,_,_,_,_,_,_=>by cases n <;> simp [eqD] at h
theorem iY (I:Inv X pins σ H s) (hK:C.K=X.K):∀ (us ws:List U) (vs vs':List V) (its its':List Value) (n:Nat) (A:Around),bM n us=true→bM n ws=true→ah C S H us vs→ah C S H ws vs'→Vals vs its→Vals vs' its'→A.units+n<cLine →
  ∀ (j:Nat) (u w:U) (x x':Value),us[j]?=some u→ws[j]?=some w→its[j]?=some x→its'[j]?=some x'→SeqAt.EqAt A s x x' (aV u w)
 |[],_,_,_,_,_,_,_,_,_,_,_,_,_,_,j,_,_,_,_,e,_,_,_=>by simp at e
 |u::us,[],_,_,_,_,_,_,_,_,_,_,_,_,_,j,_,_,_,_,_,e,_,_=>by simp at e
 |u::us,w::ws,vs,vs',its,its',n,A,h1,h2,h3,h4,r1,r2,hu,j,u',w',x,x',e1,e2,e3,e4=>by
  obtain ⟨v,r,rfl,q1,q2⟩:=h3
  obtain ⟨v',r',rfl,q3,q4⟩:=h4
  simp only [bM,Bool.and_eq_true] at h1 h2
  cases r1 with
  |cons ra rb =>
   cases r2 with
   |cons rc rd =>
    cases j with
    |zero =>
     simp at e1 e2 e3 e4
     subst e1 e2 e3 e4
     exact sY I hK u w v v' _ _ n A h1.1 h2.1 q1 q3 ra rc hu
    |succ j=>exact iY I hK us ws r r' _ _ n A h1.2 h2.2 q2 q4 rb rd hu j u' w' x x' (by simpa using e1) (by simpa using e2) (by simpa using e3) (by simpa using e4)
end
end
end TM
namespace TM
open PySem L2
section
variable {X : Cx} {pins : List (Addr × Obj)} {σ : St} {H : Hp} {s : Shared} {C : Ct} {S : Addr → Prop}
theorem Bd (I:Inv X pins σ H s) (hK:C.K=X.K) (u w:U) (v v':V) (x x':Value) (n:Nat) (A:Around) (h1:eqD n u=true) (h2:eqD n w=true) (h3:Rep C S H u v) (h4:Rep C S H w v') (r1:RelV v x) (r2:RelV v' x') (hu:A.units+n<cLine):SeqAt.RcAt A s x x' (aV u w):=by
 cases u with
 |non =>
  simp only [Rep] at h3;subst h3;cases r1
  cases w with
  |non=>simp only [Rep] at h4;subst h4;cases r2;exact SeqAt.RcAt.none_none
  |bl q=>simp only [Rep] at h4;subst h4;cases r2;exact SeqAt.RcAt.none_bool  q
  |int q=>simp only [Rep] at h4;subst h4;obtain ⟨t,rfl⟩:=r2;exact SeqAt.RcAt.none_int  q t
  |str q=>simp only [Rep] at h4;subst h4;obtain ⟨t,rfl⟩:=r2;exact SeqAt.RcAt.none_str  q t
  |tup ws=>obtain ⟨a',vs',rfl,q3,q4⟩:=id h4;cases r2;rw [hK] at q3;obtain ⟨its',rv',p',_⟩:=I.tuple q3;exact SeqAt.RcAt.none_tuple  p' (by omega)
  |lst ws=>obtain ⟨a',vs',rfl,q3,q4⟩:=id h4;cases r2;obtain ⟨its',rv',p',_⟩:=aC I hK q3;exact SeqAt.RcAt.none_list  p' (by omega)
  |dic=>cases n <;> simp [eqD] at h2
  |rdc=>cases n <;> simp [eqD] at h2
 |bl p =>
  simp only [Rep] at h3;subst h3;cases r1
  cases w with
  |non=>simp only [Rep] at h4;subst h4;cases r2;exact SeqAt.RcAt.bool_none p
  |bl q=>simp only [Rep] at h4;subst h4;cases r2;exact SeqAt.RcAt.bool_bool p q
  |int q=>simp only [Rep] at h4;subst h4;obtain ⟨t,rfl⟩:=r2;exact SeqAt.RcAt.bool_int p q t
  |str q=>simp only [Rep] at h4;subst h4;obtain ⟨t,rfl⟩:=r2;exact SeqAt.RcAt.bool_str p q t
  |tup ws=>obtain ⟨a',vs',rfl,q3,q4⟩:=id h4;cases r2;rw [hK] at q3;obtain ⟨its',rv',p',_⟩:=I.tuple q3;exact SeqAt.RcAt.bool_tuple p p' (by omega)
  |lst ws=>obtain ⟨a',vs',rfl,q3,q4⟩:=id h4;cases r2;obtain ⟨its',rv',p',_⟩:=aC I hK q3;exact SeqAt.RcAt.bool_list p p' (by omega)
  |dic=>cases n <;> simp [eqD] at h2
  |rdc=>cases n <;> simp [eqD] at h2
 |int p =>
  simp only [Rep] at h3;subst h3;obtain ⟨t',rfl⟩:=r1
  cases w with
  |non=>simp only [Rep] at h4;subst h4;cases r2;exact SeqAt.RcAt.int_none p t'
  |bl q=>simp only [Rep] at h4;subst h4;cases r2;exact SeqAt.RcAt.int_bool p t' q
  |int q=>simp only [Rep] at h4;subst h4;obtain ⟨t,rfl⟩:=r2;exact SeqAt.RcAt.int_int p t' q t
  |str q=>simp only [Rep] at h4;subst h4;obtain ⟨t,rfl⟩:=r2;exact SeqAt.RcAt.int_str p t' q t
  |tup ws=>obtain ⟨a',vs',rfl,q3,q4⟩:=id h4;cases r2;rw [hK] at q3;obtain ⟨its',rv',p',_⟩:=I.tuple q3;exact SeqAt.RcAt.int_tuple p t' p' (by omega)
  |lst ws=>obtain ⟨a',vs',rfl,q3,q4⟩:=id h4;cases r2;obtain ⟨its',rv',p',_⟩:=aC I hK q3;exact SeqAt.RcAt.int_list p t' p' (by omega)
  |dic=>cases n <;> simp [eqD] at h2
  |rdc=>cases n <;> simp [eqD] at h2
 |str p =>
  simp only [Rep] at h3;subst h3;obtain ⟨t',rfl⟩:=r1
  cases w with
  |non=>simp only [Rep] at h4;subst h4;cases r2;exact SeqAt.RcAt.str_none p t'
  |bl q=>simp only [Rep] at h4;subst h4;cases r2;exact SeqAt.RcAt.str_bool p t' q
  |int q=>simp only [Rep] at h4;subst h4;obtain ⟨t,rfl⟩:=r2;exact SeqAt.RcAt.str_int p t' q t
  |str q=>simp only [Rep] at h4;subst h4;obtain ⟨t,rfl⟩:=r2;exact SeqAt.RcAt.str_str p t' q t
  |tup ws=>obtain ⟨a',vs',rfl,q3,q4⟩:=id h4;cases r2;rw [hK] at q3;obtain ⟨its',rv',p',_⟩:=I.tuple q3;exact SeqAt.RcAt.str_tuple p t' p' (by omega)
  |lst ws=>obtain ⟨a',vs',rfl,q3,q4⟩:=id h4;cases r2;obtain ⟨its',rv',p',_⟩:=aC I hK q3;exact SeqAt.RcAt.str_list p t' p' (by omega)
  |dic=>cases n <;> simp [eqD] at h2
  |rdc=>cases n <;> simp [eqD] at h2
 |tup us =>
  obtain ⟨a,vs,rfl,q1,q2⟩:=id h3;cases r1;rw [hK] at q1;obtain ⟨its,rv,p,_⟩:=I.tuple q1
  cases w with
  |non=>simp only [Rep] at h4;subst h4;cases r2;exact SeqAt.RcAt.tuple_none  p (by omega)
  |bl q=>simp only [Rep] at h4;subst h4;cases r2;exact SeqAt.RcAt.tuple_bool q p (by omega)
  |int q=>simp only [Rep] at h4;subst h4;obtain ⟨t,rfl⟩:=r2;exact SeqAt.RcAt.tuple_int q t p (by omega)
  |str q=>simp only [Rep] at h4;subst h4;obtain ⟨t,rfl⟩:=r2;exact SeqAt.RcAt.tuple_str q t p (by omega)
  |tup ws =>
   obtain ⟨a',vs',rfl,q3,q4⟩:=id h4;cases r2;rw [hK] at q3;obtain ⟨its',rv',p',_⟩:=I.tuple q3
   cases n with
   |zero=>simp [eqD] at h1
   |succ n =>
    simp only [eqD] at h1 h2
    have l1:=q2.len
    have l2:=q4.len
    have l3:=rv.length
    have l4:=rv'.length
    have ee:aV (.tup us) (.tup ws)=((List.range (min its.toArray.size its'.toArray.size)).all (fun j=>aV (us.getD j .non) (ws.getD j .non))&&its.toArray.size==its'.toArray.size):=by
     show bQ us ws=_
     simp only [List.size_toArray]
     by_cases el:us.length=ws.length
     ·rw [bH el,show min its.length its'.length=us.length by omega,show (its.length==its'.length)=true by simp;omega,Bool.and_true]
     ·rw [cf el,show (its.length==its'.length)=false by simp;omega,Bool.and_false]
    rw [ee]
    refine SeqAt.RcAt.tuples p p' (by omega) fun j h1' h2'=>?_
    simp only [List.size_toArray] at h1' h2'
    exact iY I hK us ws vs vs' its its' n A.in1 h1 h2 q2 q4 rv rv' (by show A.units+1+n < _;omega) j (us.getD j .non) (ws.getD j .non) _ _ (by rw [List.getD_eq_getElem?_getD,List.getElem?_eq_getElem (by omega)];simp) (by rw [List.getD_eq_getElem?_getD,List.getElem?_eq_getElem (by omega)];simp) (by simp) (by simp)
  |lst ws=>obtain ⟨a',vs',rfl,q3,q4⟩:=id h4;cases r2;obtain ⟨its',rv',p',_⟩:=aC I hK q3;exact SeqAt.RcAt.tuple_list p p' (by omega)
  |dic=>cases n <;> simp [eqD] at h2
  |rdc=>cases n <;> simp [eqD] at h2
 |lst us =>
  obtain ⟨a,vs,rfl,q1,q2⟩:=id h3;cases r1;obtain ⟨its,rv,p,_⟩:=aC I hK q1
  cases w with
  |non=>simp only [Rep] at h4;subst h4;cases r2;exact SeqAt.RcAt.list_none  p (by omega)
  |bl q=>simp only [Rep] at h4;subst h4;cases r2;exact SeqAt.RcAt.list_bool q p (by omega)
  |int q=>simp only [Rep] at h4;subst h4;obtain ⟨t,rfl⟩:=r2;exact SeqAt.RcAt.list_int q t p (by omega)
  |str q=>simp only [Rep] at h4;subst h4;obtain ⟨t,rfl⟩:=r2;exact SeqAt.RcAt.list_str q t p (by omega)
  |tup ws=>obtain ⟨a',vs',rfl,q3,q4⟩:=id h4;cases r2;rw [hK] at q3;obtain ⟨its',rv',p',_⟩:=I.tuple q3;exact SeqAt.RcAt.list_tuple p p' (by omega)
  |lst ws =>
   obtain ⟨a',vs',rfl,q3,q4⟩:=id h4;cases r2;obtain ⟨its',rv',p',_⟩:=aC I hK q3
   cases n with
   |zero=>simp [eqD] at h1
   |succ n =>
    simp only [eqD] at h1 h2
    have l1:=q2.len
    have l2:=q4.len
    have l3:=rv.length
    have l4:=rv'.length
    by_cases el:us.length=ws.length
    ·have ee:aV (.lst us) (.lst ws)=(List.range its.toArray.size).all (fun j=>aV (us.getD j .non) (ws.getD j .non)):=by
      show bQ us ws=_
      rw [bH el,List.size_toArray,show its.length=us.length by omega]
     rw [ee]
     refine SeqAt.RcAt.lists p p' (by simp;omega) (by omega) fun j h1' h2'=>?_
     simp only [List.size_toArray] at h1' h2'
     exact iY I hK us ws vs vs' its its' n A.in1 h1 h2 q2 q4 rv rv' (by show A.units+1+n < _;omega) j (us.getD j .non) (ws.getD j .non) _ _ (by rw [List.getD_eq_getElem?_getD,List.getElem?_eq_getElem (by omega)];simp) (by rw [List.getD_eq_getElem?_getD,List.getElem?_eq_getElem (by omega)];simp) (by simp) (by simp)
    ·have ee:aV (.lst us) (.lst ws)=false:=cf el
     rw [ee]
     exact SeqAt.RcAt.lists_lengths p p' (by simp;omega) (by omega)
  |dic=>cases n <;> simp [eqD] at h2
  |rdc=>cases n <;> simp [eqD] at h2
 |dic=>cases n <;> simp [eqD] at h1
 |rdc=>cases n <;> simp [eqD] at h1
theorem yq (I:Inv X pins σ H s) (hK:C.K=X.K) (u w:U) (v v':V) (x x':Value) (n:Nat) (A:Around) (h1:eqD n u=true) (h2:eqD n w=true) (h3:Rep C S H u v) (h4:Rep C S H w v') (r1:RelV v x) (r2:RelV v' x') (hu:A.units+n<cLine):SeqAt.RcNeAt A s x x' (!(aV u w)):=by
 cases u with
 |non =>
  simp only [Rep] at h3;subst h3;cases r1
  cases w with
  |non=>simp only [Rep] at h4;subst h4;cases r2;exact SeqAt.RcNeAt.none_none
  |bl q=>simp only [Rep] at h4;subst h4;cases r2;exact SeqAt.RcNeAt.none_bool  q
  |int q=>simp only [Rep] at h4;subst h4;obtain ⟨t,rfl⟩:=r2;exact SeqAt.RcNeAt.none_int  q t
  |str q=>simp only [Rep] at h4;subst h4;obtain ⟨t,rfl⟩:=r2;exact SeqAt.RcNeAt.none_str  q t
  |tup ws=>obtain ⟨a',vs',rfl,q3,q4⟩:=id h4;cases r2;rw [hK] at q3;obtain ⟨its',rv',p',_⟩:=I.tuple q3;exact SeqAt.RcNeAt.none_tuple  p' (by omega)
  |lst ws=>obtain ⟨a',vs',rfl,q3,q4⟩:=id h4;cases r2;obtain ⟨its',rv',p',_⟩:=aC I hK q3;exact SeqAt.RcNeAt.none_list  p' (by omega)
  |dic=>cases n <;> simp [eqD] at h2
  |rdc=>cases n <;> simp [eqD] at h2
 |bl p =>
  simp only [Rep] at h3;subst h3;cases r1
  cases w with
  |non=>simp only [Rep] at h4;subst h4;cases r2;exact SeqAt.RcNeAt.bool_none p
  |bl q=>simp only [Rep] at h4;subst h4;cases r2;exact SeqAt.RcNeAt.bool_bool p q
  |int q=>simp only [Rep] at h4;subst h4;obtain ⟨t,rfl⟩:=r2;exact SeqAt.RcNeAt.bool_int p q t
  |str q=>simp only [Rep] at h4;subst h4;obtain ⟨t,rfl⟩:=r2;exact SeqAt.RcNeAt.bool_str p q t
  |tup ws=>obtain ⟨a',vs',rfl,q3,q4⟩:=id h4;cases r2;rw [hK] at q3;obtain ⟨its',rv',p',_⟩:=I.tuple q3;exact SeqAt.RcNeAt.bool_tuple p p' (by omega)
  |lst ws=>obtain ⟨a',vs',rfl,q3,q4⟩:=id h4;cases r2;obtain ⟨its',rv',p',_⟩:=aC I hK q3;exact SeqAt.RcNeAt.bool_list p p' (by omega)
  |dic=>cases n <;> simp [eqD] at h2
  |rdc=>cases n <;> simp [eqD] at h2
 |int p =>
  simp only [Rep] at h3;subst h3;obtain ⟨t',rfl⟩:=r1
  cases w with
  |non=>simp only [Rep] at h4;subst h4;cases r2;exact SeqAt.RcNeAt.int_none p t'
  |bl q=>simp only [Rep] at h4;subst h4;cases r2;exact SeqAt.RcNeAt.int_bool p t' q
  |int q=>simp only [Rep] at h4;subst h4;obtain ⟨t,rfl⟩:=r2;exact SeqAt.RcNeAt.int_int p t' q t
  |str q=>simp only [Rep] at h4;subst h4;obtain ⟨t,rfl⟩:=r2;exact SeqAt.RcNeAt.int_str p t' q t
  |tup ws=>obtain ⟨a',vs',rfl,q3,q4⟩:=id h4;cases r2;rw [hK] at q3;obtain ⟨its',rv',p',_⟩:=I.tuple q3;exact SeqAt.RcNeAt.int_tuple p t' p' (by omega)
  |lst ws=>obtain ⟨a',vs',rfl,q3,q4⟩:=id h4;cases r2;obtain ⟨its',rv',p',_⟩:=aC I hK q3;exact SeqAt.RcNeAt.int_list p t' p' (by omega)
  |dic=>cases n <;> simp [eqD] at h2
  |rdc=>cases n <;> simp [eqD] at h2
 |str p =>
  simp only [Rep] at h3;subst h3;obtain ⟨t',rfl⟩:=r1
  cases w with
  |non=>simp only [Rep] at h4;subst h4;cases r2;exact SeqAt.RcNeAt.str_none p t'
  |bl q=>simp only [Rep] at h4;subst h4;cases r2;exact SeqAt.RcNeAt.str_bool p t' q
  |int q=>simp only [Rep] at h4;subst h4;obtain ⟨t,rfl⟩:=r2;exact SeqAt.RcNeAt.str_int p t' q t
  |str q=>simp only [Rep] at h4;subst h4;obtain ⟨t,rfl⟩:=r2;exact SeqAt.RcNeAt.str_str p t' q t
  |tup ws=>obtain ⟨a',vs',rfl,q3,q4⟩:=id h4;cases r2;rw [hK] at q3;obtain ⟨its',rv',p',_⟩:=I.tuple q3;exact SeqAt.RcNeAt.str_tuple p t' p' (by omega)
  |lst ws=>obtain ⟨a',vs',rfl,q3,q4⟩:=id h4;cases r2;obtain ⟨its',rv',p',_⟩:=aC I hK q3;exact SeqAt.RcNeAt.str_list p t' p' (by omega)
  |dic=>cases n <;> simp [eqD] at h2
  |rdc=>cases n <;> simp [eqD] at h2
 |tup us =>
  obtain ⟨a,vs,rfl,q1,q2⟩:=id h3;cases r1;rw [hK] at q1;obtain ⟨its,rv,p,_⟩:=I.tuple q1
  cases w with
  |non=>simp only [Rep] at h4;subst h4;cases r2;exact SeqAt.RcNeAt.tuple_none  p (by omega)
  |bl q=>simp only [Rep] at h4;subst h4;cases r2;exact SeqAt.RcNeAt.tuple_bool q p (by omega)
  |int q=>simp only [Rep] at h4;subst h4;obtain ⟨t,rfl⟩:=r2;exact SeqAt.RcNeAt.tuple_int q t p (by omega)
  |str q=>simp only [Rep] at h4;subst h4;obtain ⟨t,rfl⟩:=r2;exact SeqAt.RcNeAt.tuple_str q t p (by omega)
  |tup ws =>
   obtain ⟨a',vs',rfl,q3,q4⟩:=id h4;cases r2;rw [hK] at q3;obtain ⟨its',rv',p',_⟩:=I.tuple q3
   cases n with
   |zero=>simp [eqD] at h1
   |succ n =>
    simp only [eqD] at h1 h2
    have l1:=q2.len
    have l2:=q4.len
    have l3:=rv.length
    have l4:=rv'.length
    have ee:aV (.tup us) (.tup ws)=((List.range (min its.toArray.size its'.toArray.size)).all (fun j=>aV (us.getD j .non) (ws.getD j .non))&&its.toArray.size==its'.toArray.size):=by
     show bQ us ws=_
     simp only [List.size_toArray]
     by_cases el:us.length=ws.length
     ·rw [bH el,show min its.length its'.length=us.length by omega,show (its.length==its'.length)=true by simp;omega,Bool.and_true]
     ·rw [cf el,show (its.length==its'.length)=false by simp;omega,Bool.and_false]
    rw [ee]
    refine SeqAt.RcNeAt.tuples p p' (by omega) fun j h1' h2'=>?_
    simp only [List.size_toArray] at h1' h2'
    exact iY I hK us ws vs vs' its its' n A.in1 h1 h2 q2 q4 rv rv' (by show A.units+1+n < _;omega) j (us.getD j .non) (ws.getD j .non) _ _ (by rw [List.getD_eq_getElem?_getD,List.getElem?_eq_getElem (by omega)];simp) (by rw [List.getD_eq_getElem?_getD,List.getElem?_eq_getElem (by omega)];simp) (by simp) (by simp)
  |lst ws=>obtain ⟨a',vs',rfl,q3,q4⟩:=id h4;cases r2;obtain ⟨its',rv',p',_⟩:=aC I hK q3;exact SeqAt.RcNeAt.tuple_list p p' (by omega)
  |dic=>cases n <;> simp [eqD] at h2
  |rdc=>cases n <;> simp [eqD] at h2
 |lst us =>
  obtain ⟨a,vs,rfl,q1,q2⟩:=id h3;cases r1;obtain ⟨its,rv,p,_⟩:=aC I hK q1
  cases w with
  |non=>simp only [Rep] at h4;subst h4;cases r2;exact SeqAt.RcNeAt.list_none  p (by omega)
  |bl q=>simp only [Rep] at h4;subst h4;cases r2;exact SeqAt.RcNeAt.list_bool q p (by omega)
  |int q=>simp only [Rep] at h4;subst h4;obtain ⟨t,rfl⟩:=r2;exact SeqAt.RcNeAt.list_int q t p (by omega)
  |str q=>simp only [Rep] at h4;subst h4;obtain ⟨t,rfl⟩:=r2;exact SeqAt.RcNeAt.list_str q t p (by omega)
  |tup ws=>obtain ⟨a',vs',rfl,q3,q4⟩:=id h4;cases r2;rw [hK] at q3;obtain ⟨its',rv',p',_⟩:=I.tuple q3;exact SeqAt.RcNeAt.list_tuple p p' (by omega)
  |lst ws =>
   obtain ⟨a',vs',rfl,q3,q4⟩:=id h4;cases r2;obtain ⟨its',rv',p',_⟩:=aC I hK q3
   cases n with
   |zero=>simp [eqD] at h1
   |succ n =>
    simp only [eqD] at h1 h2
    have l1:=q2.len
    have l2:=q4.len
    have l3:=rv.length
    have l4:=rv'.length
    by_cases el:us.length=ws.length
    ·have ee:aV (.lst us) (.lst ws)=(List.range its.toArray.size).all (fun j=>aV (us.getD j .non) (ws.getD j .non)):=by
      show bQ us ws=_
      rw [bH el,List.size_toArray,show its.length=us.length by omega]
     rw [ee]
     refine SeqAt.RcNeAt.lists p p' (by simp;omega) (by omega) fun j h1' h2'=>?_
     simp only [List.size_toArray] at h1' h2'
     exact iY I hK us ws vs vs' its its' n A.in1 h1 h2 q2 q4 rv rv' (by show A.units+1+n < _;omega) j (us.getD j .non) (ws.getD j .non) _ _ (by rw [List.getD_eq_getElem?_getD,List.getElem?_eq_getElem (by omega)];simp) (by rw [List.getD_eq_getElem?_getD,List.getElem?_eq_getElem (by omega)];simp) (by simp) (by simp)
    ·have ee:aV (.lst us) (.lst ws)=false:=cf el
     rw [ee]
     exact SeqAt.RcNeAt.lists_lengths p p' (by simp;omega) (by omega)
  |dic=>cases n <;> simp [eqD] at h2
  |rdc=>cases n <;> simp [eqD] at h2
 |dic=>cases n <;> simp [eqD] at h1
 |rdc=>cases n <;> simp [eqD] at h1
end
end TM
namespace TM
open PySem L2 PyProof.Rows
noncomputable def tEv (C:Ct) (m:M (Kd×U)):TE:=fun σ H Q=>∃ c0:Cf,c0.σ=σ∧c0.H=H∧Ok C c0∧W m c0.st fun r st'=>∀ c v,c.σ=σ→c.st=st'→Ok C c→Nx c0 c→aB C c0 c r.1 r.2 v→Q v c.H
noncomputable def tTs (C:Ct) (m:M Bool):TT:=fun σ H Q=>∃ c0:Cf,c0.σ=σ∧c0.H=H∧Ok C c0∧W m c0.st fun b st'=>∀ c,c.σ=σ→c.st=st'→Ok C c→Nx c0 c→Q b c.H
noncomputable def cO (C:Ct) (c0 c:Cf):List (Kd×U)→List V→Prop
 |[],vs=>vs=[]
 |r::rs,vs=>∃ v t,vs=v::t∧d6 C c0 c r.1 r.2 v∧cO C c0 c rs t∧(r.1=.own→∀ (i:Nat) r' v',rs[i]?=some r'→t[i]?=some v'→r'.1=.own→v'≠v)
noncomputable def tEs (C:Ct) (m:M (List (Kd×U))):TA:=fun σ H Q=>∃ c0:Cf,c0.σ=σ∧c0.H=H∧Ok C c0∧W m c0.st fun rs st'=>∀ c vs,c.σ=σ→c.st=st'→Ok C c→Nx c0 c→cO C c0 c rs vs→Q vs c.H
section
variable {X : Cx} {C : Ct}
theorem PE.weak {e:Expr}{t t':TE} (h:PE X e t) (i:∀ σ H Q,t' σ H Q→t σ H Q):PE X e t':=fun pins s σ H Q I q=>h pins s σ H Q I (i σ H Q q)
theorem PT.weak {e:Expr}{t t':TT} (h:PT X e t) (i:∀ σ H Q,t' σ H Q→t σ H Q):PT X e t':=fun pins s σ H Q I q=>h pins s σ H Q I (i σ H Q q)
theorem bR {rs:List (Kd×U)}{st:ag}{Q:Unit→ag→Prop}:W (au rs) st Q↔bj rs st∧Q () st:=by
 constructor
 ·rintro ⟨a,st',e,h⟩
  unfold au at e
  split at e
  ·cases e;exact ⟨by assumption,h⟩
  ·cases e
 ·rintro ⟨h1,h2⟩
  exact ⟨(),st,by unfold au;rw [if_pos h1],h2⟩
theorem gx {r:Kd×U}{rs:List (Kd×U)}{st:ag}:bj (r::rs) st↔bj [r] st∧bj rs st:=by
 obtain ⟨k,u⟩:=r
 cases k <;> simp [bj]
theorem d6.t {c0 c:Cf}{k:Kd}{u:U}{v:V} (h:d6 C c0 c k u v) (s:bj [(k,u)] c.st):aB C c0 c k u v:=by
 cases k with
 |own=>exact h
 |loc=>exact h
 |any=>exact h
 |bor j=>exact ⟨s.1,h⟩
 |io=>exact h
 |ownD=>exact h
structure At2 (C:Ct) (c0 c:Cf) (x y:Kd×U) (vx vy:V):Prop where
 hσ:c.σ=c0.σ
 ok:Ok C c
 nx:Nx c0 c
 rx:aB C c0 c x.1 x.2 vx
 ry:aB C c0 c y.1 y.2 vy
 ne:x.1=.own→y.1=.own→vy≠vx
theorem lz {c0 c1 c:Cf}{k k':Kd}{u u':U}{v v':V} (h:d6 C c0 c1 k u v) (h':d6 C c1 c k' u' v'):k=.own→k'=.own→v'≠v:=by
 rintro rfl rfl e
 obtain ⟨r,e1,_,_,_,h4⟩:=h
 obtain ⟨r',e2,h5,_⟩:=h'
 obtain ⟨o,ho,_⟩:=h4.some
 subst e1
 rw [e2] at e
 cases e
 rw [ho] at h5;cases h5
variable {a b : Expr} {ma mb : M (Kd × U)} {pins : List (Addr × Obj)} {σ : L2.St} {H : Hp} {s : Shared}
theorem two {β:Type}{k:Kd×U→Kd×U→M β}{Post:β→ag→Prop}{α:Type}{f:Value→Value→Sem α}{Q':Value→Value→α→Shared→Prop}{c0:Cf} (ha:PE X a (tEv C ma)) (hb:PE X b (tEv C mb)) (I:Inv X pins c0.σ c0.H s) (ok:Ok C c0)
  (h:W (ma >>= fun x=>mb >>= fun y=>au [x,y] >>= fun _=>k x y) c0.st Post)
  (hf:∀ x y c vx vy v u s2,At2 C c0 c x y vx vy→Inv X pins c.σ c.H s2→RelV vx v→RelV vy u→W (k x y) c.st Post→wpAny (model X.prog X.w) X.A (f v u) (Q' v u) X.xe s2) :
  wpAny (model X.prog X.w) X.A (eval a X.env) (fun v s₁=>wpAny (model X.prog X.w) X.A (eval b X.env) (fun u s₂=>wpAny (model X.prog X.w) X.A (f v u) (Q' v u) X.xe s₂) X.xe s₁) X.xe s:=by
 rw [ab] at h
 refine thn (ha pins s c0.σ c0.H (fun vx H1=>∃ x c1,c1.H=H1∧c1.σ=c0.σ∧Ok C c1∧Nx c0 c1∧aB C c0 c1 x.1 x.2 vx∧W (mb >>= fun y=>au [x,y] >>= fun _=>k x y) c1.st Post) I ⟨c0,rfl,rfl,ok,h.mono fun x st1 h1 c1 vx e1 e2 ok1 n1 r1=>⟨x,c1,rfl,e1,ok1,n1,r1,by rw [e2];exact h1⟩⟩) ?_
 rintro v s1 ⟨vx,H1,I1,rv,x,c1,rfl,e1,ok1,n1,r1,h1⟩
 rw [ab] at h1
 refine thn (hb pins s1 c0.σ c1.H (fun vy H2=>∃ y c2,c2.H=H2∧At2 C c0 c2 x y vx vy∧W (k x y) c2.st Post) I1 ⟨c1,e1,rfl,ok1,h1.mono fun y st2 h2 c2 vy e3 e4 ok2 n2 r2=>?_⟩) ?_
 ·rw [ab,bR] at h2
  subst e4
  rw [gx] at h2
  exact ⟨y,c2,rfl,⟨e3,ok2,n1.trans n2,(r1.w.on ok1 n2 (e3.trans e1.symm)).t h2.1.1,(r2.from n1),lz r1.w r2.w⟩,h2.2⟩
 ·rintro u s2 ⟨vy,H2,I2,ru,y,c2,rfl,at2,h2⟩
  have hs:c2.σ=c0.σ:=at2.hσ
  exact hf x y c2 vx vy v u s2 at2 (by rw [hs];exact I2) rv ru h2
structure At1 (C:Ct) (c0 c:Cf) (x:Kd×U) (vx:V):Prop where
 hσ:c.σ=c0.σ
 ok:Ok C c
 nx:Nx c0 c
 rx:aB C c0 c x.1 x.2 vx
noncomputable def bW (C:Ct) (c0:Cf) (Q:VK) (r:Kd×U) (st':ag):Prop:=∀ c v,c.σ=c0.σ→c.st=st'→Ok C c→Nx c0 c→aB C c0 c r.1 r.2 v→Q v c.H
section
variable {c0 c : Cf} {Q : VK}
theorem bW.flat {u:U}{v:V} (h:bW C c0 Q (.loc,u) c.st) (hσ:c.σ=c0.σ) (ok:Ok C c) (n:Nx c0 c) (r:Rep C c.S c.H u v):Q v c.H:=h c v hσ rfl ok n r
theorem bW.list {us:List U}{vs:List V} (h:bW C c0 Q (.own,.lst us) c.st) (hσ:c.σ=c0.σ) (ok:Ok C c) (n:Nx c0 c) (r:ah C c.S c.H us vs) (p:Addr) (hp:c.H p=none):Q (.ref p) (upd c.H p (.lst vs)):=by
 obtain ⟨ok',n',r'⟩:=ok.newList n hp r
 exact h { c with H:=upd c.H p (.lst vs) } _ hσ rfl ok' n' r'
theorem bW.tup {us:List U}{vs:List V} (h:bW C c0 Q (.loc,.tup us) c.st) (hσ:c.σ=c0.σ) (ok:Ok C c) (n:Nx c0 c) (r:ah C c.S c.H us vs) (p:Addr) (hp:c.H p=none):Q (.ref p) (upd c.H p (.tup vs)):=by
 obtain ⟨ok',n',r'⟩:=ok.yi n hp r
 exact h { c with H:=upd c.H p (.tup vs) } _ hσ rfl ok' n' r'
theorem bW.tupK {k:Kd}{us:List U}{vs:List V} (h:bW C c0 Q (kE k,.tup us) c.st) (hσ:c.σ=c0.σ) (ok:Ok C c) (n:Nx c0 c) (r:ah C (SK C c k) c.H us vs) (p:Addr) (hp:c.H p=none):Q (.ref p) (upd c.H p (.tup vs)):=by
 obtain ⟨ok',n'⟩:=ok.lay (o:=.tup vs) hp
 refine h { c with H:=upd c.H p (.tup vs) } _ hσ rfl ok' (n.trans n') (aB.item ?_)
 cases k <;> exact ⟨p,vs,rfl,SqT.of aq,by first|exact r.mv (ok.mvP n')|exact r.mv (ok.mv n')⟩
theorem d7 {k:Kd}{us:List U}{vs:List V} (h:lr k us=true) (r:ah C (SK C c k) c.H us vs):ah C c.S c.H us vs:=by
 cases k with
 |any=>exact r.imm (by simpa [lr,isAny] using h)
 |own=>exact r
 |loc=>exact r
 |bor j=>exact r
 |io=>exact r
 |ownD=>exact r
end
theorem vF:OpR X (binaryOp .Add) (fun x y H Q=>∃ l b xs zs,x=.ref l∧y=.ref b∧SqL X.K H l xs∧SqL X.K H b zs∧xs.length+zs.length≤sizeLine∧∀ p,H p=none→Q (.ref p) (upd H p (.lst (xs++zs)))):=by
 intro pins s σ H x y v u Q I rx ry h
 obtain ⟨l,b,xs,zs,rfl,rfl,hH,hB,hz,q⟩:=h
 cases rx
 cases ry
 obtain ⟨its,r,pl,z⟩:=I.list hH
 obtain ⟨its2,r2,pl2,z2⟩:=I.list hB
 have hl:=r.length
 have hl2:=r2.length
 obtain ⟨⟨cls,dd,data,sl⟩,ho,hc,n,hd⟩:=pl.isList
 obtain ⟨⟨cls2,dd2,data2,sl2⟩,ho2,hc2,n2,hd2⟩:=pl2.isList
 simp only at hc hd hc2 hd2
 subst hc hd hc2 hd2
 refine concat_meets ⟨_,ho,rfl⟩ ⟨_,ho2,rfl⟩ noFill_list_add seq_list_add PySem.F.slot_list_add PySem.F.entry_list_add (PySem.F.args_list_add_2 _ _)
   (list_addW l b its.toArray its2.toArray n n2 dd dd2 sl sl2 (by rw [List.size_toArray,List.size_toArray];omega)) ⟨ho,ho2,?_⟩
 have ea:its.toArray++its2.toArray=(its++its2).toArray:=by simp
 rw [ea]
 exact ⟨.ref _,_,I.A6 (t':=s.toks) (r.append r2) (by rw [List.length_append];omega),rfl,q _ I.fresh⟩
end
end TM
namespace TM
open PySem L2 PyProof.Rows
section
variable {X : Cx} {C : Ct} {pins : List (Addr × Obj)} {s : Shared} {c0 c : Cf} {Q : VK}
noncomputable def Bop.op:Bop→Operator
 |.add=>.Add|.sub=>.Sub|.mul=>.Mult|.fdv=>.FloorDiv|.mod=>.Mod|.pow=>.Pow
theorem dk {f:Int→Int→Option Int}{a b:U}{r:Kd×U} (h:oN f a b=some r):∃ i j o,a=.int i∧b=.int j∧f i j=some o∧r=(.loc,.int o):=by
 unfold oN at h
 split at h
 ·rw [Option.map_eq_some_iff] at h
  obtain ⟨o,e,rfl⟩:=h
  exact ⟨_,_,o,rfl,rfl,e,rfl⟩
 ·cases h
theorem yr {op:Bop}{x y r:Kd×U}{vx vy:V}{v u:Value} (hK:C.K=X.K) (t:At2 C c0 c x y vx vy) (I:Inv X pins c.σ c.H s) (rx:RelV vx v) (ry:RelV vy u) (h:opU op x y=some r) (q:bW C c0 Q r c.st) :
  wpAny (model X.prog X.w) X.A (binaryOp op.op v u) (EP X pins c.σ Q) X.xe s:=by
 obtain ⟨hσ,ok,n,tx,ty,_⟩:=t
 cases op with
 |add =>
  have h:sT x y=some r:=h
  unfold sT at h
  split at h
  ·have ex:=tx.int ok;have ey:=ty.int ok
   cases h
   exact iw pins s c.σ c.H vx vy v u Q I rx ry ⟨_,_,ex,ey,q.flat hσ ok n rfl⟩
  ·have ex:=tx.str ok;have ey:=ty.str ok
   split at h
   ·cases h
    exact oo pins s c.σ c.H vx vy v u Q I rx ry ⟨_,_,ex,ey,by assumption,q.flat hσ ok n rfl⟩
   ·cases h
  ·obtain ⟨a,vs,ex,h1,h2⟩:=tx.list ok
   obtain ⟨b,ws,ey,h3,h4⟩:=ty.list ok
   split at h
   ·rename_i hh
    cases h
    exact vF pins s c.σ c.H vx vy v u Q I rx ry ⟨a,b,vs,ws,ex,ey,hK ▸ h1,hK ▸ h3,by rw [←h2.len,←h4.len];exact hh.1,fun p hp=>q.list hσ ok n ((d7 hh.2.1 h2).append (d7 hh.2.2 h4)) p hp⟩
   ·cases h
  ·cases h
 |sub =>
  obtain ⟨i,j,o,ex,ey,eo,rfl⟩:=dk h
  have ex:=(ex ▸ tx).int ok;have ey:=(ey ▸ ty).int ok
  cases eo
  exact oj pins s c.σ c.H vx vy v u Q I rx ry ⟨_,_,ex,ey,q.flat hσ ok n rfl⟩
 |mul =>
  obtain ⟨i,j,o,ex,ey,eo,rfl⟩:=dk h
  have ex:=(ex ▸ tx).int ok;have ey:=(ey ▸ ty).int ok
  unfold vp at eo
  split at eo
  ·cases eo
   exact kJ pins s c.σ c.H vx vy v u Q I rx ry ⟨_,_,ex,ey,by assumption,q.flat hσ ok n rfl⟩
  ·cases eo
 |fdv =>
  obtain ⟨i,j,o,ex,ey,eo,rfl⟩:=dk h
  have ex:=(ex ▸ tx).int ok;have ey:=(ey ▸ ty).int ok
  unfold vq at eo
  split at eo
  ·cases eo
   exact uX pins s c.σ c.H vx vy v u Q I rx ry ⟨_,_,ex,ey,by assumption,q.flat hσ ok n rfl⟩
  ·cases eo
 |mod =>
  obtain ⟨i,j,o,ex,ey,eo,rfl⟩:=dk h
  have ex:=(ex ▸ tx).int ok;have ey:=(ey ▸ ty).int ok
  unfold vt at eo
  split at eo
  ·cases eo
   exact cA pins s c.σ c.H vx vy v u Q I rx ry ⟨_,_,ex,ey,by assumption,q.flat hσ ok n rfl⟩
  ·cases eo
 |pow =>
  obtain ⟨i,j,o,ex,ey,eo,rfl⟩:=dk h
  have ex:=(ex ▸ tx).int ok;have ey:=(ey ▸ ty).int ok
  unfold vv at eo
  split at eo
  ·cases eo
   exact kK pins s c.σ c.H vx vy v u Q I rx ry ⟨_,_,ex,ey,by assumption,q.flat hσ ok n rfl⟩
  ·cases eo
theorem vG {op:Bop}{a b:Expr}{ma mb:M (Kd×U)}{pos:Pos} (hK:C.K=X.K) (ha:PE X a (tEv C ma)) (hb:PE X b (tEv C mb)):PE X (.BinOp a op.op b pos) (tEv C (ma >>= fun x=>mb >>= fun y=>au [x,y] >>= fun _=>M.ofO (opU op x y))):=by
 rintro pins s σ H Q I ⟨c0,rfl,rfl,ok,h⟩
 refine wpAny_BinOp (two ha hb I ok h fun x y c vx vy v u s2 t I2 rx ry w=>?_)
 obtain ⟨r,e,q⟩:=bP.mp w
 exact thn (yr hK t I2 rx ry e q) fun _ _ z=>by rw [t.hσ] at z;exact z
noncomputable def Cop.op:Cop→CmpOp
 |.eq=>.Eq|.ne=>.NotEq|.lt=>.Lt|.le=>.LtE|.gt=>.Gt|.ge=>.GtE|.isin=>.In|.notin=>.NotIn|.is=>.Is|.isnt=>.IsNot
theorem zM {neg:Bool} (I:Inv X pins c.σ c.H s) (hK:C.K=X.K) (hu:X.A.units+60<cLine) {x:U}{ys:List U}{vx:V}{v:Value}{a:Addr}{vs:List V}{S:Addr→Prop} (hx:Rep C S c.H x vx) (rx:RelV vx v) (hy:ah C S c.H ys vs)
  (ha:SqL C.K c.H a vs∨SqT C.K c.H a vs) (e1:eqD 50 x=true) (e2:bM 50 ys=true) {Q:Value→Shared→Prop} (q:Q (.bool (if neg then !(ys.any fun y=>aV y x) else ys.any fun y=>aV y x)) s) :
  wpAny (model X.prog X.w) X.A (compareOp (if neg then .NotIn else .In) v (.ref a)) Q X.xe s:=by
 have hS:∀ (j:Nat) (w:U) (vw:V),ys[j]?=some w→vs[j]?=some vw→Rep C S c.H w vw:=fun j w vw h1 h2=>by
  obtain ⟨vw',e,r⟩:=hy.get h1
  rw [h2] at e;cases e
  exact r
 have eD:∀ (j:Nat) (w:U),ys[j]?=some w→eqD 50 w=true:=by
  have:∀ (l:List U),bM 50 l=true→∀ w∈l,eqD 50 w=true:=by
   intro l
   induction l with
   |nil=>intro _ w hw;cases hw
   |cons z l ih =>
    intro h w hw
    simp only [bM,Bool.and_eq_true] at h
    rcases List.mem_cons.mp hw with rfl|hw
    ·exact h.1
    ·exact ih h.2 w hw
  exact fun j w h=>this ys e2 w (List.mem_of_getElem? h)
 have go:∀ its:List Value,Vals vs its→∃ e:Value→Bool,(∀ y,y∈its.toArray→SeqAt.EqAt X.A.in1 s y v (e y))∧its.toArray.any e=ys.any fun y=>aV y x:=by
  intro its rv
  have l1:=hy.len
  have l2:=rv.length
  classical
  have at':∀ (j:Nat) (y:Value),its[j]?=some y→∃ w vw,ys[j]?=some w∧vs[j]?=some vw∧RelV vw y∧Rep C S c.H w vw:=by
   intro j y h
   have hj:j<its.length:=(List.getElem?_eq_some_iff.mp h).1
   obtain ⟨w,hw⟩:∃ w,ys[j]?=some w:=⟨ys[j]'(by omega),by simp⟩
   obtain ⟨vw,hvw,r⟩:=hy.get hw
   obtain ⟨y',hy',rr⟩:=rv.get hvw
   rw [h] at hy';cases hy'
   exact ⟨w,vw,hw,hvw,rr,r⟩
  refine ⟨fun y=>decide (∃ (j:Nat) (w:U),its[j]?=some y∧ys[j]?=some w∧aV w x=true),fun y hmem=>?_,?_⟩
  ·obtain ⟨j,hj,e⟩:=List.getElem_of_mem (show y∈its by simpa using hmem)
   have hjy:its[j]?=some y:=by rw [List.getElem?_eq_getElem hj,e]
   obtain ⟨w,vw,hw,hvw,rr,r⟩:=at' j y hjy
   have eq:decide (∃ (j:Nat) (w:U),its[j]?=some y∧ys[j]?=some w∧aV w x=true)=aV w x:=by
    rw [Bool.eq_iff_iff,decide_eq_true_iff]
    constructor
    ·rintro ⟨j',w',h1,h2,h3⟩
     obtain ⟨w2,vw2,hw2,_,rr2,r2⟩:=at' j' y h1
     rw [h2] at hw2;cases hw2
     have:vw2=vw:=rr2.inj rr
     subst this
     rw [qd I hK w w' vw2 50 (eD j w hw) (eD j' w' h2) r r2]
     exact h3
    ·intro h
     exact ⟨j,w,hjy,hw,h⟩
   have z:=sY I hK w x vw vx y v 50 X.A.in1 (eD j w hw) e1 r hx rr rx (by show X.A.units+1+50 < _;omega)
   rw [←eq] at z
   exact z
  ·rw [Bool.eq_iff_iff]
   simp only [List.any_toArray,List.any_eq_true,decide_eq_true_iff]
   constructor
   ·rintro ⟨y,_,j,w,h1,h2,h3⟩
    exact ⟨w,List.mem_of_getElem? h2,h3⟩
   ·rintro ⟨w,hw,h3⟩
    obtain ⟨j,hj,e⟩:=List.getElem_of_mem hw
    have hjy:its[j]?=some (its[j]'(by omega)):=List.getElem?_eq_getElem _
    exact ⟨its[j]'(by omega),List.getElem_mem _,j,w,hjy,by rw [List.getElem?_eq_getElem hj,e],h3⟩
 rcases ha with ha|ha
 ·obtain ⟨its,rv,p,_⟩:=qb I (hK ▸ ha)
  obtain ⟨e,h1,h2⟩:=go its rv
  cases neg with
  |false=>exact SeqAt.in_listAt e p h1 (by rw [h2];exact q)
  |true=>exact SeqAt.notIn_listAt e p h1 (by rw [h2];exact q)
 ·rw [hK] at ha
  obtain ⟨its,rv,p,_⟩:=I.tuple ha
  obtain ⟨e,h1,h2⟩:=go its rv
  cases neg with
  |false=>exact SeqAt.in_tupleAt e p h1 (by rw [h2];exact q)
  |true=>exact SeqAt.notIn_tupleAt e p h1 (by rw [h2];exact q)
end
end TM
namespace TM
open PySem L2 PyProof.Rows
section
variable {X : Cx} {C : Ct} {pins : List (Addr × Obj)} {s : Shared} {c0 c : Cf} {Q : VK}
theorem bI:∀ {us:List U}{ss:List Str},strsOf us=some ss→us=ss.map .str
 |[],ss,h=>by cases h;rfl
 |.str x::us,ss,h=>by
  simp only [strsOf,Option.map_eq_some_iff] at h
  obtain ⟨t,h1,rfl⟩:=h
  rw [bI h1];rfl
 |.non::_,_,h=>by cases h
 |.bl _::_,_,h=>by cases h
 |.int _::_,_,h=>by cases h
 |.tup _::_,_,h=>by cases h
 |.lst _::_,_,h=>by cases h
 |.dic _ _::_,_,h=>by cases h
 |.rdc _::_,_,h=>by cases h
theorem iZ:∀ {us:List U}{ss:List Bool},iT us=some ss→us=ss.map .bl
 |[],ss,h=>by cases h;rfl
 |.bl x::us,ss,h=>by
  simp only [iT,Option.map_eq_some_iff] at h
  obtain ⟨t,h1,rfl⟩:=h
  rw [iZ h1];rfl
 |.non::_,_,h=>by cases h
 |.str _::_,_,h=>by cases h
 |.int _::_,_,h=>by cases h
 |.tup _::_,_,h=>by cases h
 |.lst _::_,_,h=>by cases h
 |.dic _ _::_,_,h=>by cases h
 |.rdc _::_,_,h=>by cases h
theorem ah.bls {S:Addr→Prop}{H:Hp}:∀ {xs:List Bool}{vs:List V},ah C S H (xs.map .bl) vs→vs=xs.map V.bl
 |[],vs,h=>h
 |x::xs,vs,h=>by
  obtain ⟨v,r,rfl,h1,h2⟩:=h
  rw [ah.bls h2]
  have:v=.bl x:=h1
  rw [this];rfl
noncomputable def zN (r:dw):U:=.tup [.str r.1,.tup (r.2.map .str)]
theorem i_ {u:U}{r:dw} (h:rowOf u=some r):u=zN r:=by
 unfold rowOf at h
 split at h
 ·rw [Option.map_eq_some_iff] at h
  obtain ⟨ss,h1,rfl⟩:=h
  rw [bI h1];rfl
 ·cases h
noncomputable def yt (X:Cx) (pins:List (Addr×Obj)) (c:Cf) (b:Bool) (v:Value) (s':Shared):Prop:=v=.bool b∧Inv X pins c.σ c.H s'
theorem fU {f:Value→Value→Sem Value}{r:R2}{b:Bool}{vx vy:V}{v u:Value} (o:OpR X f r) (I:Inv X pins c.σ c.H s) (rx:RelV vx v) (ry:RelV vy u) (h:r vx vy c.H fun x H'=>x=.bl b∧H'=c.H) :
  wpAny (model X.prog X.w) X.A (f v u) (yt X pins c b) X.xe s :=
 thn (o pins s c.σ c.H vx vy v u _ I rx ry h) fun w s' hIx=>by
  obtain ⟨z,H',I',r,e1,e2⟩:=hIx
  subst e1 e2
  exact ⟨r,I'⟩
theorem aB.dict {k:Kd}{ks:List Str}{us:List U}{v:V} (ok:Ok C c) (h:aB C c0 c k (.dic ks us) v):∃ a kvs,v=.ref a∧c.H a=some (.dK kvs)∧kvs.map (·.1)=ks.map Sum.inr∧ah C (SK C c k) c.H us (kvs.map (·.2)):=by
 cases k with
 |own=>obtain ⟨r,e,_,_,_,kvs,h1,h2,h3⟩:=h;exact ⟨r,kvs,e,h1,h2,h3⟩
 |loc=>obtain ⟨a,e,_,kvs,h1,h2,h3⟩:=h;exact ⟨a,kvs,e,h1,h2,h3⟩
 |any=>obtain ⟨a,e,_,kvs,h1,h2,h3⟩:=h;exact ⟨a,kvs,e,h1,h2,h3⟩
 |bor j=>obtain ⟨r,e,_,_,_,kvs,h1,h2,h3⟩:=ok.rootOf h.1 h.2;exact ⟨r,kvs,e,h1,h2,h3⟩
 |io=>exact h.elim
 |ownD=>exact h.elim
theorem aB.p9 {k:Kd}{ks:List dw}{v:V} (ok:Ok C c) (h:aB C c0 c k (.rdc ks) v):∃ a,v=.ref a∧dO C.P C.w C.K c.H a ks:=by
 cases k with
 |own=>obtain ⟨r,e,_,_,_,h⟩:=h;exact ⟨r,e,h⟩
 |loc=>obtain ⟨a,e,_,h⟩:=h;exact ⟨a,e,h⟩
 |any=>obtain ⟨a,e,_,h⟩:=h;exact ⟨a,e,h⟩
 |bor j=>obtain ⟨r,e,_,_,_,h⟩:=ok.rootOf h.1 h.2;exact ⟨r,e,h⟩
 |io=>exact h.elim
 |ownD=>exact h.elim
theorem cG {S:Addr→Prop}{H:Hp}{x:Str}:∀ {ks:List Str}{us:List U}{kvs:List (Key×V)},kvs.map (·.1)=ks.map Sum.inr→ah C S H us (kvs.map (·.2)) →
  (∀ u,cN ks us x=some u→∃ v,cD kvs (Sum.inr x)=some v∧Rep C S H u v)∧(cD kvs (Sum.inr x)).isSome=decide (x∈ks)
 |[],us,kvs,h1,h2=>by
  have:kvs=[]:=by simpa using h1
  subst this
  exact ⟨fun u h=>by cases us <;> simp [cN] at h,by simp [cD]⟩
 |k::ks,us,[],h1,h2=>by simp at h1
 |k::ks,[],p::kvs,h1,h2=>by simp [ah] at h2
 |k::ks,u0::us,p::kvs,h1,h2=>by
  obtain ⟨v,r,e,h3,h4⟩:=h2
  rw [List.map_cons] at e
  cases e
  rw [List.map_cons,List.map_cons,List.cons.injEq] at h1
  obtain ⟨i1,i2⟩:=cG (x:=x) h1.2 h4
  by_cases hk:k=x
  ·subst hk
   refine ⟨fun u h=>?_,?_⟩
   ·simp [cN] at h
    subst h
    exact ⟨p.2,de h1.1,h3⟩
   ·rw [de h1.1];simp
  ·have hp:¬ p.1=Sum.inr x:=by rw [h1.1];intro z;exact hk (Sum.inr.inj z)
   refine ⟨fun u h=>?_,?_⟩
   ·simp [cN,hk] at h
    obtain ⟨v,e,q⟩:=i1 u h
    exact ⟨v,by rw [df hp];exact e,q⟩
   ·rw [df hp,i2]
    simp [Ne.symm hk]
theorem yu (hu:X.A.units+3<cLine):OpR X (compareOp .In) (fun x y H Q=>∃ k d ks,dZ X.K H x k∧y=.ref d∧dO X.prog X.w X.K H d ks∧Q (.bl (decide (k∈ks))) H):=by
 intro pins s σ H x y v u Q I rx ry h
 obtain ⟨k,d,ks,⟨a,b,rfl,h1,h2⟩,rfl,⟨xs,h3,h4,h5⟩,q⟩:=h
 cases rx
 cases ry
 obtain ⟨hd,dd⟩:=iG I h3 h5
 refine wpAny_in_heap hu (hW I ⟨a,b,rfl,h1,h2⟩) hd dd ?_
 exact ⟨.bl (decide (k∈ks)),H,I.tok _,by rw [fc,h4];rfl,q⟩
theorem Rep.row {S:Addr→Prop}{H:Hp}{r:dw}{v:V} (h:Rep C S H (zN r) v):dZ C.K H v r:=by
 obtain ⟨a,vs,e,h1,v1,r1,e1,h2,v2,r2,e2,h3,h4⟩:=h
 cases h4
 have e3:v1=.str r.1:=h2
 obtain ⟨b,ws,e4,h5,h6⟩:=h3
 rw [ah.strs] at h6
 subst e1 e2 e3 e4 h6
 exact ⟨a,b,e,h1,h5⟩
theorem sZ {op:Cop}{x y:Kd×U}{b:Bool}{vx vy:V}{v u:Value} (hP:C.P=X.prog) (hw:C.w=X.w) (hK:C.K=X.K) (hu:X.A.units+60<cLine) (t:At2 C c0 c x y vx vy) (I:Inv X pins c.σ c.H s) (rx:RelV vx v) (ry:RelV vy u) (h:bh op x.2 y.2=some b) :
  wpAny (model X.prog X.w) X.A (compareOp op.op v u) (yt X pins c b) X.xe s:=by
 obtain ⟨hσ,ok,n,tx,ty,_⟩:=t
 obtain ⟨kx,ux⟩:=x
 obtain ⟨ky,uy⟩:=y
 dsimp only at h tx ty
 have has:∀ neg:Bool,∀ b',vA ux uy=some b'→wpAny (model X.prog X.w) X.A (compareOp (if neg then .NotIn else .In) v u) (yt X pins c (if neg then !b' else b')) X.xe s:=by
  intro neg b' h
  have mx:=tx.read ok
  have my:=ty.read ok
  unfold vA at h
  split at h
  ·obtain ⟨a,vs,rfl,h1,h2⟩:=my
   cases ry
   unfold inU at h
   split at h
   ·rename_i hh
    cases h
    exact zM I hK hu mx rx h2 (.inl h1.sq) hh.1 hh.2 ⟨by cases neg <;> rfl,I⟩
   ·cases h
  ·obtain ⟨a,vs,rfl,h1,h2⟩:=my
   cases ry
   unfold inU at h
   split at h
   ·rename_i hh
    cases h
    exact zM I hK hu mx rx h2 (.inr h1) hh.1 hh.2 ⟨by cases neg <;> rfl,I⟩
   ·cases h
  ·cases h
   have ex:vx=_:=mx
   obtain ⟨a,kvs,rfl,h1,h2,h3⟩:=ty.dict ok
   cases ry
   subst ex
   have hs:=fun z:Str=>(cG (x:=z) h2 h3).2
   cases neg with
   |false=>exact zI (by omega) I (cW.k (k:=Sum.inr _) h1) rx fun s' I'=>⟨by rw [hs];rfl,I'⟩
   |true=>exact pR (by omega) I (cW.k (k:=Sum.inr _) h1) rx fun s' I'=>⟨by rw [hs];rfl,I'⟩
  ·rw [Option.map_eq_some_iff] at h
   obtain ⟨r,h1,h2⟩:=h
   have e:=i_ h1
   subst e
   have hr:=mx.row
   obtain ⟨a,ea,h3⟩:=ty.p9 ok
   rw [hK] at hr h3
   rw [hP,hw] at h3
   subst h2
   cases neg with
   |false=>exact fU (yu (by omega)) I rx ry ⟨r,a,_,hr,ea,h3,rfl,rfl⟩
   |true=>exact fU (qT (by omega)) I rx ry ⟨r,a,_,hr,ea,h3,rfl,rfl⟩
  ·cases h
 unfold bh at h
 split at h
 ·split at h
  ·rename_i hh
   cases h
   exact Bd I hK _ _ vx vy v u 50 X.A hh.1 hh.2 (tx.read ok) (ty.read ok) rx ry (by omega) _ _ _ _ ⟨rfl,I⟩
  ·cases h
 ·split at h
  ·rename_i hh
   cases h
   exact yq I hK _ _ vx vy v u 50 X.A hh.1 hh.2 (tx.read ok) (ty.read ok) rx ry (by omega) _ _ _ _ ⟨rfl,I⟩
  ·cases h
 ·cases h;exact fU zv I rx ry ⟨_,_,tx.int ok,ty.int ok,rfl,rfl⟩
 ·cases h;exact fU zw I rx ry ⟨_,_,tx.int ok,ty.int ok,rfl,rfl⟩
 ·cases h;exact fU zx I rx ry ⟨_,_,tx.int ok,ty.int ok,rfl,rfl⟩
 ·exact has false b h
 ·rw [Option.map_eq_some_iff] at h
  obtain ⟨b',h1,rfl⟩:=h
  exact has true b' h1
 ·cases h
variable {a b d : Expr} {ma mb md : M (Kd × U)} {pos : Pos}
theorem vH {op:Cop} (hP:C.P=X.prog) (hw:C.w=X.w) (hK:C.K=X.K) (hu:X.A.units+60<cLine) (ha:PE X a (tEv C ma)) (hb:PE X b (tEv C mb)) (hm:behindInMarks op.op b=false) :
  PE X (.Compare a [op.op] [b] pos) (tEv C (ma >>= fun x=>mb >>= fun y=>au [x,y] >>= fun _=>M.ofO (bh op x.2 y.2) >>= fun c=>pure (.loc,.bl c))):=by
 rintro pins s σ H Q I ⟨c0,rfl,rfl,ok,h⟩
 refine wpAny_Compare1 (two ha hb I ok h fun x y c vx vy v u s2 t I2 rx ry w=>?_) hm
 rw [ab] at w
 obtain ⟨r,e,q⟩:=bP.mp w
 rw [af] at q
 refine thn (sZ hP hw hK hu t I2 rx ry e) fun z s' ⟨e,I'⟩=>?_
 subst e
 exact ⟨.bl r,c.H,by rw [←t.hσ];exact I',rfl,q c (.bl r) t.hσ rfl t.ok t.nx rfl⟩
theorem vI {op:Cop} (hP:C.P=X.prog) (hw:C.w=X.w) (hK:C.K=X.K) (hu:X.A.units+60<cLine) (ha:PE X a (tEv C ma)) (hb:PE X b (tEv C mb)) (hm:behindInMarks op.op b=false) :
  PT X (.Compare a [op.op] [b] pos) (tTs C (ma >>= fun x=>mb >>= fun y=>au [x,y] >>= fun _=>M.ofO (bh op x.2 y.2))):=by
 rintro pins s σ H Q I ⟨c0,rfl,rfl,ok,h⟩
 refine wpAny_isTrue_Compare1 (two (f:=fun v u=>compareOp op.op v u) (Q':=fun _ _ c s=>wpAny (model X.prog X.w) X.A (truthy c) (TP X pins c0.σ Q) X.xe s) ha hb I ok h fun x y c vx vy v u s2 t I2 rx ry w=>?_) hm
 obtain ⟨r,e,q⟩:=bP.mp w
 refine thn (sZ hP hw hK hu t I2 rx ry e) fun z s' ⟨e,I'⟩=>?_
 subst e
 exact wpAny_truthy_bool ⟨c.H,by rw [←t.hσ];exact I',q c t.hσ rfl t.ok t.nx⟩
end
end TM
namespace TM
open PySem L2 PyProof.Rows
section
variable {X : Cx} {C : Ct} {pins : List (Addr × Obj)} {s : Shared} {c0 c c1 : Cf}
variable {a b d : Expr} {ma mb md : M (Kd × U)} {ta tb : M Bool} {pos : Pos} {rest : List Expr}
noncomputable def zO (C:Ct) (c0:Cf) (Q:Bool→Hp→Prop) (b:Bool) (st':ag):Prop:=∀ c,c.σ=c0.σ→c.st=st'→Ok C c→Nx c0 c→Q b c.H
theorem s9 {m:M (Kd×U)}{Q:VK} (hσ:c1.σ=c0.σ) (ok:Ok C c1) (n:Nx c0 c1) (h:W m c1.st (bW C c0 Q)):tEv C m c0.σ c1.H Q :=
 ⟨c1,hσ,rfl,ok,h.mono fun r st h2 c2 v e3 e4 ok2 n2 r2=>h2 c2 v e3 e4 ok2 (n.trans n2) (r2.from n)⟩
theorem s_ {m:M Bool}{Q:Bool→Hp→Prop} (hσ:c1.σ=c0.σ) (ok:Ok C c1) (n:Nx c0 c1) (h:W m c1.st (zO C c0 Q)):tTs C m c0.σ c1.H Q :=
 ⟨c1,hσ,rfl,ok,h.mono fun r st h2 c2 e3 e4 ok2 n2=>h2 c2 e3 e4 ok2 (n.trans n2)⟩
theorem aA {β:Type}{k:Kd×U→M β}{Post:β→ag→Prop}{Z:V→Hp→Prop} (ok:Ok C c0) (h:W (ma >>= k) c0.st Post)
  (hz:∀ x c v,At1 C c0 c x v→W (k x) c.st Post→Z v c.H):tEv C ma c0.σ c0.H Z:=by
 rw [ab] at h
 exact ⟨c0,rfl,rfl,ok,h.mono fun x st1 h1 c1 vx e1 e2 ok1 n1 r1=>hz x c1 vx ⟨e1,ok1,n1,r1⟩ (by rw [e2];exact h1)⟩
theorem d8 {β:Type}{k:Bool→M β}{Post:β→ag→Prop}{Z:Bool→Hp→Prop} (ok:Ok C c0) (h:W (ta >>= k) c0.st Post)
  (hz:∀ b c,c.σ=c0.σ→Ok C c→Nx c0 c→W (k b) c.st Post→Z b c.H):tTs C ta c0.σ c0.H Z:=by
 rw [ab] at h
 exact ⟨c0,rfl,rfl,ok,h.mono fun x st1 h1 c1 e1 e2 ok1 n1=>hz x c1 e1 ok1 n1 (by rw [e2];exact h1)⟩
noncomputable def zP (m:M (Kd×U)) (x:Kd×U):M (Kd×U):=match x.2 with
 |.bl true=>m
 |.bl false=>pure (.loc,.bl false)
 |_=>M.fail
noncomputable def orK (m:M (Kd×U)) (x:Kd×U):M (Kd×U):=match x.2 with
 |.bl true=>pure (.loc,.bl true)
 |.bl false=>m
 |_=>M.fail
noncomputable def zQ (x:Kd×U):M (Kd×U):=match x.2 with
 |.bl c=>pure (.loc,.bl !c)
 |_=>M.fail
theorem snd_and (ha:PE X a (tEv C ma)) (hb:PE X (.BoolOp .And (b::rest) pos) (tEv C mb)):PE X (.BoolOp .And (a::b::rest) pos) (tEv C (ma >>= zP mb)):=by
 refine PE.weak (xA ha hb) ?_
 rintro σ H Q ⟨c0,rfl,rfl,ok,h⟩
 refine aA ok h fun x c v t w=>?_
 obtain ⟨k,u⟩:=x
 obtain ⟨hσ,ok1,n,r⟩:=t
 unfold zP at w
 split at w
 ·rename_i e
  dsimp only at e r
  subst e
  exact ⟨true,r.bl ok1,by rw [if_pos rfl];exact s9 hσ ok1 n w⟩
 ·rename_i e
  dsimp only at e r
  subst e
  rw [af] at w
  exact ⟨false,r.bl ok1,by rw [if_neg Bool.false_ne_true];exact w c (.bl false) hσ rfl ok1 n rfl⟩
 ·exact (av.mp w).elim
theorem yw (ha:PE X a (tEv C ma)) (hb:PE X (.BoolOp .Or (b::rest) pos) (tEv C mb)):PE X (.BoolOp .Or (a::b::rest) pos) (tEv C (ma >>= orK mb)):=by
 refine PE.weak (zi ha hb) ?_
 rintro σ H Q ⟨c0,rfl,rfl,ok,h⟩
 refine aA ok h fun x c v t w=>?_
 obtain ⟨k,u⟩:=x
 obtain ⟨hσ,ok1,n,r⟩:=t
 unfold orK at w
 split at w
 ·rename_i e
  dsimp only at e r
  subst e
  rw [af] at w
  exact ⟨true,r.bl ok1,by rw [if_pos rfl];exact w c (.bl true) hσ rfl ok1 n rfl⟩
 ·rename_i e
  dsimp only at e r
  subst e
  exact ⟨false,r.bl ok1,by rw [if_neg Bool.false_ne_true];exact s9 hσ ok1 n w⟩
 ·exact (av.mp w).elim
theorem vJ (ha:PE X a (tEv C ma)):PE X (.UnaryOp .Not a pos) (tEv C (ma >>= zQ)):=by
 refine PE.weak (xB ha) ?_
 rintro σ H Q ⟨c0,rfl,rfl,ok,h⟩
 refine aA ok h fun x c v t w=>?_
 obtain ⟨k,u⟩:=x
 obtain ⟨hσ,ok1,n,r⟩:=t
 unfold zQ at w
 split at w
 ·rename_i e
  dsimp only at e r
  subst e
  rw [af] at w
  exact ⟨_,r.bl ok1,w c (.bl _) hσ rfl ok1 n rfl⟩
 ·exact (av.mp w).elim
theorem vK (ha:PT X a (tTs C ta)):PT X (.UnaryOp .Not a pos) (tTs C (ta >>= fun b=>pure !b)):=by
 refine PT.weak (xy ha) ?_
 rintro σ H Q ⟨c0,rfl,rfl,ok,h⟩
 refine d8 ok h fun p c hσ ok1 n w=>?_
 rw [af] at w
 exact w c hσ rfl ok1 n
theorem vL (ha:PT X a (tTs C ta)) (hb:PW X (.BoolOp .And (b::rest) pos) (tTs C tb)):PW X (.BoolOp .And (a::b::rest) pos) (tTs C (ta >>= fun p=>if p=true then tb else pure false)):=by
 have h0:=xx ha hb
 rintro wh pins s σ H Q I ⟨c0,rfl,rfl,ok,h⟩
 refine h0 wh pins s c0.σ c0.H Q I (d8 ok h fun p c hσ ok1 n w=>?_)
 cases p with
 |true=>rw [if_pos rfl] at w ⊢;exact s_ hσ ok1 n w
 |false=>rw [if_neg Bool.false_ne_true] at w ⊢;rw [af] at w;exact w c hσ rfl ok1 n
theorem yx (ha:PT X a (tTs C ta)) (hb:PW X (.BoolOp .Or (b::rest) pos) (tTs C tb)):PW X (.BoolOp .Or (a::b::rest) pos) (tTs C (ta >>= fun p=>if p=true then pure true else tb)):=by
 have h0:=zf ha hb
 rintro wh pins s σ H Q I ⟨c0,rfl,rfl,ok,h⟩
 refine h0 wh pins s c0.σ c0.H Q I (d8 ok h fun p c hσ ok1 n w=>?_)
 cases p with
 |true=>rw [if_pos rfl] at w ⊢;rw [af] at w;exact w c hσ rfl ok1 n
 |false=>rw [if_neg Bool.false_ne_true] at w ⊢;exact s_ hσ ok1 n w
theorem qe {α β:Type}{us:List α}{vs:List β} (h:us.length=vs.length):(!us.isEmpty)=!vs.isEmpty:=by
 cases us <;> cases vs <;> simp_all
theorem cU (ha:PE X a (tEv C ma)) (hK:C.K=X.K) (he:∀ whole,isTrue a X.env whole=(do let v ←whole;standAt a.pos;holding [v] (truthy v))):PT X a (tTs C (ma >>= fun x=>M.ofO (lu x.2))):=by
 refine PT.weak (sf ha he) ?_
 rintro σ H Q ⟨c0,rfl,rfl,ok,h⟩
 refine aA ok h fun x c v t w=>?_
 obtain ⟨k,u⟩:=x
 obtain ⟨hσ,ok1,n,r⟩:=t
 obtain ⟨p,e,q⟩:=bP.mp w
 dsimp only at e r
 refine ⟨p,?_,q c hσ rfl ok1 n⟩
 unfold lu at e
 split at e
 ·cases e
  rw [r.bl ok1]
  rfl
 ·cases e
  obtain ⟨a,vs,rfl,h1,h2⟩:=r.list ok1
  exact .inl ⟨vs,hK ▸ h1,qe h2.len⟩
 ·cases e
  obtain ⟨a,vs,rfl,h1,h2⟩:=r.tuple ok1
  rw [hK] at h1
  exact .inr (.inl ⟨vs,h1,qe h2.len⟩)
 ·split at e
  ·cases e
   rw [r.str ok1]
   exact ⟨by assumption,rfl⟩
  ·cases e
 ·cases e
end
end TM
namespace TM
open PySem L2 PyProof.Rows
section
variable {X : Cx} {C : Ct} {pins : List (Addr × Obj)} {s : Shared} {c0 c c1 : Cf}
variable {a b d e : Expr} {es : List Expr} {m ma mb md : M (Kd × U)} {ms : M (List (Kd × U))} {ta tb : M Bool} {pos p : Pos}
theorem cO.from {rs:List (Kd×U)}{vs:List V} (n:Nx c0 c1):cO C c1 c rs vs→cO C c0 c rs vs:=by
 intro h
 induction rs generalizing vs with
 |nil=>exact h
 |cons r rs ih=>obtain ⟨v,t,e,h1,h2,h3⟩:=h;exact ⟨v,t,e,h1.from n,ih h2,h3⟩
theorem cO.get {rs:List (Kd×U)}{vs:List V}{i:Nat}{r:Kd×U}{v:V} (h:cO C c0 c rs vs) (e:rs[i]?=some r) (e':vs[i]?=some v):d6 C c0 c r.1 r.2 v:=by
 induction rs generalizing vs i with
 |nil=>simp at e
 |cons r' rs ih =>
  obtain ⟨v',t,rfl,h1,h2,h3⟩:=h
  cases i with
  |zero=>simp at e e';subst e e';exact h1
  |succ i=>exact ih h2 (by simpa using e) (by simpa using e')
theorem vM:PA X [] (tEs C (pure [])):=by
 rintro pos pins s σ H Q I ⟨c0,rfl,rfl,ok,h⟩
 rw [af] at h
 exact iz pos pins s c0.σ c0.H Q I (h c0 [] rfl rfl ok (Nx.refl c0) rfl)
theorem tf (ha:PE X e (tEv C m)) (hr:PA X es (tEs C ms)) (hs:starEach (e::es) X.env=(false,eval e X.env)::starEach es X.env):PA X (e::es) (tEs C (m >>= fun r=>ms >>= fun rs=>pure (r::rs))):=by
 rintro pos pins s σ H Q I ⟨c0,rfl,rfl,ok,h⟩
 refine eF ha hr hs pos pins s c0.σ c0.H Q I (aA ok h fun r c1 v t w=>?_)
 rw [ab] at w
 refine ⟨c1,t.hσ,rfl,t.ok,w.mono fun rs st2 h2 c2 vs e3 e4 ok2 n2 r2=>?_⟩
 rw [af] at h2
 refine h2 c2 (v::vs) e3 e4 ok2 (t.nx.trans n2) ⟨v,vs,rfl,t.rx.w.on t.ok n2 (e3.trans t.hσ.symm),r2.from t.nx,fun hk i r' v' e5 e6 hk'=>?_⟩
 exact lz t.rx.w (r2.get e5 e6) hk hk'
structure Ats (C:Ct) (c0 c:Cf) (rs:List (Kd×U)) (vs:List V):Prop where
 hσ:c.σ=c0.σ
 ok:Ok C c
 nx:Nx c0 c
 rep:cO C c0 c rs vs
 stb:bj rs c.st
theorem args {β:Type}{k:List (Kd×U)→M β}{Post:β→ag→Prop} (ha:PA X es (tEs C ms)) (I:Inv X pins c0.σ c0.H s) (ok:Ok C c0) (h:W (ms >>= fun rs=>au rs >>= fun _=>k rs) c0.st Post) (pos:Pos) :
  wpAny (model X.prog X.w) X.A (spliced (backTo pos (starEach es X.env))) (fun us s1=>∃ rs c vs,Ats C c0 c rs vs∧Inv X pins c.σ c.H s1∧Vals vs us∧W (k rs) c.st Post) X.xe s:=by
 rw [ab] at h
 refine thn (ha pos pins s c0.σ c0.H (fun vs H1=>∃ rs c,c.H=H1∧Ats C c0 c rs vs∧W (k rs) c.st Post) I ⟨c0,rfl,rfl,ok,h.mono fun rs st1 h1 c1 vs e1 e2 ok1 n1 r1=>?_⟩) ?_
 ·rw [ab,bR] at h1
  subst e2
  exact ⟨rs,c1,rfl,⟨e1,ok1,n1,r1,h1.1⟩,h1.2⟩
 ·rintro us s1 ⟨vs,H1,I1,rv,rs,c1,rfl,t,w⟩
  exact ⟨rs,c1,vs,t,by rw [t.hσ];exact I1,rv,w⟩
theorem Ats.one {r:Kd×U}{vs:List V} (t:Ats C c0 c [r] vs):∃ v,vs=[v]∧aB C c0 c r.1 r.2 v:=by
 obtain ⟨v,t',rfl,h1,h2,_⟩:=t.rep
 cases h2
 exact ⟨v,rfl,h1.t t.stb⟩
theorem Ok.share (ok:Ok C c) {r:Addr}{st':ag} (h0:C.H₀ r=none) (hH:∃ o,c.H r=some o) (hl:st'.length=c.st.length)
  (hst:∀ (i:Nat) k u,st'[i]?=some (some (k,u))→(∃ v,c.σ[i]?=some (some v)∧d5 C (fun a=>c.S a∨a=r) c.H k u v)∧(k.root=true→c.st[i]?=some (some (k,u)))) (hdd:DOk C { c with S:=fun a=>c.S a∨a=r,st:=st' }) :
  Ok C { c with S:=fun a=>c.S a∨a=r,st:=st' }:=by
 refine ⟨ok.same,fun a z=>?_,ok.par,ok.io,by rw [show ({ c with S:=fun a=>c.S a∨a=r,st:=st' }:Cf).st.length=st'.length from rfl,hl];exact ok.len,fun i k u e=>(hst i k u e).1,fun i j k k' u u' r' hk hk' e1 e2 e3 e4=>?_,hdd⟩
 ·rcases z with z|rfl
  ·exact ok.sfr a z
  ·exact ⟨h0,hH⟩
 ·exact ok.inj i j k k' u u' r' hk hk' ((hst i k u e1).2 hk) ((hst j k' u' e2).2 hk') e3 e4
theorem Ok.yy (ok0:Ok C c0) (ok:Ok C c) (n:Nx c0 c) {r:Addr} (h0:c0.H r=none) (hR:¬ c.R r) {u:U} (hr:cM C c.S c.H r u) :
  Ok C { c with S:=fun a=>c.S a∨a=r }∧Nx c0 { c with S:=fun a=>c.S a∨a=r }:=by
 obtain ⟨o,ho,_⟩:=hr.some
 refine ⟨ok.share (st':=c.st) (ok0.jE h0).1 ⟨o,ho⟩ rfl (fun i k u e=>⟨?_,fun _=>e⟩) (ok.dd.hs (.up fun a=>.inl) fun j a z=>⟨fun q=>q.elim (ok.root (.inr ⟨j,z⟩)).1 fun e=>hR (.inr ⟨j,e ▸ z⟩),fun o q=>q⟩),⟨⟨n.keep,n.there,n.roots,fun a z=>.inl (n.sub a z),fun a z=>?_⟩,n.all⟩⟩
 ·obtain ⟨v,e1,e2⟩:=ok.sl i k u e
  have mup:Mv c.S c.H (fun a=>c.S a∨a=r) c.H:=.up fun a=>.inl
  refine ⟨v,e1,e2.mv mup (.up fun a z=>z.imp id .inl) fun hk r' er=>⟨?_,fun o q=>q⟩⟩
  obtain ⟨r'',er',q1,_⟩:=e2.rt hk
  rw [er] at er'
  cases er'
  rintro (z|rfl)
  ·exact q1 z
  ·exact hR (.inl ⟨i,k,u,hk,e,by rw [e1,er]⟩)
 ·rcases z with z|rfl
  ·exact n.new a z
  ·exact .inr (.inr h0)
theorem Ok.tm (ok:Ok C c) (n:Nx c0 c) {j:Nat}{u:U}{r:Addr} (hj:c.st[j]?=some (some (.own,u))) (hv:c.σ[j]?=some (some (.ref r))) :
  Ok C { c with S:=fun a=>c.S a∨a=r,st:=c.st.set j (some (.loc,u)) }∧Nx c0 { c with S:=fun a=>c.S a∨a=r,st:=c.st.set j (some (.loc,u)) }∧Rep C (fun a=>c.S a∨a=r) c.H u (.ref r):=by
 obtain ⟨v',e1,r',er,q1,q2,q3,q4⟩:=ok.sl j _ _ hj
 rw [hv] at e1
 cases e1
 cases er
 have hrep:Rep C (fun a=>c.S a∨a=r) c.H u (.ref r):=q4.rep (fun a=>.inl) (.inr rfl)
 obtain ⟨o,ho,_⟩:=q4.some
 have hjl:j<c.st.length:=(List.getElem?_eq_some_iff.mp hj).1
 have oth:∀ (i:Nat) k u',(c.st.set j (some (.loc,u)))[i]?=some (some (k,u'))→i≠j→c.st[i]?=some (some (k,u')):=fun i k u' e ne=>by rw [List.getElem?_set_ne (Ne.symm ne)] at e;exact e
 have hR1:c.R1 r:=⟨j,.own,u,rfl,hj,hv⟩
 have dD:∀ (i:Nat) (u':U),(c.st.set j (some (.loc,u)))[i]?=some (some (.ownD,u'))→c.st[i]?=some (some (.ownD,u')):=fun i u' e=>by
  by_cases hij:i=j
  ·subst hij
   rw [List.getElem?_set_self hjl] at e
   cases e
  ·exact oth i .ownD u' e hij
 have b1:∀ a,({ c with S:=fun a=>c.S a∨a=r,st:=c.st.set j (some (.loc,u)) }:Cf).R1 a→c.R1 a:=fun a hIx=>by
  obtain ⟨i,k,u',hk,e,e'⟩:=hIx
  by_cases hij:i=j
  ·subst hij
   rw [List.getElem?_set_self hjl] at e
   cases e
   cases hk
  ·exact ⟨i,k,u',hk,oth i k u' e hij,e'⟩
 have hdd:DOk C { c with S:=fun a=>c.S a∨a=r,st:=c.st.set j (some (.loc,u)) }:=ok.dd.of rfl (fun i u' e=>⟨dD i u' e,rfl⟩) (fun a z=>.inl (b1 a z)) (.up fun a=>.inl) fun i a z=>⟨fun q=>q.elim (ok.root (.inr ⟨i,z⟩)).1 fun e=>ok.dd.d1 i a z (e ▸ hR1),fun o q=>q⟩
 refine ⟨ok.share (st':=c.st.set j (some (.loc,u))) q3 ⟨o,ho⟩ (by simp) (fun i k u' e=>?_) hdd,⟨⟨n.keep,n.there,fun a z=>?_,fun a z=>.inl (n.sub a z),fun a z=>?_⟩,n.all⟩,hrep⟩
 ·by_cases hij:i=j
  ·subst hij
   rw [List.getElem?_set_self hjl] at e
   cases e
   exact ⟨⟨.ref r,hv,hrep⟩,fun z=>nomatch z⟩
  ·have e0:=oth i k u' e hij
   obtain ⟨v,e1,e2⟩:=ok.sl i k u' e0
   refine ⟨⟨v,e1,e2.mv (.up fun a=>.inl) (.up fun a z=>z.imp id .inl) fun hk r' er=>⟨?_,fun o q=>q⟩⟩,fun _=>e0⟩
   obtain ⟨r'',er',p1,_⟩:=e2.rt hk
   rw [er] at er'
   cases er'
   rintro (z|rfl)
   ·exact p1 z
   ·exact hij (ok.inj i j k .own u' u r' hk rfl e0 hj (by rw [e1,er]) hv)
 ·rcases z with z|⟨i,u',r',e1,e2,e3⟩
  ·exact n.roots a (.inl (b1 a z))
  ·exact n.roots a (.inr ⟨i,u',r',dD i u' e1,e2,e3⟩)
 ·rcases z with z|rfl
  ·exact n.new a z
  ·rcases n.roots a (.inl ⟨j,.own,u,rfl,hj,hv⟩) with z|z
   ·exact .inr (.inl z)
   ·exact .inr (.inr z)
theorem fV {r:Kd×U}{v:V}{Post:U→ag→Prop} (ok0:Ok C c0) (ok:Ok C c) (n:Nx c0 c) (hr:d6 C c0 c r.1 r.2 v) (h:W (lift r) c.st Post) :
  ∃ (S':Addr→Prop) (st':ag) (u:U),(∀ a,c.S a→S' a)∧Ok C { c with S:=S',st:=st' }∧Nx c0 { c with S:=S',st:=st' }∧Rep C S' c.H u v∧Post u st' ∧
   (∀ a,S' a→c.S a∨v=.ref a∧(r.1=.own∨c.R a))∧∀ a,({ c with S:=S',st:=st' }:Cf).R a→c.R a:=by
 obtain ⟨k,u⟩:=r
 cases k with
 |own =>
  rw [show lift (.own,u)=pure u from rfl,af] at h
  obtain ⟨r,e,h1,h2,h3,h4⟩:=hr
  obtain ⟨ok',n'⟩:=Ok.yy ok0 ok n h1 h3 h4
  refine ⟨_,c.st,u,fun a=>.inl,ok',n',by rw [e];exact h4.rep (fun a=>.inl) (.inr rfl),h,fun a z=>?_,fun a z=>z⟩
  rcases z with z|rfl
  ·exact .inl z
  ·exact .inr ⟨e,.inl rfl⟩
 |loc =>
  rw [show lift (.loc,u)=pure u from rfl,af] at h
  exact ⟨c.S,c.st,u,fun a=>id,ok,n,hr,h,fun a z=>.inl z,fun a z=>z⟩
 |any =>
  rw [show lift (.any,u)=if imm u=true then pure u else M.fail from rfl] at h
  split at h
  ·rw [af] at h
   exact ⟨c.S,c.st,u,fun a=>id,ok,n,Rep.imm (by assumption) hr,h,fun a z=>.inl z,fun a z=>z⟩
  ·exact (av.mp h).elim
 |io=>exact hr.elim
 |ownD=>exact hr.elim
 |bor j =>
  obtain ⟨x,st',e,hp⟩:=h
  rw [show lift (.bor j,u) c.st=match c.st[j]? with|some (some (.own,u))=>some (Ex.ok u,c.st.set j (some (.loc,u)))|_=>none from rfl] at e
  split at e
  ·rename_i w hj
   cases e
   obtain ⟨v',e1,r,er,_⟩:=ok.sl j _ _ hj
   have hv:c.σ[j]?=some (some v):=hr
   rw [hv] at e1
   cases e1
   subst er
   obtain ⟨ok',n',rep⟩:=ok.tm n hj hv
   refine ⟨_,_,_,fun a=>.inl,ok',n',rep,hp,fun a z=>?_,fun a z=>?_⟩
   ·rcases z with z|rfl
    ·exact .inl z
    ·exact .inr ⟨rfl,.inr (.inl ⟨j,.own,_,rfl,hj,hv⟩)⟩
   ·rcases z with ⟨i,k,u',hk,e,e'⟩|⟨i,u',r',e,e',e''⟩
    rotate_left 1
    ·by_cases hij:i=j
     ·subst hij
      have hjl:i<c.st.length:=(List.getElem?_eq_some_iff.mp hj).1
      rw [List.getElem?_set_self hjl] at e
      cases e
     ·rw [List.getElem?_set_ne (Ne.symm hij)] at e
      exact .inr ⟨i,u',r',e,e',e''⟩
    by_cases hij:i=j
    ·subst hij
     have hjl:i<c.st.length:=(List.getElem?_eq_some_iff.mp hj).1
     rw [List.getElem?_set_self hjl] at e
     cases e
     cases hk
    ·rw [List.getElem?_set_ne (Ne.symm hij)] at e
     exact .inl ⟨i,k,u',hk,e,e'⟩
  ·cases e
theorem fW:∀ {rs:List (Kd×U)}{vs:List V}{c:Cf}{Post:List U→ag→Prop},Ok C c0→Ok C c→Nx c0 c→cO C c0 c rs vs→W (cv rs) c.st Post →
  ∃ (S':Addr→Prop) (st':ag) (us:List U),(∀ a,c.S a→S' a)∧Ok C { c with S:=S',st:=st' }∧Nx c0 { c with S:=S',st:=st' }∧ah C S' c.H us vs∧Post us st'
 |[],vs,c,Post,ok0,ok,n,hr,h=>by
  rw [show cv []=pure [] from rfl,af] at h
  exact ⟨c.S,c.st,[],fun a=>id,ok,n,hr,h⟩
 |r::rs,vs,c,Post,ok0,ok,n,hr,h=>by
  obtain ⟨v,t,rfl,h1,h2,h3⟩:=hr
  rw [show cv (r::rs)=lift r >>= fun u=>cv rs >>= fun us=>pure (u::us) from rfl,ab] at h
  obtain ⟨S1,st1,u,s1,ok1,n1,rep1,h4,hS1,hR1⟩:=fV ok0 ok n h1 h
  rw [ab] at h4
  have hr2:cO C c0 { c with S:=S1,st:=st1 } rs t:=by
   clear h h4
   have aux:∀ (l:List (Kd×U)) (w:List V),cO C c0 c l w→(r.1=.own→∀ (i:Nat) r' v',l[i]?=some r'→w[i]?=some v'→r'.1=.own→v'≠v)→cO C c0 { c with S:=S1,st:=st1 } l w:=by
    intro l
    induction l with
    |nil=>intro w q _;exact q
    |cons r2 l ih =>
     intro w q hne
     obtain ⟨v2,t2,rfl,q1,q2,q3⟩:=q
     refine ⟨v2,t2,rfl,?_,ih t2 q2 (fun hk i r' v' e1 e2 hk'=>hne hk (i+1) r' v' (by simpa using e1) (by simpa using e2) hk'),q3⟩
     obtain ⟨k2,u2⟩:=r2
     cases k2 with
     |own =>
      obtain ⟨a,e,p1,p2,p3,p4⟩:=q1
      refine ⟨a,e,p1,fun z=>?_,fun z=>p3 (hR1 a z),p4.mv (.up s1) fun o q=>q⟩
      rcases hS1 a z with z|⟨z,z'|z'⟩
      ·exact p2 z
      ·exact hne z' 0 _ v2 rfl rfl rfl (e.trans z.symm)
      ·exact p3 z'
     |loc=>exact Rep.mv (.up s1) q1
     |any=>exact Rep.mv (.up fun a z=>z.imp id (s1 a)) q1
     |bor j=>exact q1
     |io=>exact q1
     |ownD=>exact q1
   exact aux rs t h2 h3
  obtain ⟨S2,st2,us,s2,ok2,n2,rep2,h5⟩:=fW (c:={ c with S:=S1,st:=st1 }) ok0 ok1 n1 hr2 h4
  rw [af] at h5
  exact ⟨S2,st2,u::us,fun a z=>s2 a (s1 a z),ok2,n2,⟨v,t,rfl,rep1.mv (.up s2),rep2⟩,h5⟩
theorem vN {x1:Nat} (ha:PA X es (tEs C ms)):PE X (.Tuple es x1 pos) (tEv C (ms >>= fun rs=>au rs >>= fun _=>cv rs >>= fun us=>if us.length≤sizeLine then pure (.loc,.tup us) else M.fail)):=by
 rintro pins s σ H Q I ⟨c0,rfl,rfl,ok,h⟩
 refine wpAny_Tuple_spliced (thn (args ha I ok h pos) fun us s1 ⟨rs,c,vs,t,I1,rv,w⟩=>?_)
 rw [ab] at w
 obtain ⟨S',st',ws,s1',ok1,n1,rep,w1⟩:=fW ok t.ok t.nx t.rep w
 split at w1
 ·rename_i hz
  rw [af] at w1
  have hl:vs.length≤sizeLine:=by rw [←rep.len];exact hz
  refine ⟨by rw [←rv.length];exact hl,?_⟩
  have hf:c.H s1.heap.objs.size=none:=I1.hok.fresh (Nat.le_refl _)
  have I2:Inv X pins c0.σ c.H s1:=by rw [←t.hσ];exact I1
  refine ⟨.ref s1.heap.objs.size,upd c.H s1.heap.objs.size (.tup vs),I2.laid (t':=s1.toks) (fun b u e=>Heap.get?_push_of_some _ e) (Nat.le_refl _) ⟨hl,us,rv,IsTup.new _ _⟩,rfl,?_⟩
  exact bW.tup (c:={ c with S:=S',st:=st' }) w1 t.hσ ok1 n1 rep _ hf
 ·exact (av.mp w1).elim
theorem vO (ha:PA X es (tEs C ms)):PE X (.List es pos) (tEv C (ms >>= fun rs=>au rs >>= fun _=>cv rs >>= fun us=>if us.length≤sizeLine then pure (.own,.lst us) else M.fail)):=by
 rintro pins s σ H Q I ⟨c0,rfl,rfl,ok,h⟩
 refine wpAny_List_spliced (thn (args ha I ok h pos) fun us s1 ⟨rs,c,vs,t,I1,rv,w⟩=>?_)
 rw [ab] at w
 obtain ⟨S',st',ws,s1',ok1,n1,rep,w1⟩:=fW ok t.ok t.nx t.rep w
 split at w1
 ·rename_i hz
  rw [af] at w1
  have hl:vs.length≤sizeLine:=by rw [←rep.len];exact hz
  refine ⟨by rw [←rv.length];exact hl,?_⟩
  have hf:c.H s1.heap.objs.size=none:=I1.hok.fresh (Nat.le_refl _)
  have I2:Inv X pins c0.σ c.H s1:=by rw [←t.hσ];exact I1
  refine ⟨.ref s1.heap.objs.size,upd c.H s1.heap.objs.size (.lst vs),I2.laid (t':=s1.toks) (fun b u e=>Heap.get?_push_of_some _ e) (Nat.le_refl _) ⟨hl,us,0,rv,Heap.get?_push_size _ rfl⟩,rfl,?_⟩
  exact bW.list (c:={ c with S:=S',st:=st' }) w1 t.hσ ok1 n1 rep _ hf
 ·exact (av.mp w1).elim
end
end TM
namespace TM
open PySem L2 PyProof.Rows
section
variable {X : Cx} {C : Ct} {pins : List (Addr × Obj)} {s : Shared} {c0 c c1 : Cf}
variable {a b d e : Expr} {es : List Expr} {m ma mb md : M (Kd × U)} {ms : M (List (Kd × U))} {ta tb : M Bool} {pos p : Pos}
theorem lA {i:Nat}{x:Str} (hN:X.N[i]?=some x) (hv:Vis X.env.scope x) (hd:(x==("__debug__":Str))=false) (hcd:(x==("__classdict__":Str))=false):PE X (.Name x pos) (tEv C (cT i)):=by
 refine PE.weak (bT hN hv hd hcd) ?_
 rintro σ H Q ⟨c0,rfl,rfl,ok,r,st',e,h⟩
 unfold cT at e
 split at e
 ·cases e
 ·rename_i k u hnD hs
  cases e
  obtain ⟨v,e1,e2⟩:=ok.sl i k u hs
  refine ⟨v,e1,h c0 v rfl rfl ok (Nx.refl c0) ?_⟩
  by_cases hk:k.root=true
  ·rw [if_pos hk];exact ⟨⟨k,hk,hs⟩,e1⟩
  ·rw [if_neg hk]
   cases k with
   |own=>exact absurd rfl hk
   |io=>exact absurd rfl hk
   |loc=>exact e2
   |any=>exact e2
   |bor j=>exact e2.elim
   |ownD=>exact (hnD rfl).elim
 ·cases e
theorem fX {u:U}{v:V} (h:PE X e (tC v)) (r:∀ S H,Rep C S H u v):PE X e (tEv C (pure (.loc,u))):=by
 refine PE.weak h ?_
 rintro σ H Q ⟨c0,rfl,rfl,ok,h⟩
 rw [af] at h
 exact h c0 v rfl rfl ok (Nx.refl c0) (r _ _)
theorem bW.root {u:U}{o:HO}{Q:VK} (h:bW C c0 Q (.own,u) c.st) (hσ:c.σ=c0.σ) (ok:Ok C c) (n:Nx c0 c) (p:Addr) (hp:c.H p=none) (r:cM C c.S (upd c.H p o) p u):Q (.ref p) (upd c.H p o):=by
 obtain ⟨ok',n'⟩:=ok.lay (o:=o) hp
 obtain ⟨h0,h1,h2,h3,h4⟩:=ok.jE hp
 exact h { c with H:=upd c.H p o } _ hσ rfl ok' (n.trans n') ⟨p,rfl,n.none hp,h1,h4,r⟩
theorem tp (hP:C.P=X.prog) (hw:C.w=X.w) (r:Bool):PE X (.Dict [] [] pos) (tEv C (pure (.own,if r=true then .rdc [] else .dic [] []))):=by
 cases r with
 |false =>
  refine PE.weak mK ?_
  rintro σ H Q ⟨c0,rfl,rfl,ok,h⟩ p hp
  rw [af,if_neg Bool.false_ne_true] at h
  exact bW.root h rfl ok (Nx.refl c0) p hp ⟨[],aq,rfl,rfl⟩
 |true =>
  refine PE.weak vi ?_
  rintro σ H Q ⟨c0,rfl,rfl,ok,h⟩ p hp
  rw [af,if_pos rfl] at h
  refine bW.root h rfl ok (Nx.refl c0) p hp ⟨[],?_,rfl,fun x hx=>by cases hx⟩
  rw [hP,hw]
  exact aq
theorem ah.atI {S:Addr→Prop}{H:Hp}{us:List U}{vs:List V}{i:Int}{u:U} (h:ah C S H us vs) (e:atI us i=some u):∃ v,L2.atI vs i=some v∧Rep C S H u v:=by
 unfold L2.atI at e ⊢
 rw [h.len] at e
 cases q:ixN vs.length i with
 |none=>rw [q] at e;cases e
 |some j =>
  rw [q] at e
  exact h.get e
theorem yz {x y r:Kd×U}{vx vy:V}{v u:Value}{Q:VK} (hK:C.K=X.K) (hu:X.A.units+60<cLine) (hs:kN b) (t:At2 C c0 c x y vx vy) (I:Inv X pins c.σ c.H s) (rx:RelV vx v) (ry:RelV vy u) (h:fR x y.2=some r) (q:bW C c0 Q r c.st) :
  wpAny (model X.prog X.w) X.A (subscriptTail a b v u) (EP X pins c.σ Q) X.xe s:=by
 obtain ⟨hσ,ok,n,tx,ty,-⟩:=t
 obtain ⟨ky,uy⟩:=y
 dsimp only at h ty
 unfold fR at h
 split at h
 ·rename_i k xs i
  rw [Option.map_eq_some_iff] at h
  obtain ⟨w,e,rfl⟩:=h
  obtain ⟨a',vs,ex,h1,h2⟩:=tx.list ok
  obtain ⟨vw,e1,e2⟩:=h2.atI e
  exact u5 a b pins s c.σ c.H vx vy v u Q I rx ry ⟨a',vs,i,vw,ex,ty.int ok,hK ▸ h1,e1,q c vw hσ rfl ok n (aB.item e2)⟩ (hs _ _)
 ·rename_i k xs i
  rw [Option.map_eq_some_iff] at h
  obtain ⟨w,e,rfl⟩:=h
  obtain ⟨a',vs,ex,h1,h2⟩:=tx.tuple ok
  obtain ⟨vw,e1,e2⟩:=h2.atI e
  rw [hK] at h1
  exact kO a b pins s c.σ c.H vx vy v u Q I rx ry ⟨a',vs,i,vw,ex,ty.int ok,h1,e1,q c vw hσ rfl ok n (aB.item e2)⟩ (hs _ _)
 ·split at h
  ·rw [Option.map_eq_some_iff] at h
   obtain ⟨w,e,rfl⟩:=h
   exact iB a b pins s c.σ c.H vx vy v u Q I rx ry ⟨_,_,w,tx.str ok,ty.int ok,by assumption,e,q c _ hσ rfl ok n rfl⟩ (hs _ _)
  ·cases h
 ·cases h
theorem qf (hK:C.K=X.K) (hu:X.A.units+60<cLine) (hs:kN b) (ha:PE X a (tEv C ma)) (hb:PE X b (tEv C mb)):PE X (.Subscript a b pos) (tEv C (ma >>= fun x=>mb >>= fun y=>au [x,y] >>= fun _=>M.ofO (fR x y.2))):=by
 rintro pins s σ H Q I ⟨c0,rfl,rfl,ok,h⟩
 refine Subscript_ (two ha hb I ok h fun x y c vx vy v u s2 t I2 rx ry w=>?_)
 obtain ⟨r,e,q⟩:=bP.mp w
 exact thn (yz hK hu hs t I2 rx ry e q) fun _ _ z=>by rw [t.hσ] at z;exact z
theorem ah.cut {S:Addr→Prop}{H:Hp}{us:List U}{vs:List V} (h:ah C S H us vs) (lo hi:Option Int):ah C S H (TM.cut us lo hi) (mH vs lo hi):=by
 unfold TM.cut mH
 rw [h.len]
 exact (h.drop _).take _
theorem rj {α:Type}{xs:List α}{lo hi:Option Int} (h:HT.sIx xs.length 0 lo=0∧HT.sIx xs.length xs.length hi=xs.length):cut xs lo hi=xs:=by
 unfold cut
 rw [h.1,h.2]
 simp
end
end TM
namespace TM
open PySem L2 PyProof.Rows
section
variable {prog : Program} {w : World} {A : Around} {E : Value → Shared → Prop} {s : Shared}
theorem eQ {t sl:Addr}{items:Array Value}{vl vu:Value}{lo hi:Option Int}{Q:Value→Shared→Prop} (ht:IsTup s.heap t items) (hs:s.heap.IsSliceOf sl vl vu .none) (pl:IsPart vl lo) (pu:IsPart vu hi)
  (hw:HT.sIx items.size 0 lo=0∧HT.sIx items.size items.size hi=items.size) (h:Q (.ref t) s):wpAny (model prog w) A (getItem (.ref t) (.ref sl)) Q E s:=by
 obtain ⟨os,hos,hcs,hds⟩:=id hs
 have hTs:s.TypeIs (.ref sl) "slice":=⟨os,hos,hcs⟩
 unfold getItem
 try with_reducible refine wpAny_holding ?_
 first|refine wpAny_bind (wpAny_pure ?_)|skip
 refine wpAny_bind (wpAny_sequenceKey ht.typeIs (by decide) ?_)
 refine wpAny_bind (wpAny_callSpecial?_slot (name:=Str.ofString "__getitem__") ht.typeIs PyProof.Rows.slot_tuple_getitem
  (wpAny_call_entry PyProof.Rows.slot_tuple_getitem ht.typeIs entry_tuple_getitem ?_ (args_tuple_getitem _ _)))
 show wpAny _ _ (Builtin.Tuple.tupleItemsOf (.ref t) >>= _) _ _ s
 refine wpAny_bind (tupleItemsOf_ ht ?_)
 refine wpAny_bind (wpAny_typeOf hTs ?_)
 rw [if_pos (by decide)]
 refine wpAny_bind (HT.dc hs pl pu ?_)
 have hyes:(((HT.sIx items.size 0 lo:Nat):Int)==0&&(1:Int)==1&&(HT.sIx items.size items.size hi - HT.sIx items.size 0 lo)==items.size)=true:=by
  rw [hw.1,hw.2]
  simp
 show wpAny _ _ (if (((HT.sIx items.size 0 lo:Nat):Int)==0&&(1:Int)==1&&(HT.sIx items.size items.size hi - HT.sIx items.size 0 lo)==items.size)=true then _ else _) _ _ s
 rw [if_pos hyes]
 show wpAny (model prog w) A.in1 ((typeOf (Value.ref t) >>= fun x=>pure (x==.type "tuple")) >>= _) _ _ s
 refine wpAny_bind (wpAny_bind (wpAny_typeOf ht.typeIs (wpAny_pure ?_)))
 rw [if_pos (by decide)]
 exact wpAny_bind (wpAny_rule (wpAny_pure ⟨_,rfl,wpAny_pure h⟩))
end
section
variable {X : Cx} {C : Ct} {pins : List (Addr × Obj)} {s : Shared} {c0 c c1 : Cf}
variable {a b d e : Expr} {es : List Expr} {m ma mb md : M (Kd × U)} {ms : M (List (Kd × U))} {ta tb : M Bool} {pos p p2 : Pos}
theorem vP:SlR X (fun x lo hi H Q=>∃ a xs,x=.ref a∧SqT X.K H a xs∧(HT.sIx xs.length 0 lo=0∧HT.sIx xs.length xs.length hi=xs.length)∧Q (.ref a) H):=by
 intro pins s σ H x v vl vu lo hi sl Q I rx hs pl pu h
 obtain ⟨a,xs,rfl,hx,hw,q⟩:=h
 cases rx
 obtain ⟨its,r,ht,hz⟩:=I.tuple hx
 have hlen:its.toArray.size=xs.length:=by rw [List.size_toArray];exact r.length.symm
 exact ⟨"tuple",_,PyProof.Rows.slot_tuple_getitem.lookup,ht.typeIs,eQ ht hs pl pu (by rw [hlen];exact hw) ⟨.ref a,H,I,rfl,q⟩⟩
noncomputable def tO (C:Ct) (m:M (Option Int)):TO:=fun σ H Q=>∃ c0:Cf,c0.σ=σ∧c0.H=H∧Ok C c0∧W m c0.st fun i st'=>∀ c,c.σ=σ→c.st=st'→Ok C c→Nx c0 c→Q i c.H
theorem rl:PO X none (tO C (pure none)):=by
 rintro pins s σ H Q I ⟨c0,rfl,rfl,ok,h⟩
 rw [af] at h
 exact u3 pins s c0.σ c0.H Q I (h c0 rfl rfl ok (Nx.refl c0))
theorem rm (ha:PE X a (tEv C ma)):PO X (some a) (tO C (ma >>= yo)):=by
 rintro pins s σ H Q I ⟨c0,rfl,rfl,ok,h⟩
 refine u4 ha pins s c0.σ c0.H Q I (aA ok h fun x c v t w=>?_)
 obtain ⟨k,u⟩:=x
 unfold yo at w
 split at w
 ·rename_i i e
  dsimp only at e
  subst e
  rw [af] at w
  exact ⟨i,t.rx.int t.ok,w c t.hσ rfl t.ok t.nx⟩
 ·exact (av.mp w).elim
theorem yA {x r:Kd×U}{vx:V}{lo hi:Option Int}{Q:VK} (hK:C.K=X.K) (hσ:c.σ=c0.σ) (ok:Ok C c) (n:Nx c0 c) (tx:aB C c0 c x.1 x.2 vx) (h:oO x lo hi=some r) (q:bW C c0 Q r c.st) :
  ((zF X.K vx lo hi c.H Q∨zD X.K vx lo hi c.H Q)∨(∃ a xs,vx=.ref a∧SqT X.K c.H a xs∧(HT.sIx xs.length 0 lo=0∧HT.sIx xs.length xs.length hi=xs.length)∧Q (.ref a) c.H))∨zK vx lo hi c.H Q:=by
 unfold oO at h
 split at h
 ·split at h
  ·rename_i hh
   cases h
   obtain ⟨a',vs,ex,h1,h2⟩:=tx.list ok
   exact .inl (.inl (.inl ⟨a',vs,ex,hK ▸ h1,fun p hp=>q.list hσ ok n ((d7 hh h2).cut lo hi) p hp⟩))
  ·cases h
 ·cases h
  obtain ⟨a',vs,ex,h1,h2⟩:=tx.tuple ok
  have h1':=h1
  rw [hK] at h1'
  by_cases hw:HT.sIx vs.length 0 lo=0∧HT.sIx vs.length vs.length hi=vs.length
  ·refine .inl (.inr ⟨a',vs,ex,h1',hw,?_⟩)
   refine q c (.ref a') hσ rfl ok n (aB.item ⟨a',vs,rfl,h1,?_⟩)
   rw [rj (by rw [h2.len];exact hw)]
   exact h2
  ·exact .inl (.inl (.inr ⟨a',vs,ex,h1',hw,fun p hp=>q.tupK hσ ok n (h2.cut lo hi) p hp⟩))
 ·split at h
  ·cases h
   exact .inr ⟨_,tx.str ok,by assumption,q.flat hσ ok n rfl⟩
  ·cases h
 ·cases h
theorem vQ {lo hi:Option Expr}{ml mh:M (Option Int)} (hK:C.K=X.K) (ha:PE X a (tEv C ma)) (hl:PO X lo (tO C ml)) (hh:PO X hi (tO C mh)) :
  PE X (.Subscript a (.Slice lo hi none p2) pos) (tEv C (ma >>= fun x=>ml >>= fun l=>mh >>= fun h=>au [x] >>= fun _=>M.ofO (oO x l h))):=by
 refine PE.weak (si (((SlR.or u6 xR).or vP).or yb) ha hl hh) ?_
 rintro σ H Q ⟨c0,rfl,rfl,ok,h⟩
 refine aA ok h fun x c v t w=>?_
 rw [ab] at w
 refine ⟨c,t.hσ,rfl,t.ok,w.mono fun l st2 h2 c2 e1 e2 ok2 n2=>?_⟩
 subst e2
 rw [ab] at h2
 refine ⟨c2,e1,rfl,ok2,h2.mono fun l' st3 h3 c3 e3 e4 ok3 n3=>?_⟩
 subst e4
 rw [ab,bR] at h3
 obtain ⟨r,e,q⟩:=bP.mp h3.2
 have n13:Nx c c3:=n2.trans n3
 exact yA hK e3 ok3 (t.nx.trans n13) ((t.rx.w.on t.ok n13 (e3.trans t.hσ.symm)).t h3.1) e q
end
end TM
namespace TM
open PySem L2 PyProof.Rows
section
variable {X : Cx} {C : Ct} {pins : List (Addr × Obj)} {s : Shared} {c0 c c1 : Cf}
variable {a b d e : Expr} {es : List Expr} {m ma mb md : M (Kd × U)} {ms : M (List (Kd × U))} {ta tb : M Bool} {pos p p2 : Pos}
noncomputable def Bf.val:Bf→Value
 |.len=>.builtin "len"|.sorted=>.builtin "sorted"|.repr=>.builtin "repr"|.max=>.builtin "max"|.min=>.builtin "min"|.all=>.builtin "all"|.any=>.builtin "any"
 |.list=>.type "list"|.tuple=>.type "tuple"|.str=>.type "str"|.int=>.type "int"
noncomputable def Bf.name:Bf→Str
 |.len=>"len"|.sorted=>"sorted"|.repr=>"repr"|.max=>"max"|.min=>"min"|.all=>"all"|.any=>"any"
 |.list=>"list"|.tuple=>"tuple"|.str=>"str"|.int=>"int"
theorem call_of {f:Value}{r:List V→Hp→VK→Prop} (hc:iu X f r) {vs:List V}{us:List Value}{Q:VK} (I:Inv X pins c.σ c.H s) (rv:Vals vs us) (h:r vs c.H Q):wpAny (model X.prog X.w) X.A (call f us) (EP X pins c.σ Q) X.xe s:=hc pins s c.σ c.H vs us Q I rv h
theorem bJ {β:Type}{f:Kd×U→Option β}{rs:List (Kd×U)}{r:β} (h:gw f rs=some r):∃ x,rs=[x]∧f x=some r:=by
 unfold gw at h
 split at h
 ·exact ⟨_,rfl,h⟩
 ·cases h
theorem wX {f:Bf}{rs:List (Kd×U)}{r:Kd×U}{vs:List V}{us:List Value}{Q:VK} (hc:X.calm=true) (hK:C.K=X.K) (hgd:X.A.guards=some []) (hun:X.A.units+60<cLine) (t:Ats C c0 c rs vs) (I:Inv X pins c.σ c.H s) (rv:Vals vs us) (h:biU f rs=some r) (q:bW C c0 Q r c.st) :
  wpAny (model X.prog X.w) X.A (call f.val us) (EP X pins c.σ Q) X.xe s:=by
 have hσ:=t.hσ
 have ok:=t.ok
 have n:=t.nx
 cases f with
 |len =>
  obtain ⟨x,rfl,hz⟩:=bJ (f:=fun x=>(yj x.2).map fun (n:Nat)=>(Kd.loc,U.int (n:Int))) h
  clear h
  have h:=hz
  clear hz
  rw [Option.map_eq_some_iff] at h
  obtain ⟨k,e,rfl⟩:=h
  obtain ⟨v,rfl,tx⟩:=t.one
  obtain ⟨kx,ux⟩:=x
  unfold yj at e
  split at e
  ·rename_i xs hx
   have hx:ux=.lst xs:=hx
   subst hx
   cases e
   obtain ⟨a',ws,ex,h1,h2⟩:=tx.list ok
   rw [h2.len] at q
   exact call_of fE I rv ⟨a',ws,by rw [ex],.inl (hK ▸ h1),q.flat hσ ok n rfl⟩
  ·rename_i xs hx
   have hx:ux=.tup xs:=hx
   subst hx
   cases e
   obtain ⟨a',ws,ex,h1,h2⟩:=tx.tuple ok
   rw [hK] at h1
   rw [h2.len] at q
   exact call_of fE I rv ⟨a',ws,by rw [ex],.inr h1,q.flat hσ ok n rfl⟩
  ·rename_i xs hx
   have hx:ux=.str xs:=hx
   subst hx
   split at e
   ·cases e
    exact call_of kQ I rv ⟨_,by rw [tx.str ok],by assumption,q.flat hσ ok n rfl⟩
   ·cases e
  ·cases e
 |sorted =>
  obtain ⟨x,rfl,hz⟩:=bJ (f:=yk) h
  clear h
  have h:=hz
  clear hz
  obtain ⟨v,rfl,tx⟩:=t.one
  unfold yk at h
  split at h
  ·rw [Option.bind_eq_some_iff] at h
   obtain ⟨ss,e,h⟩:=h
   have e':=bI e
   subst e'
   obtain ⟨a',ws,ex,h1,h2⟩:=tx.list ok
   rw [ah.strs] at h2
   subst h2
   split at h
   ·cases h
    exact call_of gM I rv ⟨a',ss,by rw [ex],.inl (hK ▸ h1),by assumption,fun p hp=>q.list hσ ok n (ah.strs.mpr rfl) p hp⟩
   ·cases h
  ·rw [Option.bind_eq_some_iff] at h
   obtain ⟨ss,e,h⟩:=h
   have e':=bI e
   subst e'
   obtain ⟨a',ws,ex,h1,h2⟩:=tx.tuple ok
   rw [hK] at h1
   rw [ah.strs] at h2
   subst h2
   split at h
   ·cases h
    exact call_of gM I rv ⟨a',ss,by rw [ex],.inr h1,by assumption,fun p hp=>q.list hσ ok n (ah.strs.mpr rfl) p hp⟩
   ·cases h
  ·cases h
 |tuple =>
  obtain ⟨x,rfl,hz⟩:=bJ (f:=yl) h
  clear h
  have h:=hz
  clear hz
  obtain ⟨v,rfl,tx⟩:=t.one
  unfold yl at h
  split at h
  ·obtain ⟨a',ws,ex,h1,h2⟩:=tx.list ok
   cases h
   exact call_of eW I rv ⟨a',ws,by rw [ex],.inl ⟨hK ▸ h1,fun p hp=>q.tupK hσ ok n h2 p hp⟩⟩
  ·obtain ⟨a',ws,ex,h1,h2⟩:=tx.tuple ok
   have h1':=h1
   rw [hK] at h1'
   cases h
   exact call_of eW I rv ⟨a',ws,by rw [ex],.inr ⟨h1',q c (.ref a') hσ rfl ok n (aB.item ⟨a',ws,rfl,h1,h2⟩)⟩⟩
  ·cases h
 |str =>
  obtain ⟨x,rfl,hz⟩:=bJ (f:=vB) h
  clear h
  have h:=hz
  clear hz
  obtain ⟨v,rfl,tx⟩:=t.one
  unfold vB at h
  split at h
  ·split at h
   ·cases h
    exact call_of kL I rv ⟨_,by rw [tx.int ok],by assumption,q.flat hσ ok n rfl⟩
   ·cases h
  ·cases h
 |all =>
  obtain ⟨x,rfl,hz⟩:=bJ (f:=ym) h
  clear h
  have h:=hz
  clear hz
  obtain ⟨v,rfl,tx⟩:=t.one
  unfold ym at h
  split at h
  ·rw [Option.map_eq_some_iff] at h
   obtain ⟨bs,e,rfl⟩:=h
   have e':=iZ e
   subst e'
   obtain ⟨a',ws,ex,h1,h2⟩:=tx.list ok
   have:=h2.bls
   subst this
   exact call_of (sG hc) I rv ⟨a',bs,by rw [ex],hK ▸ h1,q.flat hσ ok n rfl⟩
  ·cases h
 |_=>cases h
theorem vR {f:Bf}{x:Str}{id:String} (hc:X.calm=true) (hK:C.K=X.K) (hgd:X.A.guards=some []) (hun:X.A.units+60<cLine) (hf:f.val=.builtin id) (hg:Gl X x) (hm:X.mg x=none) (hv:bootBuiltins x=some (.builtin id)) (hn:x≠"__name__") (hdb:(x==("__debug__":Str))=false)
  (ha:PA X (e::es) (tEs C ms)) (he:starEach (e::es) X.env=(false,eval e X.env)::starEach es X.env) (hpl:(backTo pos (starEach es X.env)).any (·.1)=false) :
  PE X (.Call (.Name x p) (e::es) [] pos) (tEv C (ms >>= fun rs=>au rs >>= fun _=>M.ofO (biU f rs))):=by
 rintro pins s σ H Q I ⟨c0,rfl,rfl,ok,h⟩
 refine wpAny_Call_Name_kw (dr I hg hm hv ?_ hn hdb)
 refine PyProof.Rows.callWith_builtin1 (thn (args ha I ok h pos) fun us s1 ⟨rs,c,vs,t,I1,rv,w⟩=>?_) he hpl
 obtain ⟨r,e,q⟩:=bP.mp w
 have z:=wX hc hK hgd hun t I1 rv e q
 rw [hf,t.hσ] at z
 exact z
theorem vT {f:Bf}{x:Str}{T:String} (hc:X.calm=true) (hK:C.K=X.K) (hgd:X.A.guards=some []) (hun:X.A.units+60<cLine) (hf:f.val=.type T) (hg:Gl X x) (hm:X.mg x=none) (hv:bootBuiltins x=some (.type T)) (hn:x≠"__name__") (hdb:(x==("__debug__":Str))=false)
  (ha:PA X (e::es) (tEs C ms)) (he:starEach (e::es) X.env=(false,eval e X.env)::starEach es X.env) (hpl:(backTo pos (starEach es X.env)).any (·.1)=false) :
  PE X (.Call (.Name x p) (e::es) [] pos) (tEv C (ms >>= fun rs=>au rs >>= fun _=>M.ofO (biU f rs))):=by
 rintro pins s σ H Q I ⟨c0,rfl,rfl,ok,h⟩
 refine wpAny_Call_Name_kw (dr I hg hm hv ?_ hn hdb)
 refine PyProof.Rows.callWith_type1 (thn (args ha I ok h pos) fun us s1 ⟨rs,c,vs,t,I1,rv,w⟩=>?_) he hpl
 obtain ⟨r,e,q⟩:=bP.mp w
 have z:=wX hc hK hgd hun t I1 rv e q
 rw [hf,t.hσ] at z
 exact z
noncomputable def Ty5.name:Ty5→Str
 |.str=>"str"|.list=>"list"|.tuple=>"tuple"|.int=>"int"|.bool=>"bool"
noncomputable def Ty5.nm:Ty5→String
 |.str=>"str"|.list=>"list"|.tuple=>"tuple"|.int=>"int"|.bool=>"bool"
theorem vU (T:Ty5):bootBuiltins T.name=some (.type T.nm)∧T.name≠"__name__"∧(T.name==("__debug__":Str))=false:=by
 cases T <;> exact ⟨by decide +kernel,by decide +kernel,by decide +kernel⟩
theorem lB (T:Ty5):typeOf (.type T.nm)=pure (.type "type"):=by cases T <;> kernel_rfl
theorem qg (T:Ty5):isSubtype (.type "str") (.type T.nm)=pure (decide (T=.str)):=by cases T <;> (rw [isSubtype_type];kernel_rfl)
theorem sub_int (T:Ty5):isSubtype (.type "int") (.type T.nm)=pure (decide (T=.int)):=by cases T <;> (rw [isSubtype_type];kernel_rfl)
theorem ne_str {T:Ty5} (h:¬ T=.str):(Value.type "str"==Value.type T.nm)=false:=by cases T <;> first|exact absurd rfl h|decide
theorem ne_int {T:Ty5} (h:¬ T=.int):(Value.type "int"==Value.type T.nm)=false:=by cases T <;> first|exact absurd rfl h|decide
theorem yB {x:Kd×U}{v:V}{val:Value}{T:Ty5}{b:Bool}{Q:Value→Shared→Prop} (hK:C.K=X.K) (t:At1 C c0 c x v) (I:Inv X pins c.σ c.H s) (rv:RelV v val) (h:oQ x.2 T=some b) (q:∀ tk,Q (.bool b) { s with toks:=tk }) :
  wpAny (model X.prog X.w) X.A (call (.builtin "isinstance") [val,.type T.nm]) Q X.xe s:=by
 obtain ⟨k,u⟩:=x
 obtain ⟨hσ,ok,n,r⟩:=t
 have q0:Q (.bool b) s:=q s.toks
 dsimp only at h r
 have yes:∀ {Tx:String},b=true→s.TypeIs val Tx→isSubtype (.type Tx) (.type T.nm)=pure true→wpAny (model X.prog X.w) X.A (call (.builtin "isinstance") [val,.type T.nm]) Q X.xe s:=fun e hx hs=>by
  subst e
  exact PyProof.Rows.call_isinstance_yes hx (lB T) hs q0
 unfold oQ at h
 split at h
 ·cases h
  have e:v=_:=r.str ok
  subst e
  obtain ⟨tk,rfl⟩:=rv
  by_cases hT:T=.str
  ·subst hT;exact yes (by simp) (typeIs_str s _ tk) (qg .str)
  ·rw [decide_eq_false hT] at q
   exact call_isinstance (isinstance_false_str (ne_str hT) (lB T) (by rw [qg,decide_eq_false hT])) (q _)
 ·cases h
  have e:v=_:=r.int ok
  subst e
  obtain ⟨tk,rfl⟩:=rv
  by_cases hT:T=.int
  ·subst hT;exact yes (by simp) (typeIs_int s _ tk) (sub_int .int)
  ·rw [decide_eq_false hT] at q
   exact call_isinstance (isinstance_false_int (ne_int hT) (lB T) (by rw [sub_int,decide_eq_false hT])) (q _)
 ·cases h
  have e:v=_:=r.bl ok
  subst e
  cases rv
  exact yes rfl (PySem.typeIs_bool s _) (by rw [isSubtype_type];kernel_rfl)
 ·cases h
  have e:v=_:=r.bl ok
  subst e
  cases rv
  exact yes rfl (PySem.typeIs_bool s _) (by rw [isSubtype_type];kernel_rfl)
 ·cases h
  obtain ⟨a',ws,rfl,h1,h2⟩:=r.list ok
  cases rv
  rw [hK] at h1
  obtain ⟨its,_,pl,_⟩:=I.list h1
  obtain ⟨o,ho,hc,_⟩:=pl.isList
  exact yes rfl ⟨o,ho,hc⟩ (by rw [isSubtype_type];kernel_rfl)
 ·cases h
  obtain ⟨a',ws,rfl,h1,h2⟩:=r.tuple ok
  cases rv
  rw [hK] at h1
  obtain ⟨its,_,⟨o,ho,hc,_⟩,_⟩:=I.tuple h1
  exact yes rfl ⟨o,ho,hc⟩ (by rw [isSubtype_type];kernel_rfl)
 ·cases h
theorem qh {T:Ty5} (hK:C.K=X.K) (hg:Gl X "isinstance") (hm:X.mg "isinstance"=none) (hg2:Gl X T.name) (hm2:X.mg T.name=none) (ha:PE X a (tEv C ma)) (hs:starEach [a,.Name T.name p2] X.env=(false,eval a X.env)::starEach [.Name T.name p2] X.env) :
  PE X (.Call (.Name "isinstance" p) [a,.Name T.name p2] [] pos) (tEv C (ma >>= fun x=>M.ofO (oQ x.2 T) >>= fun b=>pure (.loc,.bl b))):=by
 rintro pins s σ H Q I ⟨c0,rfl,rfl,ok,h⟩
 obtain ⟨t1,t2,t3⟩:=vU T
 refine wpAny_Call_Name_kw (dr I hg hm (show bootBuiltins "isinstance"=some (.builtin "isinstance") by decide +kernel) ?_ (by decide +kernel) (by decide +kernel))
 refine PyProof.Rows.callWith_builtin1 (thn (eF ha (eF (uO (v:=.ty T.nm) hg2 hm2 t1 rfl t2 t3) iz) hs pos pins s c0.σ c0.H (fun vs H'=>∃ x c v b,At1 C c0 c x v∧c.H=H'∧vs=[v,.ty T.nm]∧oQ x.2 T=some b∧bW C c0 Q (.loc,.bl b) c.st) I ?_) fun us s1 ⟨vs,H1,I1,r1,x,c,v,b,t,e,e2,hb,w⟩=>?_) hs (by rfl)
 ·refine aA ok h fun x c v t w=>?_
  rw [ab] at w
  obtain ⟨b,e,w⟩:=bP.mp w
  rw [af] at w
  exact ⟨x,c,v,b,t,rfl,rfl,e,w⟩
 ·subst e e2
  obtain ⟨u1,u2,rfl,rr1,rr2⟩:=vals2 r1
  cases rr2
  have I2:Inv X pins c.σ c.H s1:=by rw [t.hσ];exact I1
  have z:=yB (Q:=EP X pins c0.σ Q) hK t I2 rr1 hb fun tk=>⟨.bl b,c.H,I1.tok tk,rfl,w c (.bl b) t.hσ rfl t.ok t.nx rfl⟩
  exact z
noncomputable abbrev ct0 (P:Program) (w:World) (K:PySem.W.Frag) (H:Hp):Ct:=⟨P,w,K,H,Dom H,fun _=>False⟩
structure Back (C:Ct) (H H':Hp) (S':Addr→Prop) (k:Kd) (u:U) (v:V):Prop where
 same:xW H H'
 new:∀ a,S' a→H a=none∧∃ o,H' a=some o
 own:k=.own→∃ r,v=.ref r∧H r=none∧¬ S' r∧cM C S' H' r u
 loc:k=.loc→Rep C S' H' u v
noncomputable def spT (P:Program) (w:World) (K:PySem.W.Frag) (F:List U→Option (Ex (Kd×U))) (np:Nat):Sp:=fun vs H Q _=>vs.length=np∧∃ us k u,F us=some (.ok (k,u))∧(k=.own∨k=.loc) ∧
 ah (ct0 P w K H) (Dom H) H us vs∧∀ v H' S',Back (ct0 P w K H) H H' S' k u v→Q v H'
theorem Ats.read {rs:List (Kd×U)}{vs:List V} (t:Ats C c0 c rs vs):ah C (Dom c.H) c.H (rs.map (·.2)) vs:=by
 have aux:∀ (l:List (Kd×U)) (w:List V),cO C c0 c l w→bj l c.st→ah C (Dom c.H) c.H (l.map (·.2)) w:=by
  intro l
  induction l with
  |nil=>intro w h _;exact h
  |cons r l ih =>
   intro w h hs
   obtain ⟨v,t',rfl,h1,h2,_⟩:=h
   rw [gx] at hs
   exact ⟨v,t',rfl,(h1.t hs.1).read t.ok,ih t' h2 hs.2⟩
 exact aux rs vs t.rep t.stb
theorem Back.here {k:Kd}{u:U}{v:V}{H':Hp}{S':Addr→Prop}{Q:VK} (hk:k=.own∨k=.loc) (hσ:c.σ=c0.σ) (ok:Ok C c) (n:Nx c0 c) {C':Ct} (q:C'.Eqv C) (h:Back C' c.H H' S' k u v) (w:bW C c0 Q (k,u) c.st):Q v H':=by
 obtain ⟨ok',n'⟩:=ok.grow (S':=fun a=>c.S a∨S' a) h.same (fun a z=>z.imp id fun z=>h.new a z) fun a=>.inl
 have hn:=n.trans n'
 refine w { c with H:=H',S:=fun a=>c.S a∨S' a } v hσ rfl ok' hn ?_
 rcases hk with rfl|rfl
 ·obtain ⟨r,e,h1,h2,h3⟩:=h.own rfl
  obtain ⟨z0,z1,z2,z3,z4⟩:=ok.jE h1
  refine ⟨r,e,n.none h1,fun z=>z.elim z1 h2,z4,(h3.cg q).mv (.up fun a=>.inr) fun o q=>q⟩
 ·exact ((h.loc rfl).cg q).mv (.up fun a=>.inr)
theorem tq {f:Str}{fa:Addr}{fd:FuncData}{ps:List Str}{k np:Nat}{F:List U→Option (Ex (Kd×U))}{Γ:Tab} (hP:C.P=X.prog) (hw:C.w=X.w) (hK:C.K=X.K) (hF:Γ f=F) (hk:∀ us k u,F us=some (.ok (k,u))→(k=.own∨k=.loc)∧us.length=np)
  (G:mF X.prog X.w X.K X.mg X.base CX0 k fa fd ps (spT X.prog X.w X.K F np)) (hr:fC k X.A) (hg:Gl X f) (hm:X.mg f=some (.ref fa)) (hkp:PySem.W.keepIn X.K (.ref fa)=true) (hb:Binds X.K fd ps [])
  (hdb:(f==("__debug__":Str))=false) (ha:PA X (e::es) (tEs C ms)) (he:starEach (e::es) X.env=(false,eval e X.env)::starEach es X.env) (hpl:(backTo pos (starEach es X.env)).any (·.1)=false) :
  PE X (.Call (.Name f p) (e::es) [] pos) (tEv C (ms >>= fun rs=>au rs >>= fun _=>iU Γ f (rs.map (·.2)))):=by
 rintro pins s σ H Q I ⟨c0,rfl,rfl,ok,h⟩
 refine wpAny_Call_Name_kw (uN I hg hm ?_ hdb)
 refine PySem.W.callWith_K (h₀:=X.base) I.ok.mod.kin hkp (thn (args ha I ok h pos) fun us s1 ⟨rs,c,vs,t,I1,rv,w⟩=>⟨I1.kIn,?_⟩) he hpl
 obtain ⟨r,st',e1,q⟩:=w
 unfold iU at e1
 rw [hF] at e1
 cases e2:F (rs.map (·.2)) with
 |none=>rw [e2] at e1;cases e1
 |some r' =>
  rw [e2] at e1
  cases e1
  obtain ⟨kd,u⟩:=r
  obtain ⟨k1,k2⟩:=hk _ _ _ e2
  have eqv:C.Eqv (ct0 X.prog X.w X.K c.H):=⟨hP,hw,hK⟩
  have eqv':(ct0 X.prog X.w X.K c.H).Eqv C:=⟨hP.symm,hw.symm,hK.symm⟩
  have rd:=t.read
  have hsp:spT X.prog X.w X.K F np vs c.H (fun v H'=>Q v H') E0:=⟨by rw [←rd.len];exact k2,rs.map (·.2),kd,u,e2,k1,rd.cg eqv,fun v H' S' hb=>hb.here k1 t.hσ t.ok t.nx eqv' q⟩
  have z:=xP (Q:=Q) G hr hb .nil zG I1 rv (by rw [List.append_nil];exact hsp)
  rw [t.hσ] at z
  exact z
end
end TM
namespace TM
open PySem L2 PyProof.Rows
section
variable {X : Cx} {C : Ct} {pins : List (Addr × Obj)} {s : Shared} {c0 c c1 : Cf}
variable {a b d e o : Expr} {es : List Expr} {m ma mb md : M (Kd × U)} {ms : M (List (Kd × U))} {ta tb : M Bool} {pos p p2 apos cpos : Pos}
noncomputable def Mf.id:Mf→String
 |.split=>"str.split"|.join=>"str.join"|.partition=>"str.partition"|.endswith=>"str.endswith"
noncomputable def Mf.name:Mf→Str
 |.split=>"split"|.join=>"join"|.partition=>"partition"|.endswith=>"endswith"
theorem tu {f:Mf}{u:U}{rs:List (Kd×U)}{r:Kd×U} (h:hU f u rs=some r):∃ x,u=.str x:=by
 unfold hU at h
 split at h
 ·exact ⟨_,rfl⟩
 ·exact ⟨_,rfl⟩
 ·cases h
theorem yC (hK:C.K=X.K) {f:Mf}{x:Kd×U}{rs:List (Kd×U)}{r:Kd×U}{vx:V}{v:Value}{vs:List V}{us:List Value}{Q:VK} (t:Ats C c0 c (x::rs) (vx::vs)) (I:Inv X pins c.σ c.H s) (rx:RelV vx v) (rv:Vals vs us) (h:hU f x.2 rs=some r) (q:bW C c0 Q r c.st) :
  wpAny (model X.prog X.w) X.A (call (.builtin f.id) (v::us)) (EP X pins c.σ Q) X.xe s:=by
 have hσ:=t.hσ
 have ok:=t.ok
 have n:=t.nx
 obtain ⟨kx,ux⟩:=x
 have hs:=gx.mp t.stb
 obtain ⟨v0,vs0,e0,h1,h2,-⟩:=t.rep
 cases e0
 have tx:aB C c0 c kx ux vx:=h1.t hs.1
 have one:∀ {r:Kd×U},cO C c0 c [r] vs→bj [r] c.st→∃ v,vs=[v]∧aB C c0 c r.1 r.2 v:=fun {r} h s=>by
  obtain ⟨v,t',rfl,h1,h2,_⟩:=h
  cases h2
  exact ⟨v,rfl,h1.t s⟩
 dsimp only at h
 unfold hU at h
 split at h
 ·obtain ⟨w,rfl,ty⟩:=one h2 hs.2
  split at h
  ·rename_i hh
   cases h
   exact sF pins s c.σ c.H vx [w] v us Q I rx rv ⟨_,_,tx.str ok,by rw [ty.str ok],hh.1,hh.2,fun p hp=>q.list hσ ok n (ah.strs.mpr rfl) p hp⟩
  ·cases h
 ·rw [Option.bind_eq_some_iff] at h
  obtain ⟨ss,e,h⟩:=h
  have e':=bI e
  subst e'
  obtain ⟨w,rfl,ty⟩:=one h2 hs.2
  obtain ⟨a',ws,ex,h3,h4⟩:=ty.list ok
  rw [ah.strs] at h4
  subst h4
  split at h
  ·cases h
   exact vg pins s c.σ c.H vx [w] v us Q I rx rv ⟨_,a',ss,tx.str ok,by rw [ex],hK ▸ h3,by assumption,q.flat hσ ok n rfl⟩
  ·cases h
 ·cases h
theorem vV (hK:C.K=X.K) {f:Mf}{name:Str} (slot:Slot "str" name f.id) (hty:typeOf (.builtin f.id)=pure (.type "method_descriptor")) (ho:PE X o (tEv C m)) (ha:PA X (e::es) (tEs C ms))
  (hbase:attributeBase o name X.env (eval o X.env)=eval o X.env)
  (hfew:((backTo cpos (starEach (e::es) X.env)).all (fun x=>!x.1)&&(backToKw cpos (keywordEach [] X.env)).all (fun x=>x.1.isSome)
   && decide ((e::es).length+([]:List Keyword).length+(if ([]:List Keyword).isEmpty then 0 else 1)<30))=true)
  (hline:(apos.endLine==cpos.line)=true) (hs:starEach (e::es) X.env=(false,eval e X.env)::starEach es X.env) (hplain:(backTo cpos (starEach es X.env)).any (·.1)=false) :
  PE X (.Call (.Attribute o name apos) (e::es) [] cpos) (tEv C (m >>= fun x=>ms >>= fun rs=>au (x::rs) >>= fun _=>M.ofO (hU f x.2 rs))):=by
 rintro pins s σ H Q I ⟨c0,rfl,rfl,ok,h⟩
 refine wpAny_Call_method_late hbase hfew hline rfl (thn (ho pins s c0.σ c0.H (fun vx H1=>∃ x c1,c1.H=H1∧At1 C c0 c1 x vx∧W (ms >>= fun rs=>au (x::rs) >>= fun _=>M.ofO (hU f x.2 rs)) c1.st (bW C c0 Q)) I (aA ok h fun x c v t w=>⟨x,c,rfl,t,w⟩)) ?_)
 rintro v s1 ⟨vx,H1,I1,rx,x,c1,rfl,t,w⟩
 have hstr:∃ z,x.2=.str z:=by
  rw [ab] at w
  obtain ⟨rs,st2,_,w⟩:=w
  rw [ab] at w
  obtain ⟨_,st3,_,w⟩:=w
  obtain ⟨r,e,_⟩:=bP.mp w
  exact tu e
 obtain ⟨z,hz⟩:=hstr
 have tx:=t.rx
 rw [hz] at tx
 have ev:=tx.str t.ok
 have ty:tyV X.K "str" vx c1.H:=by rw [ev];rfl
 obtain ⟨h1,h2⟩:=kR I1 rx ty
 refine ⟨"str",f.id,PySem.F.plainAttrs_str,slot,hty,h1,h2,?_⟩
 rw [ab] at w
 have hA:=ha cpos pins s1 c0.σ c1.H (fun vs H2=>∃ rs c2,c2.H=H2∧Ats C c0 c2 (x::rs) (vx::vs)∧W (M.ofO (hU f x.2 rs)) c2.st (bW C c0 Q)) I1 ⟨c1,t.hσ,rfl,t.ok,w.mono fun rs st2 h3 c2 vs e3 e4 ok2 n2 r2=>by
  rw [ab,bR] at h3
  subst e4
  exact ⟨rs,c2,rfl,⟨e3,ok2,t.nx.trans n2,⟨vx,vs,rfl,t.rx.w.on t.ok n2 (e3.trans t.hσ.symm),r2.from t.nx,fun hk i r' v' e5 e6 hk'=>lz t.rx.w (r2.get e5 e6) hk hk'⟩,h3.1⟩,h3.2⟩⟩
 rw [hs] at hA ⊢
 refine Calls.callWith_builtin (by show (false||(backTo cpos (starEach es X.env)).any (·.1))=false;rw [hplain] <;> rfl) (Calls.evalArgs_plain ?_)
 refine thn hA ?_
 rintro us s2 ⟨vs,H2,I2,r2,rs,c2,rfl,t2,w2⟩
 obtain ⟨r,e,q⟩:=bP.mp w2
 have z:=yC hK t2 (by rw [t2.hσ];exact I2) rx r2 e q
 rw [t2.hσ] at z
 exact z
end
end TM
namespace TM
open PySem L2 PyProof.Rows
section
variable {X : Cx} {C : Ct} {pins : List (Addr × Obj)} {s : Shared} {c0 c c1 : Cf}
variable {e : Expr} {es : List Expr} {ms : M (List (Kd × U))} {pos p p2 pos2 : Pos}
noncomputable def B2.out:B2→Value
 |.revT=>.type "tuple"|.revL=>.type "list"|.sset=>.builtin "sorted"|.jx=>.builtin "len"
noncomputable def B2.inn:B2→Value
 |.revT=>.type "reversed"|.revL=>.type "reversed"|.sset=>.type "set"|.jx=>.type "set"
noncomputable def B2.lC:B2→Str
 |.revT=>"tuple"|.revL=>"list"|.sset=>"sorted"|.jx=>"len"
noncomputable def B2.fY:B2→Str
 |.revT=>"reversed"|.revL=>"reversed"|.sset=>"set"|.jx=>"set"
theorem ah.rev {S:Addr→Prop}{H:Hp}:∀ {us:List U}{vs:List V},ah C S H us vs→ah C S H us.reverse vs.reverse
 |[],vs,h=>by cases h;exact rfl
 |u::us,vs,h=>by
  obtain ⟨v,r,rfl,h1,h2⟩:=h
  rw [List.reverse_cons,List.reverse_cons]
  exact (ah.rev h2).append ⟨v,[],rfl,h1,rfl⟩
theorem j4 {u:U}{ss:List Str}{k:Kd}{v:V} (hK:C.K=X.K) (ok:Ok C c) (tx:aB C c0 c k u v) (h:mZ u=some ss):∃ a ys,v=.ref a∧(SqL X.K c.H a (ys.map V.str)∨SqT X.K c.H a (ys.map V.str))∧ys.length+1<scanBound∧ss=aE ys:=by
 unfold mZ at h
 split at h
 ·rw [Option.bind_eq_some_iff] at h
  obtain ⟨ys,e,h⟩:=h
  have e':=bI e
  subst e'
  obtain ⟨a',ws,ex,h1,h2⟩:=tx.list ok
  rw [ah.strs] at h2
  subst h2
  split at h
  ·cases h
   exact ⟨a',ys,ex,.inl (hK ▸ h1),by assumption,rfl⟩
  ·cases h
 ·rw [Option.bind_eq_some_iff] at h
  obtain ⟨ys,e,h⟩:=h
  have e':=bI e
  subst e'
  obtain ⟨a',ws,ex,h1,h2⟩:=tx.tuple ok
  rw [ah.strs] at h2
  subst h2
  rw [hK] at h1
  split at h
  ·cases h
   exact ⟨a',ys,ex,.inr h1,by assumption,rfl⟩
  ·cases h
 ·cases h
theorem yD {f:B2}{rs:List (Kd×U)}{r:Kd×U}{vs:List V}{us:List Value}{Q:VK} (hc:X.calm=true) (hK:C.K=X.K) (t:Ats C c0 c rs vs) (I:Inv X pins c.σ c.H s) (rv:Vals vs us) (h:oP f rs=some r) (q:bW C c0 Q r c.st) :
  wpAny (model X.prog X.w) X.A (call f.inn us) (fun v s1=>wpAny (model X.prog X.w) X.A (call f.out [v]) (EP X pins c.σ Q) X.xe s1) X.xe s:=by
 have hσ:=t.hσ
 have ok:=t.ok
 have n:=t.nx
 cases f with
 |sset =>
  obtain ⟨x,rfl,hz⟩:=bJ (f:=fun x=>(mZ x.2).bind fun ss=>if ss.length<64 then some (Kd.own,U.lst ((aO ss).map .str)) else none) h
  clear h
  have h:=hz
  clear hz
  obtain ⟨ss,e,h⟩:=Option.bind_eq_some_iff.mp h
  obtain ⟨v,rfl,tx⟩:=t.one
  obtain ⟨a',ys,rfl,h1,h2,rfl⟩:=j4 hK ok tx e
  obtain ⟨u,rfl,rr⟩:=vals1 rv
  cases rr
  split at h
  ·cases h
   exact fO hc I h1 h2 fun S h' tk hS I1=>jD hc I1 hS (by assumption) fun l hl=>q.list hσ ok n (ah.strs.mpr rfl) l hl
  ·cases h
 |jx =>
  obtain ⟨x,rfl,hz⟩:=bJ (f:=fun x:Kd×U=>(mZ x.2).map fun ss:List Str=>(Kd.loc,U.int (ss.length:Int))) h
  clear h
  have h:=hz
  clear hz
  obtain ⟨ss,e,rfl⟩:=Option.map_eq_some_iff.mp h
  obtain ⟨v,rfl,tx⟩:=t.one
  obtain ⟨a',ys,rfl,h1,h2,rfl⟩:=j4 hK ok tx e
  obtain ⟨u,rfl,rr⟩:=vals1 rv
  cases rr
  exact fO hc I h1 h2 fun S h' tk hS I1=>oI I1 hS (q.flat hσ ok n rfl)
 |_=>cases h
theorem qi:∀ f:B2,bootBuiltins f.lC=some f.out∧bootBuiltins f.fY=some f.inn∧f.lC≠"__name__"∧f.fY≠"__name__"∧(f.lC==("__debug__":Str))=false∧(f.fY==("__debug__":Str))=false:=by
 intro f
 cases f <;> exact ⟨by decide +kernel,by decide +kernel,by decide +kernel,by decide +kernel,by decide +kernel,by decide +kernel⟩
theorem yE (f:B2):∃ T,f.inn=.type T:=by cases f <;> exact ⟨_,rfl⟩
theorem yF (f:B2):(∃ T,f.out=.type T)∨∃ T,f.out=.builtin T:=by cases f <;> first|exact .inl ⟨_,rfl⟩|exact .inr ⟨_,rfl⟩
theorem vW {M:Model}{A:Around}{E:Value→Shared→Prop}{s:Shared}{T:String}{t:Sem Value}{Q:Value→Shared→Prop} (h:wpAny M A t (fun v s₁=>wpAny M A (call (.type T) [v]) Q E s₁) E s):wpAny M A (callWith pos (.type T) [] [(false,t)] []) Q E s :=
 PySem.callWith_type rfl (Calls.evalArgs_plain (Calls.spliced_cons (wpAny_mono h (fun _ _ h₁=>Calls.spliced_nil h₁) fun _ _ e=>e)))
theorem tw {M:Model}{A:Around}{E:Value→Shared→Prop}{s:Shared}{T:String}{t:Sem Value}{Q:Value→Shared→Prop} (h:wpAny M A t (fun v s₁=>wpAny M A (call (.builtin T) [v]) Q E s₁) E s):wpAny M A (callWith pos (.builtin T) [] [(false,t)] []) Q E s :=
 Calls.callWith_builtin rfl (Calls.evalArgs_plain (Calls.spliced_cons (wpAny_mono h (fun _ _ h₁=>Calls.spliced_nil h₁) fun _ _ e=>e)))
theorem tD {f:B2}{Q:VK} (hc:X.calm=true) (hK:C.K=X.K) (hg2:Gl X f.fY) (hm2:X.mg f.fY=none)
  (ha:PA X (e::es) (tEs C ms)) (he:starEach (e::es) X.env=(false,eval e X.env)::starEach es X.env) (hpl:(backTo pos2 (starEach es X.env)).any (·.1)=false)
  (I:Inv X pins c0.σ c0.H s) (ok:Ok C c0) (h:W (ms >>= fun rs=>au rs >>= fun _=>M.ofO (oP f rs)) c0.st (bW C c0 Q)) :
  wpAny (model X.prog X.w) X.A (eval (.Call (.Name f.fY p2) (e::es) [] pos2) X.env) (fun v s1=>wpAny (model X.prog X.w) X.A (call f.out [v]) (EP X pins c0.σ Q) X.xe s1) X.xe s:=by
 obtain ⟨b1,b2,b3,b4,b5,b6⟩:=qi f
 refine wpAny_Call_Name_kw (dr I hg2 hm2 b2 ?_ b4 b6)
 have fin:wpAny (model X.prog X.w) X.A (spliced (backTo pos2 (starEach (e::es) X.env))) (fun us s1=>wpAny (model X.prog X.w) X.A (call f.inn us) (fun v s1=>wpAny (model X.prog X.w) X.A (call f.out [v]) (EP X pins c0.σ Q) X.xe s1) X.xe s1) X.xe s :=
  thn (args ha I ok h pos2) fun us s1 hIx=>by
   obtain ⟨rs,c,vs,t,I1,rv,w⟩:=hIx
   obtain ⟨r,e,q⟩:=bP.mp w
   have z:=yD hc hK t I1 rv e q
   rw [t.hσ] at z
   exact z
 obtain ⟨T,hT⟩:=yE f
 rw [hT] at fin ⊢
 exact PyProof.Rows.callWith_type1 fin he hpl
theorem vX {f:B2} (hc:X.calm=true) (hK:C.K=X.K) (hg1:Gl X f.lC) (hm1:X.mg f.lC=none) (hg2:Gl X f.fY) (hm2:X.mg f.fY=none)
  (ha:PA X (e::es) (tEs C ms)) (he:starEach (e::es) X.env=(false,eval e X.env)::starEach es X.env) (hpl:(backTo pos2 (starEach es X.env)).any (·.1)=false) :
  PE X (.Call (.Name f.lC p) [.Call (.Name f.fY p2) (e::es) [] pos2] [] pos) (tEv C (ms >>= fun rs=>au rs >>= fun _=>M.ofO (oP f rs))):=by
 rintro pins s σ H Q I ⟨c0,rfl,rfl,ok,h⟩
 obtain ⟨b1,b2,b3,b4,b5,b6⟩:=qi f
 refine wpAny_Call_Name_kw (dr I hg1 hm1 b1 ?_ b3 b5)
 have inner:=tD (p2:=p2) (pos2:=pos2) hc hK hg2 hm2 ha he hpl I ok h
 have eb:backTo pos (starEach [.Call (.Name f.fY p2) (e::es) [] pos2] X.env)=[(false,eval (.Call (.Name f.fY p2) (e::es) [] pos2) X.env)]:=rfl
 have ek:backToKw pos (keywordEach [] X.env)=[]:=rfl
 rw [eb,ek]
 rcases yF f with ⟨T,hT⟩|⟨T,hT⟩
 ·rw [hT] at inner ⊢
  exact vW inner
 ·rw [hT] at inner ⊢
  exact tw inner
end
end TM
namespace TM
open PySem L2 PyProof.Rows
section
variable {X : Cx} {C : Ct} {pins : List (Addr × Obj)} {s : Shared} {c0 c c1 : Cf}
variable {a b d e o tg : Expr} {es : List Expr} {m ma mb md : M (Kd × U)} {ms : M (List (Kd × U))} {ta tb : M Bool} {pos p p2 apos cpos : Pos}
noncomputable def ja (rs:List (Kd×U)) (c c':Cf):Prop:=∀ j u,(Kd.bor j,u)∈rs→c'.σ[j]?=c.σ[j]?
noncomputable def Walk (C:Ct) (c:Cf) (rs:List (Kd×U)) (xs:List (Kd×U)) (J:It):Prop:=∀ c',Ok C c'→Ns c c'→ja rs c c'→bj rs c'.st →
 (∀ (i:Nat) r,xs[i]?=some r→(r.1=.loc∨r.1=.any)∧J.go i c'.H∧∀ x H',J.yld i c'.H x H'→∃ c'':Cf,c''.H=H'∧c''.σ=c'.σ∧c''.st=c'.st∧Ok C c''∧Nx c' c''∧aB C c' c'' r.1 r.2 x) ∧
 ∀ i:Nat,xs.length≤i→J.stop i c'.H
noncomputable def tIt (C:Ct) (ik:Ik) (ms:M (List (Kd×U))):TI:=fun σ H R=>∃ c0:Cf,c0.σ=σ∧c0.H=H∧Ok C c0∧W (ms >>= fun rs=>au rs >>= fun _=>M.ofO (itU ik rs) >>= fun xs=>pure (rs,xs)) c0.st fun q st' =>
 ∀ c J,c.σ=σ→c.st=st'→Ok C c→Nx c0 c→bj q.1 c.st→Walk C c q.1 q.2 J→R J c.H
theorem aB.walk {r:Kd×U}{v:V}{c':Cf} (ok:Ok C c) (n:Ns c c') (hf:ja [r] c c') (hs:bj [r] c'.st) (h:aB C c0 c r.1 r.2 v):aB C c0 c' r.1 r.2 v :=
 (h.w.on' ok n fun j e=>hf j r.2 (by rw [←e];simp)).t hs
theorem tE (k:Kd):kE k=.loc∨kE k=.any:=by cases k <;> simp [kE]
theorem rn {k:Kd}{us:List U}{a':Addr} (hK:C.K=X.K) (ok:Ok C c) (h:aB C c0 c k (.lst us) (.ref a')):Walk C c [(k,.lst us)] (us.map fun u=>(kE k,u)) (Itl X.K a'):=by
 intro c' ok' n hf hs
 have h':=aB.walk (r:=(k,.lst us)) ok n hf hs h
 obtain ⟨a2,vs,e,h1,h2⟩:=h'.list ok'
 cases e
 rw [hK] at h1
 refine ⟨fun i r hr=>?_,fun i hi=>⟨vs,h1,by rw [←h2.len];simpa using hi⟩⟩
 rw [List.getElem?_map,Option.map_eq_some_iff] at hr
 obtain ⟨u,hu,rfl⟩:=hr
 obtain ⟨v,hv,rep⟩:=h2.get hu
 refine ⟨tE k,⟨vs,v,h1,hv⟩,fun x H' hy=>?_⟩
 obtain ⟨e,hy⟩:=hy
 subst e
 have:=hy vs h1
 rw [hv] at this
 cases this
 exact ⟨c',rfl,rfl,rfl,ok',Nx.refl c',aB.item rep⟩
theorem oS {k:Kd}{us:List U}{a':Addr} (hK:C.K=X.K) (ok:Ok C c) (h:aB C c0 c k (.tup us) (.ref a')):Walk C c [(k,.tup us)] (us.map fun u=>(kE k,u)) (Itt X.K a'):=by
 intro c' ok' n hf hs
 have h':=aB.walk (r:=(k,.tup us)) ok n hf hs h
 obtain ⟨a2,vs,e,h1,h2⟩:=h'.tuple ok'
 cases e
 rw [hK] at h1
 refine ⟨fun i r hr=>?_,fun i hi=>⟨vs,h1,by rw [←h2.len];simpa using hi⟩⟩
 rw [List.getElem?_map,Option.map_eq_some_iff] at hr
 obtain ⟨u,hu,rfl⟩:=hr
 obtain ⟨v,hv,rep⟩:=h2.get hu
 refine ⟨tE k,⟨vs,v,h1,hv⟩,fun x H' hy=>?_⟩
 obtain ⟨e,hy⟩:=hy
 subst e
 have:=hy vs h1
 rw [hv] at this
 cases this
 exact ⟨c',rfl,rfl,rfl,ok',Nx.refl c',aB.item rep⟩
theorem oU {rs:List (Kd×U)}{lo:Int}{n:Nat}:Walk C c rs ((List.range n).map fun i:Nat=>(Kd.loc,U.int (lo+(i:Int)))) (Itr lo n):=by
 intro c' ok' nx hf hs
 refine ⟨fun i r hr=>?_,fun i hi=>by show n≤i;simpa using hi⟩
 rw [List.getElem?_map,Option.map_eq_some_iff] at hr
 obtain ⟨j,hu,rfl⟩:=hr
 have hi:i<n:=by simpa using (List.getElem?_eq_some_iff.mp hu).1
 rw [List.getElem?_range hi] at hu
 cases hu
 refine ⟨.inl rfl,hi,fun y H' hy=>?_⟩
 obtain ⟨e,rfl⟩:=hy
 subst e
 exact ⟨c',rfl,rfl,rfl,ok',Nx.refl c',rfl⟩
theorem yG (hK:C.K=X.K) (ha:PE X a (tEv C ma)):PI X tg a (tIt C .seq (ma >>= fun r=>pure [] >>= fun rs=>pure (r::rs))):=by
 rintro pins s σ H R I ⟨c0,rfl,rfl,ok,h⟩
 rw [ab,ab] at h
 obtain ⟨r,st1,e1,h⟩:=h
 rw [ab,af,af,ab,bR,ab] at h
 obtain ⟨hst,h⟩:=h
 obtain ⟨xs,e2,h⟩:=bP.mp h
 rw [af] at h
 obtain ⟨k,u⟩:=r
 cases u with
 |lst us =>
  cases e2
  refine uW ha pins s c0.σ c0.H R I ⟨c0,rfl,rfl,ok,_,st1,e1,fun c v hσ hs okc n rep=>?_⟩
  obtain ⟨a',vs,rfl,h1,h2⟩:=rep.list okc
  subst hs
  exact ⟨a',rfl,⟨vs,hK ▸ h1⟩,h c _ hσ rfl okc n hst (rn hK okc rep)⟩
 |tup us =>
  cases e2
  refine xJ ha pins s c0.σ c0.H R I ⟨c0,rfl,rfl,ok,_,st1,e1,fun c v hσ hs okc n rep=>?_⟩
  obtain ⟨a',vs,rfl,h1,h2⟩:=rep.tuple okc
  subst hs
  have h1':=h1
  rw [hK] at h1'
  exact ⟨a',rfl,⟨vs,h1'⟩,h c _ hσ rfl okc n hst (oS hK okc rep)⟩
 |_=>cases e2
theorem tF {ms:M (List (Kd×U))}{β:Type}{k:List (Kd×U)→M β}{Post:β→ag→Prop}{Z:List V→Hp→Prop} (ok:Ok C c0) (h:W (ms >>= fun rs=>au rs >>= fun _=>k rs) c0.st Post)
  (hz:∀ rs c vs,Ats C c0 c rs vs→W (k rs) c.st Post→Z vs c.H):tEs C ms c0.σ c0.H Z:=by
 rw [ab] at h
 refine ⟨c0,rfl,rfl,ok,h.mono fun rs st1 h1 c1 vs e1 e2 ok1 n1 r1=>?_⟩
 rw [ab,bR] at h1
 subst e2
 exact hz rs c1 vs ⟨e1,ok1,n1,r1,h1.1⟩ h1.2
theorem vY (hg:Gl X "range") (hm:X.mg "range"=none) (hs:starEach [a] X.env=[(false,eval a X.env)]) (ha:PA X [a] (tEs C ms)):PI X tg (.Call (.Name "range" p) [a] [] pos) (tIt C .rng1 ms):=by
 rintro pins s σ H R I ⟨c0,rfl,rfl,ok,h⟩
 refine qJ hg hm ha hs pins s c0.σ c0.H R I (tF ok h fun rs c vs t w=>?_)
 rw [ab] at w
 obtain ⟨xs,e2,w⟩:=bP.mp w
 rw [af] at w
 obtain ⟨x,rfl,hz⟩:=bJ (f:=q_) e2
 clear e2
 have e2:=hz
 clear hz
 obtain ⟨v,rfl,tx⟩:=t.one
 unfold q_ at e2
 split at e2
 ·split at e2
  ·rename_i hh
   cases e2
   exact ⟨_,by rw [tx.int t.ok],by omega,by omega,w c _ t.hσ rfl t.ok t.nx t.stb oU⟩
  ·cases e2
 ·cases e2
theorem m6 {k:Kd}{us:List U}{u0:U}{a':Addr}{Sq:Hp→List V→Prop} (hsq:∀ c',Ok C c'→Ns c c'→ja [(k,u0)] c c'→bj [(k,u0)] c'.st→∃ vs,Sq c'.H vs∧ah C (SK C c' k) c'.H us vs):Walk C c [(k,u0)] (us.zipIdx.map fun p=>(kE k,.tup [.int p.2,p.1])) (Ite Sq):=by
 intro c' ok' n hf hs
 obtain ⟨vs,h1,h2⟩:=hsq c' ok' n hf hs
 refine ⟨fun i r hr=>?_,fun i hi=>⟨vs,h1,by rw [←h2.len];simpa using hi⟩⟩
 rw [List.getElem?_map,Option.map_eq_some_iff] at hr
 obtain ⟨p,hp,rfl⟩:=hr
 rw [List.getElem?_zipIdx,Option.map_eq_some_iff] at hp
 obtain ⟨u,hu,rfl⟩:=hp
 obtain ⟨v,hv,rep⟩:=h2.get hu
 refine ⟨tE k,⟨vs,v,h1,hv⟩,fun x H' hy=>?_⟩
 obtain ⟨p,hpn,rfl,hy⟩:=hy
 have hy':=hy vs v h1 hv
 subst hy'
 obtain ⟨ok2,n2⟩:=ok'.lay (o:=.tup [.int i,v]) hpn
 refine ⟨{ c' with H:=upd c'.H p (.tup [.int i,v]) },rfl,rfl,rfl,ok2,n2,aB.item ?_⟩
 have r2:ah C (SK C c' k) c'.H [.int ((0+i:Nat):Int),u] [.int (i:Int),v]:=by
  rw [Nat.zero_add]
  exact ⟨_,_,rfl,rfl,_,_,rfl,rep,rfl⟩
 cases k <;> exact ⟨p,_,rfl,SqT.of aq,by first|exact r2.mv (ok'.mvP n2)|exact r2.mv (ok'.mv n2)⟩
theorem yH {es:List Expr}{kx:Nat}{ps:Pos} (hK:C.K=X.K) (hg:Gl X "enumerate") (hm:X.mg "enumerate"=none) (hs:starEach [a] X.env=[(false,eval a X.env)]) (ha:PA X [a] (tEs C ms)):PI X (.Tuple es kx ps) (.Call (.Name "enumerate" p) [a] [] pos) (tIt C .enm ms):=by
 rintro pins s σ H R I ⟨c0,rfl,rfl,ok,h⟩
 refine vm hg hm ha hs pins s c0.σ c0.H R I (tF ok h fun rs c vs t w=>?_)
 rw [ab] at w
 obtain ⟨xs,e2,w⟩:=bP.mp w
 rw [af] at w
 obtain ⟨x,rfl,hz⟩:=bJ (f:=yn) e2
 clear e2
 have e2:=hz
 clear hz
 obtain ⟨v,rfl,tx⟩:=t.one
 unfold yn at e2
 split at e2
 ·cases e2
  obtain ⟨a',ws,e1,h1,h2⟩:=tx.list t.ok
  subst e1
  refine ⟨a',rfl,.inl ⟨⟨ws,hK ▸ h1⟩,w c _ t.hσ rfl t.ok t.nx t.stb ?_⟩⟩
  refine m6 (a':=a') fun c' ok' n hf hs'=>?_
  obtain ⟨a2,vs,e,h1,h2⟩:=(aB.walk t.ok n hf hs' tx).list ok'
  cases e
  exact ⟨vs,hK ▸ h1,h2⟩
 ·cases e2
  obtain ⟨a',ws,e1,h1,h2⟩:=tx.tuple t.ok
  subst e1
  rw [hK] at h1
  refine ⟨a',rfl,.inr ⟨⟨ws,h1⟩,w c _ t.hσ rfl t.ok t.nx t.stb ?_⟩⟩
  refine m6 (a':=a') fun c' ok' n hf hs'=>?_
  obtain ⟨a2,vs,e,h1,h2⟩:=(aB.walk t.ok n hf hs' tx).tuple ok'
  cases e
  rw [hK] at h1
  exact ⟨vs,h1,h2⟩
 ·cases e2
theorem Ok.put (ok:Ok C c) (n:Nx c0 c) {k:Kd}{u:U}{v:V}{i:Nat} (hi:i<c.σ.length) (hk:k=.own∨k=.loc∨k=.any) (ok0:Ok C c0) (h:aB C c0 c k u v) :
  Ok C { c with σ:=c.σ.set i (some v),st:=c.st.set i (some (k,u)) }∧Nx c0 { c with σ:=c.σ.set i (some v),st:=c.st.set i (some (k,u)) }:=by
 have hi':i<c.st.length:=by rw [ok.len];exact hi
 have oth:∀ (j:Nat) k' u',(c.st.set i (some (k,u)))[j]?=some (some (k',u'))→j≠i→c.st[j]?=some (some (k',u')):=fun j k' u' e ne=>by rw [List.getElem?_set_ne (Ne.symm ne)] at e;exact e
 have othσ:∀ (j:Nat) v',(c.σ.set i (some v))[j]?=some (some v')→j≠i→c.σ[j]?=some (some v'):=fun j v' e ne=>by rw [List.getElem?_set_ne (Ne.symm ne)] at e;exact e
 have sl:d5 C c.S c.H k u v:=by
  rcases hk with rfl|rfl|rfl
  ·obtain ⟨r,e,h1,h2,h3,h4⟩:=h
   obtain ⟨z0,z1,z2,z3,z4⟩:=ok0.jE h1
   exact ⟨r,e,h2,z2,z0,h4⟩
  ·exact h
  ·exact h
 have newR:∀ (j:Nat) k' u' r,k'.root=true→(c.st.set i (some (k,u)))[j]?=some (some (k',u'))→(c.σ.set i (some v))[j]?=some (some (.ref r))→j=i∧k=.own∧v=.ref r∨j≠i∧c.st[j]?=some (some (k',u'))∧c.σ[j]?=some (some (.ref r)):=fun j k' u' r hr e1 e2=>by
  by_cases hj:j=i
  ·subst hj
   rw [List.getElem?_set_self hi'] at e1
   rw [List.getElem?_set_self hi] at e2
   cases e1
   cases e2
   rcases hk with rfl|rfl|rfl
   ·exact .inl ⟨rfl,rfl,rfl⟩
   ·cases hr
   ·cases hr
  ·exact .inr ⟨hj,oth j k' u' e1 hj,othσ j _ e2 hj⟩
 have dD:∀ (j:Nat) (u':U),(c.st.set i (some (k,u)))[j]?=some (some (.ownD,u'))→c.st[j]?=some (some (.ownD,u'))∧(c.σ.set i (some v))[j]?=c.σ[j]?:=fun j u' e=>by
  by_cases hj:j=i
  ·subst hj
   rw [List.getElem?_set_self hi'] at e
   cases e
   rcases hk with hk|hk|hk <;> cases hk
  ·exact ⟨oth j .ownD u' e hj,List.getElem?_set_ne (Ne.symm hj)⟩
 have b1:∀ a,({ c with σ:=c.σ.set i (some v),st:=c.st.set i (some (k,u)) }:Cf).R1 a→c.R1 a∨k=.own∧v=.ref a:=fun a hIx=>by
  obtain ⟨j,k',u',hr,e1,e2⟩:=hIx
  rcases newR j k' u' a hr e1 e2 with ⟨a1,a2,a3⟩|⟨a1,a2,a3⟩
  ·exact .inr ⟨a2,a3⟩
  ·exact .inl ⟨j,k',u',hr,a2,a3⟩
 have hdd:DOk C { c with σ:=c.σ.set i (some v),st:=c.st.set i (some (k,u)) }:=ok.dd.of rfl dD (fun a z=>(b1 a z).imp id fun ⟨q1,q2⟩ j z'=>by
  subst q1
  obtain ⟨r',e,_,_,h3,_⟩:=h
  rw [q2] at e
  cases e
  exact h3 (.inr ⟨j,z'⟩)) (.up fun _ z=>z) fun j a z=>⟨(ok.root (.inr ⟨j,z⟩)).1,fun o q=>q⟩
 refine ⟨⟨ok.same,ok.sfr,ok.par,ok.io,by simp [ok.len],fun j k' u' e=>?_,fun j1 j2 k1 k2 u1 u2 r hr1 hr2 e1 e2 e3 e4=>?_,hdd⟩,⟨⟨n.keep,n.there,fun a z=>?_,n.sub,n.new⟩,n.all⟩⟩
 ·by_cases hj:j=i
  ·subst hj
   rw [List.getElem?_set_self hi'] at e
   cases e
   exact ⟨v,by rw [List.getElem?_set_self hi],sl⟩
  ·obtain ⟨v',e1,e2⟩:=ok.sl j k' u' (oth j k' u' e hj)
   exact ⟨v',by rw [List.getElem?_set_ne (Ne.symm hj)];exact e1,e2⟩
 ·have z1:=newR j1 k1 u1 r hr1 e1 e3
  have z2:=newR j2 k2 u2 r hr2 e2 e4
  rcases z1 with ⟨a1,a2,a3⟩|⟨a1,a2,a3⟩
  ·rcases z2 with ⟨b1,b2,b3⟩|⟨b1,b2,b3⟩
   ·exact a1.trans b1.symm
   ·subst a2
    obtain ⟨r',e,h1,h2,h3,h4⟩:=h
    rw [a3] at e
    cases e
    exact (h3 (.inl ⟨j2,k2,u2,hr2,b2,b3⟩)).elim
  ·rcases z2 with ⟨b1,b2,b3⟩|⟨b1,b2,b3⟩
   ·subst b2
    obtain ⟨r',e,h1,h2,h3,h4⟩:=h
    rw [b3] at e
    cases e
    exact (h3 (.inl ⟨j1,k1,u1,hr1,a2,a3⟩)).elim
   ·exact ok.inj j1 j2 k1 k2 u1 u2 r hr1 hr2 a2 b2 a3 b3
 ·rcases z with z|⟨j,u',r',e1,e2,e3⟩
  ·rcases b1 a z with z|⟨a2,a3⟩
   ·exact n.roots a (.inl z)
   ·subst a2
    obtain ⟨r',e,h1,h2,h3,h4⟩:=h
    rw [a3] at e
    cases e
    exact .inr h1
  ·obtain ⟨q1,q2⟩:=dD j u' e1
   exact n.roots a (.inr ⟨j,u',r',q1,q2 ▸ e2,e3⟩)
theorem qj {r:Kd×U}{v:V}{i:Nat}{Post:Unit→ag→Prop} (ok0:Ok C c0) (ok:Ok C c) (n:Nx c0 c) (hi:i<c.σ.length) (hr:aB C c0 c r.1 r.2 v) (h:W (dU i r) c.st Post) :
  ∃ c',c'.σ=c.σ.set i (some v)∧c'.H=c.H∧Ok C c'∧Nx c0 c'∧Post () c'.st:=by
 obtain ⟨k,u⟩:=r
 cases k with
 |own =>
  obtain ⟨x,st',e,hp⟩:=h
  cases e
  obtain ⟨a1,a2⟩:=ok.put n hi (.inl rfl) ok0 hr
  exact ⟨{ c with σ:=c.σ.set i (some v),st:=c.st.set i (some (.own,u)) },rfl,rfl,a1,a2,hp⟩
 |loc =>
  obtain ⟨x,st',e,hp⟩:=h
  cases e
  obtain ⟨a1,a2⟩:=ok.put n hi (.inr (.inl rfl)) ok0 hr
  exact ⟨{ c with σ:=c.σ.set i (some v),st:=c.st.set i (some (.loc,u)) },rfl,rfl,a1,a2,hp⟩
 |any =>
  obtain ⟨x,st',e,hp⟩:=h
  cases e
  obtain ⟨a1,a2⟩:=ok.put n hi (.inr (.inr rfl)) ok0 hr
  exact ⟨{ c with σ:=c.σ.set i (some v),st:=c.st.set i (some (.any,u)) },rfl,rfl,a1,a2,hp⟩
 |io=>exact hr.elim
 |ownD=>exact hr.elim
 |bor j =>
  obtain ⟨x,st',e,hp⟩:=h
  rw [show dU i (.bor j,u) c.st=match c.st[j]? with|some (some (.own,u))=>some (Ex.ok (),(c.st.set j (some (.loc,u))).set i (some (.loc,u)))|_=>none from rfl] at e
  split at e
  ·rename_i w hj
   cases e
   obtain ⟨v',e1,r,er,_⟩:=ok.sl j _ _ hj
   have hv:c.σ[j]?=some (some v):=hr.2
   rw [hv] at e1
   cases e1
   subst er
   obtain ⟨ok',n',rep⟩:=ok.tm n hj hv
   obtain ⟨a1,a2⟩:=Ok.put (c:={ c with S:=fun a=>c.S a∨a=r,st:=c.st.set j (some (.loc,w)) }) ok' n' (k:=.loc) (u:=w) (v:=.ref r) hi (.inr (.inl rfl)) ok0 rep
   exact ⟨{ S:=fun a=>c.S a∨a=r,H:=c.H,σ:=c.σ.set i (some (.ref r)),st:=(c.st.set j (some (.loc,w))).set i (some (.loc,w)),kid:=c.kid },rfl,rfl,a1,a2,hp⟩
  ·cases e
end
end TM
namespace TM
open PySem L2 PyProof.Rows
section
variable {X : Cx} {C : Ct} {pins : List (Addr × Obj)} {s : Shared} {c0 c c1 : Cf}
variable {a b d e o tg : Expr} {es : List Expr} {m ma mb md : M (Kd × U)} {ms : M (List (Kd × U))} {ta tb : M Bool} {pos p p2 apos cpos : Pos}
noncomputable def tG (C:Ct) (t:Bool) (is:List Nat):TG:=fun v σ H Q=>∃ c0 c r,c.σ=σ∧c.H=H∧Ok C c0∧Ok C c∧Nx c0 c∧aB C c0 c r.1 r.2 v∧W (cE t is r) c.st fun _ st' =>
 ∀ c',c'.st=st'→Ok C c'→Nx c0 c'→(∀ j,j∉is→c'.σ[j]?=c.σ[j]?)→c'.σ.length=c.σ.length→Q c'.σ c'.H
structure oV (X:Cx) (e:Expr) (i:Nat):Prop where
 is:∃ x pos,e=.Name x pos∧X.N[i]?=some x∧Loc X.env.scope x∧(X.fn x=true∨X.env.scope.names.lookup x=some .local)
theorem yI {i:Nat} (hN:X.N.Nodup) (h:oV X e i):PG X e (tG C false [i]):=by
 obtain ⟨x,pos,rfl,h1,h2,h3⟩:=h.is
 rintro pins s σ H v u Q I rv ⟨c0,c,r,rfl,rfl,ok0,ok,n,rep,w⟩
 have hi:i<c.σ.length:=by rw [I.len];exact (List.getElem?_eq_some_iff.mp h1).1
 obtain ⟨c',e1,e2,ok',n',q⟩:=qj (r:=r) ok0 ok n hi rep w
 refine pO hN h1 h2 h3 pins s c.σ c.H v u Q I rv ?_
 have z:=q c' rfl ok' n' (fun j hj=>by rw [e1,List.getElem?_set_ne (by intro z;exact hj (by simp [z]))]) (by rw [e1];simp)
 rw [e1,e2] at z
 exact z
noncomputable def gNs:List Nat→TGs
 |[]=>zo
 |i::is=>wO (pN i) (gNs is)
inductive dC (X:Cx):List Expr→List Nat→Prop where
 |nil:dC X [] []
 |cons {e:Expr} {es:List Expr} {i:Nat} {is:List Nat} (h:oV X e i) (t:dC X es is):dC X (e::es) (i::is)
theorem rp (hN:X.N.Nodup) {is:List Nat} (h:dC X es is):PGs X es (gNs is):=by
 induction h with
 |nil=>exact uT
 |cons h t ih =>
  obtain ⟨x,pos,rfl,h1,h2,h3⟩:=h.is
  exact rZ (pO hN h1 h2 h3) ih rfl
theorem oW {is:List Nat} (h:dC X es is):(assignEach es X.env).length=is.length∧(assignEach es X.env).findIdx? (·.1)=none:=by
 induction h with
 |nil=>exact ⟨rfl,rfl⟩
 |cons h t ih =>
  obtain ⟨x,pos,rfl,h1,h2,h3⟩:=h.is
  refine ⟨?_,?_⟩
  ·show (_::_).length=_
   simp [ih.1]
  ·show List.findIdx? _ (_::_)=none
   rw [List.findIdx?_cons,if_neg (by simp),ih.2]
   rfl
theorem qk {k:Kd} (hk:kE k=k) (ok0:Ok C c0):∀ {is:List Nat}{us:List U}{vs:List V}{c:Cf}{Post:Unit→ag→Prop}{Q:L2.St→Hp→Prop},Ok C c→Nx c0 c→(∀ i∈is,i<c.σ.length)→ah C (SK C c k) c.H us vs→W (sets is (us.map fun u=>(k,u))) c.st Post →
  (∀ c',Post () c'.st→Ok C c'→Nx c0 c'→(∀ j,j∉is→c'.σ[j]?=c.σ[j]?)→c'.σ.length=c.σ.length→Q c'.σ c'.H)→gNs is vs c.σ c.H Q
 |[],[],vs,c,Post,Q,ok,n,hi,rep,w,q=>by
  rw [show sets [] (List.map (fun u=>(k,u)) [])=pure () from rfl,af] at w
  exact ⟨rep,q c w ok n (fun _ _=>rfl) rfl⟩
 |[],u::us,vs,c,Post,Q,ok,n,hi,rep,w,q=>(av.mp w).elim
 |i::is,[],vs,c,Post,Q,ok,n,hi,rep,w,q=>(av.mp w).elim
 |i::is,u::us,vs,c,Post,Q,ok,n,hi,rep,w,q=>by
  rw [show sets (i::is) (List.map (fun u=>(k,u)) (u::us))=dU i (k,u) >>= fun _=>sets is (us.map fun u=>(k,u)) from rfl,ab] at w
  obtain ⟨v,r,rfl,h1,h2⟩:=rep
  have hk':k=.own∨k=.loc∨k=.any:=by cases k <;> simp [kE] at hk <;> simp
  have hni:k≠.own:=by cases k <;> simp [kE] at hk <;> simp
  have rt:aB C c0 c k u v:=by rw [←hk];exact aB.item h1
  obtain ⟨a1,a2⟩:=ok.put n (hi i (by simp)) hk' ok0 rt
  have es:dU i (k,u)=fun st=>some (.ok (),st.set i (some (k,u))):=by cases k <;> simp [kE] at hk <;> rfl
  obtain ⟨_,st',e,w'⟩:=w
  rw [es] at e
  cases e
  refine ⟨v,r,rfl,qk (c:={ c with σ:=c.σ.set i (some v),st:=c.st.set i (some (k,u)) }) hk ok0 a1 a2 (fun j hj=>by simpa using hi j (by simp [hj])) (by cases k <;> exact h2) w' fun c' p ok' n' hf hl=>?_⟩
  refine q c' p ok' n' (fun j hj=>?_) (by rw [hl];simp)
  rw [hf j (fun z=>hj (by simp [z])),List.getElem?_set_ne (fun z=>hj (by simp [z]))]
theorem zR {is:List Nat}{kk:Nat} (hc:X.calm=true) (hK:C.K=X.K) (hN:X.N.Nodup) (h:dC X es is) (hl:∀ i∈is,i<X.N.length):PG X (.Tuple es kk pos) (tG C true is):=by
 rintro pins s σ H v u Q I rv ⟨c0,c,r,rfl,rfl,ok0,ok,n,rep,w⟩
 obtain ⟨e1,e2⟩:=oW h
 refine xE hc (rp hN h) e1 e2 pins s c.σ c.H v u Q I rv ?_
 obtain ⟨k,ux⟩:=r
 cases ux with
 |tup us =>
  rw [show cE true is (k,.tup us)=sets is (us.map fun u=>(kE k,u)) from by cases is <;> rfl] at w
  obtain ⟨a',vs,rfl,h1,h2⟩:=rep.tuple ok
  rw [hK] at h1
  have hlen:us.length=is.length:=by
   have aux:∀ (is:List Nat) (l:List (Kd×U)) (st:ag) (P:Unit→ag→Prop),W (sets is l) st P→l.length=is.length:=by
    intro is
    induction is with
    |nil=>intro l st P w;cases l with
     |nil=>rfl
     |cons _ _=>exact (av.mp w).elim
    |cons i is ih=>intro l st P w;cases l with
     |nil=>exact (av.mp w).elim
     |cons x l =>
      rw [show sets (i::is) (x::l)=dU i x >>= fun _=>sets is l from rfl,ab] at w
      obtain ⟨_,_,_,w⟩:=w
      rw [List.length_cons,List.length_cons,ih l _ _ w]
   simpa using aux _ _ _ _ w
  refine ⟨a',vs,rfl,h1,by rw [←h2.len,hlen],?_⟩
  refine qk (k:=kE k) (by cases k <;> rfl) ok0 ok n (fun i hi=>by rw [I.len];exact hl i hi) (by cases k <;> exact h2) w fun c' p ok' n' hf hl'=>p c' rfl ok' n' hf hl'
 |_=>cases is <;> exact (av.mp w).elim
end
end TM
namespace TM
open PySem L2 PyProof.Rows
section
variable {X : Cx} {C : Ct} {pins : List (Addr × Obj)} {s : Shared} {c0 c c1 : Cf}
variable {a b d e o tg iter elt : Expr} {es ifs : List Expr} {m ma mb md me : M (Kd × U)} {ms : M (List (Kd × U))} {ta tb tc : M Bool} {pos p p2 apos cpos : Pos}
theorem rq {α:Type}{k:Nat}{m:M α}{st:ag}{Q:α→ag→Prop}:W (inScope k m) st Q↔W m (List.replicate k none++st) fun a st'=>Q a (st'.drop k):=by
 constructor
 ·rintro ⟨a,st',e,h⟩
  unfold inScope at e
  cases q:m (List.replicate k none++st) with
  |none=>rw [q] at e;cases e
  |some r=>obtain ⟨r1,r2⟩:=r;rw [q] at e;cases e;exact ⟨a,r2,q,h⟩
 ·rintro ⟨a,st',e,h⟩
  exact ⟨a,st'.drop k,by unfold inScope;rw [e],h⟩
noncomputable def Cf.ext (k:Nat) (c:Cf):Cf:={ c with σ:=List.replicate k none++c.σ,st:=List.replicate k none++c.st,kid:=fun j=>c.kid (j - k) }
noncomputable def Cf.cut (k:Nat) (c:Cf):Cf:={ c with σ:=c.σ.drop k,st:=c.st.drop k,kid:=fun j=>c.kid (k+j) }
theorem eI {α:Type}{k j:Nat}{l:List (Option α)}{x:α} (h:(List.replicate k none++l)[j]?=some (some x)):∃ i,j=k+i∧l[i]?=some (some x):=by
 by_cases hj:j<k
 ·rw [List.getElem?_append_left (by simpa using hj)] at h
  rw [List.getElem?_replicate] at h
  rw [if_pos hj] at h
  cases h
 ·refine ⟨j - k,by omega,?_⟩
  rw [List.getElem?_append_right (by simp;omega)] at h
  simpa using h
theorem dE {α:Type}{k i:Nat}{l:List (Option α)}:(List.replicate k none++l)[k+i]?=l[i]?:=by
 rw [List.getElem?_append_right (by simp)]
 simp
theorem tH {k:Nat}{r:Addr}:(c.ext k).R1 r↔c.R1 r:=by
 constructor
 ·rintro ⟨j,kd,u,h1,h2,h3⟩
  obtain ⟨i,rfl,e⟩:=eI h2
  rw [Cf.ext,dE] at h3
  exact ⟨i,kd,u,h1,e,h3⟩
 ·rintro ⟨i,kd,u,h1,h2,h3⟩
  exact ⟨k+i,kd,u,h1,by rw [Cf.ext,dE];exact h2,by rw [Cf.ext,dE];exact h3⟩
theorem lD {k j:Nat}{a:Addr} (h:(c.ext k).RD j a):∃ i,j=k+i∧c.RD i a:=by
 obtain ⟨u,r,e1,e2,e3⟩:=h
 obtain ⟨i,rfl,e⟩:=eI e1
 rw [Cf.ext,dE] at e2
 refine ⟨i,rfl,u,r,e,e2,?_⟩
 have:(c.ext k).kid (k+i)=c.kid i:=by show c.kid (k+i - k)=_;rw [Nat.add_sub_cancel_left]
 rw [this] at e3
 exact e3
theorem zS {k:Nat}{r:Addr} (h:(c.ext k).R r):c.R r:=by
 rcases h with h|⟨j,h⟩
 ·exact .inl (tH.mp h)
 ·obtain ⟨i,_,h⟩:=lD h
  exact .inr ⟨i,h⟩
theorem Ok.ext (k:Nat) (ok:Ok C c):Ok C (c.ext k)∧Nx c (c.ext k):=by
 refine ⟨⟨ok.same,ok.sfr,ok.par,ok.io,by simp [Cf.ext,ok.len],fun j kd u e=>?_,fun i j k1 k2 u u' r h1 h2 e1 e2 e3 e4=>?_,⟨fun j u r e1 e2=>?_,fun i j a z1 z2=>?_,fun j a z1 z2=>?_⟩⟩,⟨⟨fun _ _ h _=>h,fun _ o h=>⟨o,h⟩,fun a h=>.inl (zS h),fun _ h=>h,fun _ h=>.inl h⟩,fun _ _ h=>h⟩⟩
 ·obtain ⟨i,rfl,e'⟩:=eI e
  obtain ⟨v,e1,e2⟩:=ok.sl i kd u e'
  exact ⟨v,by rw [Cf.ext,dE];exact e1,e2⟩
 ·obtain ⟨i',rfl,e1'⟩:=eI e1
  obtain ⟨j',rfl,e2'⟩:=eI e2
  rw [Cf.ext,dE] at e3 e4
  rw [ok.inj i' j' k1 k2 u u' r h1 h2 e1' e2' e3 e4]
 ·obtain ⟨i,rfl,e⟩:=eI e1
  rw [Cf.ext,dE] at e2
  have:(c.ext k).kid (k+i)=c.kid i:=by show c.kid (k+i - k)=_;rw [Nat.add_sub_cancel_left]
  rw [this]
  exact ok.dd.kd i u r e e2
 ·obtain ⟨i',rfl,y1⟩:=lD z1
  obtain ⟨j',rfl,y2⟩:=lD z2
  rw [ok.dd.dj i' j' a y1 y2]
 ·obtain ⟨i,rfl,y1⟩:=lD z1
  exact ok.dd.d1 i a y1 (tH.mp z2)
theorem tI {k:Nat}{a:Addr} (h:(c.cut k).R1 a):c.R1 a:=by
 obtain ⟨j,kd,u,h1,h2,h3⟩:=h
 rw [Cf.cut,List.getElem?_drop] at h2 h3
 exact ⟨k+j,kd,u,h1,h2,h3⟩
theorem lE {k j:Nat}{a:Addr} (h:(c.cut k).RD j a):c.RD (k+j) a:=by
 obtain ⟨u,r,h1,h2,h3⟩:=h
 rw [Cf.cut,List.getElem?_drop] at h1 h2
 exact ⟨u,r,h1,h2,h3⟩
theorem Ok.cut (k:Nat) (ok:Ok C c):Ok C (c.cut k)∧Nx c (c.cut k):=by
 refine ⟨⟨ok.same,ok.sfr,ok.par,ok.io,by simp [Cf.cut,ok.len],fun j kd u e=>?_,fun i j k1 k2 u u' r h1 h2 e1 e2 e3 e4=>?_,⟨fun j u r e1 e2=>?_,fun i j a z1 z2=>?_,fun j a z1 z2=>ok.dd.d1 _ a (lE z1) (tI z2)⟩⟩,⟨⟨fun _ _ h _=>h,fun _ o h=>⟨o,h⟩,fun a h=>.inl (h.elim (fun z=>.inl (tI z)) fun ⟨j,z⟩=>.inr ⟨k+j,lE z⟩),fun _ h=>h,fun _ h=>.inl h⟩,fun _ _ h=>h⟩⟩
 ·rw [Cf.cut,List.getElem?_drop] at e
  obtain ⟨v,e1,e2⟩:=ok.sl _ kd u e
  exact ⟨v,by rw [Cf.cut,List.getElem?_drop];exact e1,e2⟩
 ·rw [Cf.cut,List.getElem?_drop] at e1 e2 e3 e4
  have:=ok.inj _ _ k1 k2 u u' r h1 h2 e1 e2 e3 e4
  omega
 ·rw [Cf.cut,List.getElem?_drop] at e1 e2
  exact ok.dd.kd _ u r e1 e2
 ·have:=ok.dd.dj _ _ a (lE z1) (lE z2)
  omega
theorem vZ {k:Nat}{σ σ':L2.St} (h:∀ j,j∉List.range k→σ'[j]?=(List.replicate k none++σ)[j]?) (hl:σ'.length=(List.replicate k (none:Option V)++σ).length):∃ own:L2.St,own.length=k∧σ'=own++σ:=by
 refine ⟨σ'.take k,by rw [List.length_take,hl];simp,?_⟩
 apply List.ext_getElem?
 intro j
 by_cases hj:j<k
 ·rw [List.getElem?_append_left (by rw [List.length_take,hl];simp;omega),List.getElem?_take,if_pos hj]
 ·rw [h j (by simpa using hj),List.getElem?_append_right (by simp;omega),List.getElem?_append_right (by rw [List.length_take,hl];simp;omega)]
  congr 1
  rw [List.length_take,hl]
  simp
theorem j5 {k:Nat}{t:Bool}{ik:Ik}{Q:VK} (ok:Ok C c0)
  (h:W (ms >>= fun rs=>au rs >>= fun _=>M.ofO (itU ik rs) >>= fun xs=>bB k t tc me rs xs [] >>= fun us=>pure (Kd.own,U.lst us)) c0.st (bW C c0 Q)) :
  sD k (tIt C ik ms) (tG C t (List.range k)) (tTs C tc) (tEv C me) c0.σ c0.H Q:=by
 rw [ab] at h
 refine ⟨c0,rfl,rfl,ok,?_⟩
 rw [ab]
 refine h.mono fun rs st1 h1=>?_
 rw [ab,bR] at h1 ⊢
 refine ⟨h1.1,?_⟩
 have h2:=h1.2
 rw [ab] at h2 ⊢
 refine h2.mono fun xs st2 h3=>?_
 rw [af]
 intro c1 J e1 e2 ok1 n1 hst hw
 rw [ab] at h3
 subst e2
 dsimp only at hst hw
 refine ⟨fun i m ys H=>∃ c acc,c.H=H∧c.σ=c0.σ∧Ok C c∧Nx c1 c∧m=xs.length - i∧i≤xs.length∧ah C c.S c.H acc ys∧acc.length≤sizeLine∧W (bB k t tc me rs (xs.drop i) acc) c.st fun us st'=>W (pure (Kd.own,U.lst us)) st' (bW C c0 Q),⟨xs.length,c1,[],rfl,e1,ok1,Nx.refl c1,by simp,Nat.zero_le _,rfl,Nat.zero_le _,by simpa using h3⟩,?_⟩
 rintro i m ys H ⟨c,acc,rfl,e3,okc,nc,rfl,hi,rep,hlen,w⟩
 refine ⟨by rw [←rep.len];exact hlen,?_⟩
 have fixed:ja rs c1 c:=fun j u _=>by rw [e3,e1]
 by_cases hlt:i<xs.length
 ·right
  rw [List.drop_eq_getElem_cons hlt] at w
  rw [show bB k t tc me rs (xs[i]::xs.drop (i+1)) acc=au rs >>= fun _=>inScope k (cE t (List.range k) xs[i] >>= fun _=>tc >>= fun b=>if b=true then (me >>= fun r=>lift r >>= fun u=>pure (some u)) else pure none) >>= fun r=>match r with|some u=>if acc.length<sizeLine then bB k t tc me rs (xs.drop (i+1)) (acc++[u]) else M.fail|none=>bB k t tc me rs (xs.drop (i+1)) acc from rfl,ab,bR] at w
  obtain ⟨hstab,w⟩:=w
  obtain ⟨wk,_⟩:=hw c okc nc fixed hstab
  obtain ⟨hla,hgo,hyl⟩:=wk i xs[i] (by simp [hlt])
  refine ⟨hgo,fun ys' H'=>∃ c acc,c.H=H'∧c.σ=c0.σ∧Ok C c∧Nx c1 c∧ah C c.S c.H acc ys'∧acc.length≤sizeLine∧W (bB k t tc me rs (xs.drop (i+1)) acc) c.st fun us st'=>W (pure (Kd.own,U.lst us)) st' (bW C c0 Q),fun ys' H' ⟨c',acc',z1,z2,z3,z4,z5,z6,z7⟩=>⟨xs.length - (i+1),by omega,c',acc',z1,z2,z3,z4,rfl,hlt,z5,z6,z7⟩,fun x H' hy=>?_⟩
  obtain ⟨c2,rfl,e4,e5,ok2,n2,rt⟩:=hyl x H' hy
  rw [ab,rq,ab] at w
  obtain ⟨okx,nx⟩:=ok2.ext k
  have rtx:aB C (c2.ext k) (c2.ext k) xs[i].1 xs[i].2 x:=by
   rcases hla with z|z
   ·rw [z] at rt ⊢;exact rt
   ·rw [z] at rt ⊢;exact rt
  have eσ:(c2.ext k).σ=List.replicate k none++c0.σ:=by rw [Cf.ext];show List.replicate k none++c2.σ=_;rw [e4,e3]
  refine ⟨c2.ext k,c2.ext k,xs[i],eσ,rfl,okx,okx,Nx.refl _,rtx,?_⟩
  have est:(c2.ext k).st=List.replicate k none++c.st:=by rw [Cf.ext];show List.replicate k none++c2.st=_;rw [e5]
  rw [est]
  refine w.mono fun _ st3 w3 c3 e6 ok3 n3 hfix hl3=>?_
  subst e6
  rw [eσ] at hfix hl3
  obtain ⟨own,ho1,ho2⟩:=vZ hfix hl3
  refine ⟨own,ho1,ho2,?_⟩
  have nc3:Nx c c3:=(n2.trans nx).trans n3
  rw [ab] at w3
  refine ⟨c3,rfl,rfl,ok3,w3.mono fun b st4 w4 c4 e7 e8 ok4 n4=>?_⟩
  subst e8
  cases b with
  |false =>
   rw [if_neg Bool.false_ne_true] at w4 ⊢
   rw [af] at w4
   obtain ⟨okk,nk⟩:=ok4.cut k
   have nn:Nx c (c4.cut k):=(nc3.trans n4).trans nk
   refine ⟨c4.cut k,acc,rfl,?_,okk,nc.trans nn,rep.mv (okc.mv nn),hlen,w4⟩
   show c4.σ.drop k=_
   rw [e7,ho2,List.drop_left' ho1]
  |true =>
   rw [if_pos rfl] at w4 ⊢
   rw [ab] at w4
   refine ⟨c4,e7,rfl,ok4,w4.mono fun r st5 w5 c5 v e9 e10 ok5 n5 rt5=>?_⟩
   subst e10
   rw [ab] at w5
   obtain ⟨S',st',u,sS,ok6,n6,rep6,w6,_,_⟩:=fV ok4 ok5 n5 rt5.w w5
   rw [af] at w6
   dsimp only at w6
   split at w6
   ·rename_i hz
    obtain ⟨okk,nk⟩:=ok6.cut k
    have nn:Nx c (Cf.cut k { c5 with S:=S',st:=st' }):=((nc3.trans n4).trans n6).trans nk
    refine ⟨Cf.cut k { c5 with S:=S',st:=st' },acc++[u],rfl,?_,okk,nc.trans nn,(rep.mv (okc.mv nn)).snoc rep6,by rw [List.length_append];exact hz,w6⟩
    show c5.σ.drop k=_
    rw [e9,ho2,List.drop_left' ho1]
   ·exact (av.mp w6).elim
 ·left
  have hi':i=xs.length:=by omega
  subst hi'
  rw [List.drop_length,show bB k t tc me rs [] acc=au rs >>= fun _=>pure acc from rfl,ab,bR,af,af] at w
  obtain ⟨_,wk⟩:=hw c okc nc fixed w.1
  exact ⟨wk _ (Nat.le_refl _),fun p hp=>bW.list w.2 e3 okc (n1.trans nc) rep p hp⟩
theorem tJ {N own:List Str}{scope:Scope}{t:Bool}{ik:Ik} (S:cY X N own scope) (hc:X.calm=true) (hi:PI X tg iter (tIt C ik ms))
  (hg:∀ D s H ex,PG (cxC X N scope D s H ex) tg (tG C t (List.range own.length))) (hf:∀ D s H ex,PIf (cxC X N scope D s H ex) ifs (tTs C tc)) (he:∀ D s H ex,PE (cxC X N scope D s H ex) elt (tEv C me))
  (hs:∀ x,foldedSetIterable iter X.env x=pure x) :
  PE X (.ListComp elt [⟨tg,iter,ifs,0⟩] scope pos) (tEv C (ms >>= fun rs=>au rs >>= fun _=>M.ofO (itU ik rs) >>= fun xs=>bB own.length t tc me rs xs [] >>= fun us=>pure (.own,.lst us))):=by
 refine PE.weak (vd S hc hi hg hf he hs) ?_
 rintro σ H Q ⟨c0,rfl,rfl,ok,h⟩
 exact j5 ok h
end
end TM
namespace TM
open PySem L2 PyProof.Rows
section
variable {X : Cx} {C : Ct} {pins : List (Addr × Obj)} {s : Shared} {c0 c c1 : Cf}
variable {a b d e o tg iter elt : Expr} {es ifs : List Expr} {m ma mb md me : M (Kd × U)} {ms : M (List (Kd × U))} {ta tb tc : M Bool} {pos p p2 apos cpos : Pos} {st : Stmt} {rest body : List Stmt} {f g mm : M Fl} {ns ns' : Nat → Bool}
noncomputable def zT (C:Ct) (c:Cf):Kd→U→V→Prop
 |.own,u,v=>∃ r,v=.ref r∧C.H₀ r=none∧¬ c.S r∧¬ c.R r∧cM C c.S c.H r u
 |.loc,u,v=>Rep C c.S c.H u v
 |_,_,_=>False
noncomputable def Fin (C:Ct) (D:Ends) (f:Fl) (c:Cf):Prop:=match f with
 |.nx=>D.nx c.σ c.H
 |.bk=>D.bk c.σ c.H
 |.ct=>D.ct c.σ c.H
 |.rt k u=>∀ v,zT C c k u v→D.rt v c.H
noncomputable def Kept (ns:Nat→Bool) (c c':Cf):Prop:=(∀ j,ns j=true→c'.σ[j]?=c.σ[j]?)∧c'.σ.length=c.σ.length
theorem Kept.refl:Kept ns c c:=⟨fun _ _=>rfl,rfl⟩
theorem Kept.trans {c' c'':Cf} (h:Kept ns c c') (h':Kept ns c' c''):Kept ns c c'':=⟨fun j z=>(h'.1 j z).trans (h.1 j z),h'.2.trans h.2⟩
theorem Kept.le {c':Cf} (i:∀ j,ns' j=true→ns j=true) (h:Kept ns c c'):Kept ns' c c':=⟨fun j z=>h.1 j (i j z),h.2⟩
theorem Kept.of {c':Cf} (h:c'.σ=c.σ):Kept ns c c':=⟨fun j z=>by rw [h],by rw [h]⟩
noncomputable def jb (C:Ct) (c0:Cf) (ns:Nat→Bool) (D:Ends) (f:Fl) (st':ag):Prop:=∀ c,c.st=st'→Ok C c→Ns c0 c→Kept ns c0 c→Fin C D f c
noncomputable def tEx (C:Ct) (ns:Nat→Bool) (m:M Fl):TS:=fun D σ H=>∃ c0:Cf,c0.σ=σ∧c0.H=H∧Ok C c0∧W m c0.st (jb C c0 ns D)
theorem oX {D:Ends} (ok:Ok C c1) (n:Ns c0 c1) (k:Kept ns c0 c1) (h:W mm c1.st (jb C c0 ns D)):tEx C ns mm D c1.σ c1.H :=
 ⟨c1,rfl,rfl,ok,h.mono fun f st h2 c2 e ok2 n2 k2=>h2 c2 e ok2 (n.trans n2) (k.trans k2)⟩
theorem PS.weak {t t':TS} (h:L2.PS X st t) (i:∀ D σ H,t' D σ H→t D σ H):L2.PS X st t':=fun pins s σ H D I q=>h pins s σ H D I (i D σ H q)
theorem PSs.weak {t t':TS} (h:PSs X rest t) (i:∀ D σ H,t' D σ H→t D σ H):PSs X rest t':=fun pins s σ H D I q=>h pins s σ H D I (i D σ H q)
theorem lF {D:Ends}{σ:L2.St}{H:Hp} (i:∀ j,ns' j=true→ns j=true) (h:tEx C ns' mm D σ H):tEx C ns mm D σ H :=
 let ⟨c0,e1,e2,ok,w⟩:=h;⟨c0,e1,e2,ok,w.mono fun f st h2 c2 e ok2 n2 k2=>h2 c2 e ok2 n2 (k2.le i)⟩
theorem zU:PSs X [] (tEx C ns (pure .nx)):=by
 refine PSs.weak uQ ?_
 rintro D σ H ⟨c0,rfl,rfl,ok,h⟩
 rw [af] at h
 exact h c0 rfl ok (Ns.refl c0) Kept.refl
noncomputable def v3 (m:M Fl) (f:Fl):M Fl:=match f with
 |.nx=>m
 |f=>pure f
theorem yJ (h1:L2.PS X st (tEx C ns f)) (h2:PSs X rest (tEx C ns g)):PSs X (st::rest) (tEx C ns (f >>= v3 g)):=by
 refine PSs.weak (rX h1 h2) ?_
 rintro D σ H ⟨c0,rfl,rfl,ok,h⟩
 rw [ab] at h
 refine ⟨c0,rfl,rfl,ok,h.mono fun fl st1 w c1 e ok1 n1 k1=>?_⟩
 subst e
 cases fl with
 |nx=>exact oX ok1 n1 k1 w
 |bk=>rw [show v3 g .bk=pure .bk from rfl,af] at w;exact w c1 rfl ok1 n1 k1
 |ct=>rw [show v3 g .ct=pure .ct from rfl,af] at w;exact w c1 rfl ok1 n1 k1
 |rt k u=>rw [show v3 g (.rt k u)=pure (.rt k u) from rfl,af] at w;exact w c1 rfl ok1 n1 k1
theorem zV:L2.PS X (.Break pos) (tEx C ns (pure .bk)):=by
 refine PS.weak rY ?_
 rintro D σ H ⟨c0,rfl,rfl,ok,h⟩
 rw [af] at h
 exact h c0 rfl ok (Ns.refl c0) Kept.refl
theorem zW:L2.PS X (.Continue pos) (tEx C ns (pure .ct)):=by
 refine PS.weak mE ?_
 rintro D σ H ⟨c0,rfl,rfl,ok,h⟩
 rw [af] at h
 exact h c0 rfl ok (Ns.refl c0) Kept.refl
theorem zX:L2.PS X (.Pass pos) (tEx C ns (pure .nx)):=by
 refine PS.weak uR ?_
 rintro D σ H ⟨c0,rfl,rfl,ok,h⟩
 rw [af] at h
 exact h c0 rfl ok (Ns.refl c0) Kept.refl
theorem zY (ha:PE X a (tEv C ma)) (hs:swapsWith a none pos.line X.env=pure false):L2.PS X (.Expr a pos) (tEx C ns (ma >>= fun _=>pure .nx)):=by
 refine PS.weak (fA ha hs) ?_
 rintro D σ H ⟨c0,rfl,rfl,ok,h⟩
 refine aA ok h fun x c v t w=>?_
 rw [af] at w
 have:=w c rfl t.ok t.nx (Kept.of t.hσ)
 rw [←t.hσ]
 exact this
theorem yK:L2.PS X (.Return none pos) (tEx C ns (pure (.rt .loc .non))):=by
 refine PS.weak uS ?_
 rintro D σ H ⟨c0,rfl,rfl,ok,h⟩
 rw [af] at h
 exact h c0 rfl ok (Ns.refl c0) Kept.refl .non rfl
theorem zZ (ha:PE X a (tEv C ma)):L2.PS X (.Return (some a) pos) (tEx C ns (ma >>= retS)):=by
 refine PS.weak (xD ha) ?_
 rintro D σ H ⟨c0,rfl,rfl,ok,h⟩
 refine aA ok h fun x c v t w=>?_
 obtain ⟨k,u⟩:=x
 obtain ⟨hσ,okc,n,r⟩:=t
 cases k with
 |own =>
  rw [show retS (.own,u)=pure (.rt .own u) from rfl,af] at w
  obtain ⟨r0,e,h1,h2,h3,h4⟩:=r
  exact w c rfl okc n (Kept.of hσ) v ⟨r0,e,(ok.jE h1).1,h2,h3,h4⟩
 |loc =>
  rw [show retS (.loc,u)=pure (.rt .loc u) from rfl,af] at w
  exact w c rfl okc n (Kept.of hσ) v r
 |any =>
  rw [show retS (.any,u)=if imm u=true then pure (.rt .loc u) else M.fail from rfl] at w
  split at w
  ·rw [af] at w
   exact w c rfl okc n (Kept.of hσ) v (Rep.imm (by assumption) r)
  ·exact (av.mp w).elim
 |io=>exact r.elim
 |ownD=>exact r.elim
 |bor j =>
  obtain ⟨fl,st',e,w⟩:=w
  rw [show retS (.bor j,u) c.st=match c.st[j]? with|some (some (.own,u))=>some (Ex.ok (Fl.rt .own u),c.st.set j none)|_=>none from rfl] at e
  split at e
  ·rename_i u' hj
   cases e
   have hjl:j<c.st.length:=(List.getElem?_eq_some_iff.mp hj).1
   have oth:∀ (i:Nat) k u',(c.st.set j none)[i]?=some (some (k,u'))→i≠j∧c.st[i]?=some (some (k,u')):=fun i k u' e=>by
    by_cases hij:i=j
    ·subst hij;rw [List.getElem?_set_self hjl] at e;cases e
    ·rw [List.getElem?_set_ne (Ne.symm hij)] at e;exact ⟨hij,e⟩
   obtain ⟨v',e1,r0,er,q1,q2,q3,q4⟩:=okc.sl j _ _ hj
   have hv:c.σ[j]?=some (some v):=r.2
   rw [hv] at e1
   cases e1
   subst er
   have hR1:∀ a,({ c with st:=c.st.set j none }:Cf).R1 a→c.R1 a:=fun a ⟨i,k,u2,hk,e1,e2⟩=>⟨i,k,u2,hk,(oth i k u2 e1).2,e2⟩
   have hR:∀ a,({ c with st:=c.st.set j none }:Cf).R a→c.R a:=fun a z=>z.elim (fun z=>.inl (hR1 a z)) fun ⟨i,u2,r2,e1,e2,e3⟩=>.inr ⟨i,u2,r2,(oth i .ownD u2 e1).2,e2,e3⟩
   have hdd:DOk C { c with st:=c.st.set j none }:=okc.dd.of rfl (fun i u2 e=>⟨(oth i .ownD u2 e).2,rfl⟩) (fun a z=>.inl (hR1 a z)) (.up fun _ z=>z) fun i a z=>⟨(okc.root (.inr ⟨i,z⟩)).1,fun o q=>q⟩
   have okn:Ok C { c with st:=c.st.set j none }:=⟨okc.same,okc.sfr,okc.par,okc.io,by simp [okc.len],fun i k u2 e=>okc.sl i k u2 (oth i k u2 e).2,fun i i' k k' u1 u2 r hk hk' e1 e2 e3 e4=>okc.inj i i' k k' u1 u2 r hk hk' (oth i k u1 e1).2 (oth i' k' u2 e2).2 e3 e4,hdd⟩
   have nn:Ns c0 { c with st:=c.st.set j none }:=⟨n.keep,n.there,fun a z=>n.roots a (hR a z),n.sub,n.new⟩
   refine w { c with st:=c.st.set j none } rfl okn nn (Kept.of hσ) (.ref r0) ⟨r0,rfl,q3,q1,fun z=>?_,q4⟩
   ·rcases z with ⟨i,k,u2,hk,e1,e2⟩|⟨i,u2,r2,e1,e2,e3⟩
    ·obtain ⟨ne,e1'⟩:=oth i k u2 e1
     exact ne (okc.inj i j k .own u2 _ r0 hk rfl e1' hj e2 hv)
    ·exact okc.dd.d1 i r0 ⟨u2,r2,(oth i .ownD u2 e1).2,e2,e3⟩ ⟨j,.own,_,rfl,hj,hv⟩
  ·cases e
end
end TM
namespace TM
open PySem L2 PyProof.Rows
section
variable {X : Cx} {C : Ct} {pins : List (Addr × Obj)} {s : Shared} {c0 c c1 : Cf}
variable {a b d e o tg iter elt : Expr} {es ifs : List Expr} {m ma mb md me : M (Kd × U)} {ms : M (List (Kd × U))} {ta tb tc : M Bool} {pos p p2 apos cpos : Pos} {st : Stmt} {rest body : List Stmt} {f g mm : M Fl} {ns ns' : Nat → Bool}
theorem m7 {i:Nat}{D:Ends}{r:Kd×U}{v:V} (hns:∀ j,ns j=true→j≠i) (ok0:Ok C c0) (t:At1 C c0 c r v) (hi:i<c.σ.length) (w:W (dU i r >>= fun _=>(pure .nx:M Fl)) c.st (jb C c0 ns D)):D.nx (c0.σ.set i (some v)) c.H:=by
 rw [ab] at w
 obtain ⟨c',e1,e2,ok',n',q⟩:=qj (r:=r) ok0 t.ok t.nx hi t.rx w
 rw [af] at q
 have z:=q c' rfl ok' n' ⟨fun j hj=>by rw [e1,t.hσ,List.getElem?_set_ne (Ne.symm (hns j hj))],by rw [e1,t.hσ];simp⟩
 have z':D.nx c'.σ c'.H:=z
 rw [e1,e2,t.hσ] at z'
 exact z'
theorem wY {i:Nat}{x:Str}{pos':Pos} (hns:∀ j,ns j=true→j≠i) (hN:X.N.Nodup) (hi:X.N[i]?=some x) (hx:Loc X.env.scope x) (hf:X.fn x=true∨X.env.scope.names.lookup x=some .local) (ha:PE X a (tEv C ma))
  (hs:swapsWith a (some (.Name x pos')) pos.line X.env=pure false):L2.PS X (.Assign [.Name x pos'] a pos) (tEx C ns (ma >>= fun r=>dU i r >>= fun _=>pure .nx)):=by
 rintro pins s σ H D I ⟨c0,rfl,rfl,ok,h⟩
 have hil:i<c0.σ.length:=by rw [I.len];exact (List.getElem?_eq_some_iff.mp hi).1
 exact r9 hN hi hx ha hs hf pins s c0.σ c0.H D I (aA ok h fun r c v t w=>m7 hns ok t (by rw [t.hσ];exact hil) w)
theorem yL {N own:List Str}{scope:Scope}{t:Bool}{ik:Ik}{i:Nat}{y:Str}{py spos:Pos} (hns:∀ j,ns j=true→j≠i) (S:cY X N own scope) (hc:X.calm=true) (hN:X.N.Nodup) (hiN:X.N[i]?=some y) (hy:X.env.scope.names.lookup y=some .local)
  (hi:PI X tg iter (tIt C ik ms)) (hg:∀ D s H ex,PG (cxC X N scope D s H ex) tg (tG C t (List.range own.length))) (hf:∀ D s H ex,PIf (cxC X N scope D s H ex) ifs (tTs C tc)) (he:∀ D s H ex,PE (cxC X N scope D s H ex) elt (tEv C me))
  (hsw:swapsWith (.ListComp elt [⟨tg,iter,ifs,0⟩] scope pos) (some (.Name y py)) spos.line X.env=pure true) (hs:∀ x,foldedSetIterable iter X.env x=pure x) :
  L2.PS X (.Assign [.Name y py] (.ListComp elt [⟨tg,iter,ifs,0⟩] scope pos) spos)
   (tEx C ns ((ms >>= fun rs=>au rs >>= fun _=>M.ofO (itU ik rs) >>= fun xs=>bB own.length t tc me rs xs [] >>= fun us=>pure (.own,.lst us)) >>= fun r=>dU i r >>= fun _=>pure .nx)):=by
 rintro pins s σ H D I ⟨c0,rfl,rfl,ok,h⟩
 have hil:i<c0.σ.length:=by rw [I.len];exact (List.getElem?_eq_some_iff.mp hiN).1
 refine vf S hc hN hiN hy hi hg hf he hsw hs pins s c0.σ c0.H D I ?_
 rw [ab] at h
 refine j5 ok (h.mono fun r st1 w c v e1 e2 okc n rt=>?_)
 subst e2
 exact m7 hns ok ⟨e1,okc,n,rt⟩ (by rw [e1];exact hil) w
theorem yM {is:List Nat} (hns:∀ j,ns j=true→j∉is) (ha:PE X a (tEv C ma)) (hg:PG X tg (tG C true is)) (hs:swapsWithSole [tg] a pos.line X.env=pure false) (hw:swappedStores [tg] a X.env=pure none) (h1:(assignEach [tg] X.env).map (·.2)=[assign tg X.env]) :
  L2.PS X (.Assign [tg] a pos) (tEx C ns (ma >>= fun r=>cE true is r >>= fun _=>pure .nx)):=by
 refine PS.weak (og ha hg hs hw h1) ?_
 rintro D σ H ⟨c0,rfl,rfl,ok,h⟩
 refine aA ok h fun r c v t w=>?_
 rw [ab] at w
 refine ⟨c0,c,r,t.hσ,rfl,ok,t.ok,t.nx,t.rx,w.mono fun _ st1 w1 c' e ok' n' hf hl=>?_⟩
 subst e
 rw [af] at w1
 exact w1 c' rfl ok' n' ⟨fun j hj=>by rw [hf j (hns j hj),t.hσ],by rw [hl,t.hσ]⟩
theorem z_ {ca cb:List Stmt} (hc:PT X a (tTs C ta)) (h1:PSs X ca (tEx C ns f)) (h2:PSs X cb (tEx C ns g)):L2.PS X (.If a ca cb pos) (tEx C ns (ta >>= fun p=>if p=true then f else g)):=by
 refine PS.weak (zm hc h1 h2) ?_
 rintro D σ H ⟨c0,rfl,rfl,ok,h⟩
 refine d8 ok h fun p c hσ okc n w=>?_
 have e:c0.σ=c.σ:=hσ.symm
 rw [e]
 cases p with
 |true=>rw [if_pos rfl] at w ⊢;exact oX okc n (Kept.of hσ) w
 |false=>rw [if_neg Bool.false_ne_true] at w ⊢;exact oX okc n (Kept.of hσ) w
theorem Aa (hp:PassesOwn (model X.prog X.w) X.A X.env X.xe) (hc:PT X a (tTs C ta)) (hb:PSs X body (tEx C ns f)) {n:Nat}:L2.PS X (.While a body [] pos) (tEx C ns (fj ta f n)):=by
 refine PS.weak (r_ hp hc hb) ?_
 rintro D σ H ⟨c0,rfl,rfl,ok,h⟩
 refine ⟨fun m σ' H'=>∃ c,c.H=H'∧c.σ=σ'∧Ok C c∧Ns c0 c∧Kept ns c0 c∧W (fj ta f m) c.st (jb C c0 ns D),⟨n,c0,rfl,rfl,ok,Ns.refl c0,Kept.refl,h⟩,?_⟩
 rintro m σ' H' ⟨c,rfl,rfl,okc,nc,kc,w⟩
 cases m with
 |zero=>exact (av.mp w).elim
 |succ m =>
  rw [show fj ta f (m+1)=ta >>= fun b=>if b=true then (f >>= fun f'=>match f' with|.nx=>fj ta f m|.ct=>fj ta f m|.bk=>pure .nx|.rt k u=>pure (.rt k u)) else pure .nx from rfl] at w
  refine d8 okc w fun p c2 hσ ok2 n2 w2=>?_
  have k2:Kept ns c c2:=Kept.of hσ
  rw [←hσ]
  cases p with
  |false =>
   rw [if_neg Bool.false_ne_true] at w2 ⊢
   rw [af] at w2
   exact w2 c2 rfl ok2 (nc.trans n2) (kc.trans k2)
  |true =>
   rw [if_pos rfl] at w2 ⊢
   refine ⟨fun σ'' H''=>∃ c,c.H=H''∧c.σ=σ''∧Ok C c∧Ns c0 c∧Kept ns c0 c∧W (fj ta f m) c.st (jb C c0 ns D),fun σ'' H'' z=>⟨m,Nat.lt_succ_self m,z⟩,?_⟩
   rw [ab] at w2
   refine ⟨c2,rfl,rfl,ok2,w2.mono fun fl st3 w3 c3 e ok3 n3 k3=>?_⟩
   subst e
   have n03:=(nc.trans n2).trans n3
   have k03:=(kc.trans k2).trans k3
   cases fl with
   |nx=>exact ⟨c3,rfl,rfl,ok3,n03,k03,w3⟩
   |ct=>exact ⟨c3,rfl,rfl,ok3,n03,k03,w3⟩
   |bk=>rw [af] at w3;exact w3 c3 rfl ok3 n03 k03
   |rt k u=>rw [af] at w3;exact w3 c3 rfl ok3 n03 k03
theorem Ab {t:Bool}{is:List Nat}{ik:Ik}{sb:List S} (hp:PassesOwn (model X.prog X.w) X.A X.env X.xe) (hc:X.calm=true) (hi:PI X tg iter (tIt C ik ms)) (hg:PG X tg (tG C t is)) (hb:PSs X body (tEx C (nsL sb) f)) (hs:∀ x,foldedSetIterable iter X.env x=pure x)
  (hns:∀ j,ns j=true→j∉is∧nsL sb j=true) :
  L2.PS X (.For tg iter body [] pos) (tEx C ns (ms >>= fun rs=>au rs >>= fun _=>M.ofO (itU ik rs) >>= fun xs=>if qa rs is sb=true then forM t is f rs xs else M.fail)):=by
 refine PS.weak (xK hp hc hi hg hb hs) ?_
 rintro D σ H ⟨c0,rfl,rfl,ok,h⟩
 rw [ab] at h
 refine ⟨c0,rfl,rfl,ok,?_⟩
 rw [ab]
 refine h.mono fun rs st1 h1=>?_
 rw [ab,bR] at h1 ⊢
 refine ⟨h1.1,?_⟩
 have h2:=h1.2
 rw [ab] at h2 ⊢
 refine h2.mono fun xs st2 h3=>?_
 rw [af]
 intro c1 J e1 e2 ok1 n1 hst hw
 subst e2
 dsimp only at hst hw
 split at h3
 ·rename_i hsrc
  have srcK:∀ j u,(Kd.bor j,u)∈rs→j∉is∧nsL sb j=true:=fun j u hm=>by
   have:=List.all_eq_true.mp hsrc _ hm
   simpa using this
  refine ⟨fun i m σ' H'=>∃ c,c.H=H'∧c.σ=σ'∧Ok C c∧Ns c1 c∧Kept ns c0 c∧ja rs c1 c∧m=xs.length - i∧i≤xs.length∧W (forM t is f rs (xs.drop i)) c.st (jb C c0 ns D),
   ⟨xs.length,c1,rfl,e1,ok1,Ns.refl c1,Kept.of e1,fun _ _ _=>rfl,by simp,Nat.zero_le _,by simpa using h3⟩,?_⟩
  rintro i m σ' H' ⟨c,rfl,rfl,okc,nc,kc,fx,rfl,hi',w⟩
  by_cases hlt:i<xs.length
  ·right
   rw [List.drop_eq_getElem_cons hlt,show forM t is f rs (xs[i]::xs.drop (i+1))=au rs >>= fun _=>cE t is xs[i] >>= fun _=>f >>= fun f'=>match f' with|.nx=>forM t is f rs (xs.drop (i+1))|.ct=>forM t is f rs (xs.drop (i+1))|.bk=>pure .nx|.rt k u=>pure (.rt k u) from rfl,ab,bR] at w
   obtain ⟨hstab,w⟩:=w
   obtain ⟨wk,_⟩:=hw c okc nc fx hstab
   obtain ⟨hla,hgo,hyl⟩:=wk i xs[i] (by simp [hlt])
   refine ⟨hgo,fun σ' H'=>∃ c,c.H=H'∧c.σ=σ'∧Ok C c∧Ns c1 c∧Kept ns c0 c∧ja rs c1 c∧W (forM t is f rs (xs.drop (i+1))) c.st (jb C c0 ns D),fun σ' H' ⟨c',z1,z2,z3,z4,z5,z6,z7⟩=>⟨xs.length - (i+1),by omega,c',z1,z2,z3,z4,z5,z6,rfl,hlt,z7⟩,fun x H' hy=>?_⟩
   obtain ⟨c2,rfl,e4,e5,ok2,n2,rt⟩:=hyl x H' hy
   rw [ab] at w
   have rt':aB C c2 c2 xs[i].1 xs[i].2 x:=by
    rcases hla with z|z
    ·rw [z] at rt ⊢;exact rt
    ·rw [z] at rt ⊢;exact rt
   refine ⟨c2,c2,xs[i],e4,rfl,ok2,ok2,Nx.refl c2,rt',?_⟩
   rw [e5]
   refine w.mono fun _ st3 w3 c3 e6 ok3 n3 hf3 hl3=>?_
   subst e6
   rw [ab] at w3
   refine ⟨c3,rfl,rfl,ok3,w3.mono fun fl st4 w4 c4 e ok4 n4 k4=>?_⟩
   subst e
   have n14:Ns c1 c4:=((nc.trans n2.toNs).trans n3.toNs).trans n4
   have k04:Kept ns c0 c4:=by
    refine kc.trans ⟨fun j hj=>?_,by rw [k4.2,hl3,e4]⟩
    obtain ⟨j1,j2⟩:=hns j hj
    rw [k4.1 j j2,hf3 j j1,e4]
   have f14:ja rs c1 c4:=fun j u hm=>by
    obtain ⟨j1,j2⟩:=srcK j u hm
    rw [k4.1 j j2,hf3 j j1,e4]
    exact fx j u hm
   cases fl with
   |nx=>exact ⟨c4,rfl,rfl,ok4,n14,k04,f14,w4⟩
   |ct=>exact ⟨c4,rfl,rfl,ok4,n14,k04,f14,w4⟩
   |bk=>rw [af] at w4;exact w4 c4 rfl ok4 (n1.toNs.trans n14) k04
   |rt k u=>rw [af] at w4;exact w4 c4 rfl ok4 (n1.toNs.trans n14) k04
  ·left
   have hi2:i=xs.length:=by omega
   subst hi2
   rw [List.drop_length,show forM t is f rs []=au rs >>= fun _=>pure .nx from rfl,ab,bR,af] at w
   obtain ⟨_,wk⟩:=hw c okc nc fx w.1
   exact ⟨wk _ (Nat.le_refl _),w.2 c rfl okc (n1.toNs.trans nc) kc⟩
 ·exact (av.mp h3).elim
end
end TM
namespace TM
open PySem L2 PyProof.Rows
section
variable {X : Cx} {C : Ct} {pins : List (Addr × Obj)} {s : Shared} {c0 c c1 : Cf}
variable {a b d e o tg iter elt : Expr} {es ifs : List Expr} {m ma mb md me : M (Kd × U)} {ms : M (List (Kd × U))} {ta tb tc : M Bool} {pos p p2 apos cpos : Pos} {st : Stmt} {rest body : List Stmt} {f g mm : M Fl} {ns ns' : Nat → Bool}
theorem Ok.mod (ok:Ok C c) (n:Ns c0 c) {i:Nat}{k:Kd}{u u':U}{r:Addr}{H':Hp} (hk:k.root=true) (hi:c.st[i]?=some (some (k,u))) (hv:c.σ[i]?=some (some (.ref r))) (hne:∀ a,a≠r→H' a=c.H a) (hr:∃ o,H' r=some o)
  (new:Mv c.S c.H c.S H'→cM C c.S H' r u'):Ok C { c with H:=H',st:=c.st.set i (some (k,u')) }∧Ns c0 { c with H:=H',st:=c.st.set i (some (k,u')) }:=by
 have hR1:c.R1 r:=⟨i,k,u,hk,hi,hv⟩
 have hR:c.R r:=.inl hR1
 obtain ⟨q1,q2,q3,o,ho,hnt⟩:=ok.root hR
 have hil:i<c.st.length:=(List.getElem?_eq_some_iff.mp hi).1
 have kp:∀ {a:Addr} {o':HO},a≠r→c.H a=some o'→H' a=some o':=fun ne e=>by rw [hne _ ne];exact e
 have mv:Mv c.S c.H c.S H':=⟨fun _ z=>z,fun a o' e t=>kp (fun z=>by subst z;rw [ho] at e;cases e;exact hnt t) e,fun a o' z e=>kp (fun z'=>q1 (z' ▸ z)) e⟩
 have mvP:Mv (PS C c.S) c.H (PS C c.S) H':=⟨fun _ z=>z,mv.tps,fun a o' z e=>kp (fun z'=>by subst z';exact z.elim q2 q1) e⟩
 have oth:∀ (j:Nat) k' w,(c.st.set i (some (k,u')))[j]?=some (some (k',w))→j≠i→c.st[j]?=some (some (k',w)):=fun j k' w e ne=>by rw [List.getElem?_set_ne (Ne.symm ne)] at e;exact e
 have back:∀ (j:Nat) k' w,k'.root=true→(c.st.set i (some (k,u')))[j]?=some (some (k',w))→∃ w',c.st[j]?=some (some (k',w')):=fun j k' w _ e=>by
  by_cases hj:j=i
  ·subst hj;rw [List.getElem?_set_self hil] at e;cases e;exact ⟨u,hi⟩
  ·exact ⟨w,oth j k' w e hj⟩
 have b1:∀ a,({ c with H:=H',st:=c.st.set i (some (k,u')) }:Cf).R1 a→c.R1 a:=fun a hIx=>by
  obtain ⟨j,k',w,h1,e1,e2⟩:=hIx
  obtain ⟨w',a1⟩:=back j k' w h1 e1
  exact ⟨j,k',w',h1,a1,e2⟩
 have dD:∀ (j:Nat) (w:U),(c.st.set i (some (k,u')))[j]?=some (some (.ownD,w))→c.st[j]?=some (some (.ownD,w)):=fun j w e=>by
  by_cases hj:j=i
  ·subst hj;rw [List.getElem?_set_self hil] at e;cases e;cases hk
  ·exact oth j .ownD w e hj
 have hdd:DOk C { c with H:=H',st:=c.st.set i (some (k,u')) }:=ok.dd.of rfl (fun j w e=>⟨dD j w e,rfl⟩) (fun a z=>.inl (b1 a z)) mv fun j a z=>⟨(ok.root (.inr ⟨j,z⟩)).1,fun o' e=>kp (fun z'=>ok.dd.d1 j a z (z' ▸ hR1)) e⟩
 refine ⟨⟨fun a o' e z=>?_,fun a z=>?_,ok.par,fun a z=>?_,by simp [ok.len],fun j k' w e=>?_,fun j1 j2 k1 k2 w1 w2 r' h1 h2 e1 e2 e3 e4=>?_,hdd⟩,n.trans ⟨fun a o' e z=>kp (fun z'=>z (z' ▸ hR)) e,fun a o' e=>?_,fun a z=>?_,fun _ z=>z,fun _ z=>.inl z⟩⟩
 ·have h1:=ok.same a o' e z
  refine kp (fun z'=>?_) h1
  subst z'
  rcases q3 with q3|q3
  ·rw [e] at q3;cases q3
  ·exact z q3
 ·obtain ⟨h1,o',h2⟩:=ok.sfr a z
  exact ⟨h1,o',kp (fun z'=>q1 (z' ▸ z)) h2⟩
 ·obtain ⟨h1,o',h2⟩:=ok.io a z
  refine ⟨h1,?_⟩
  by_cases ha:a=r
  ·subst ha;exact hr
  ·exact ⟨o',kp ha h2⟩
 ·by_cases hj:j=i
  ·subst hj
   rw [List.getElem?_set_self hil] at e
   cases e
   obtain ⟨v,e1,e2⟩:=ok.sl j _ _ hi
   rw [hv] at e1
   cases e1
   refine ⟨.ref r,hv,?_⟩
   have nr:=new mv
   cases k with
   |own=>obtain ⟨r',er,z1,z2,z3,_⟩:=e2;cases er;exact ⟨r,rfl,z1,z2,z3,nr⟩
   |io=>obtain ⟨r',er,z1,z2,z3,_⟩:=e2;cases er;exact ⟨r,rfl,z1,z2,z3,nr⟩
   |_=>cases hk
  ·have e0:=oth j k' w e hj
   obtain ⟨v,e1,e2⟩:=ok.sl j k' w e0
   refine ⟨v,e1,e2.mv mv mvP fun hk' r' er=>?_⟩
   obtain ⟨r'',er',z1,_⟩:=e2.rt hk'
   rw [er] at er'
   cases er'
   refine ⟨z1,fun o' e=>kp (fun z=>?_) e⟩
   subst z
   exact hj (ok.inj j i k' k w u r' hk' hk e0 hi (by rw [e1,er]) hv)
 ·obtain ⟨w1',a1⟩:=back j1 k1 w1 h1 e1
  obtain ⟨w2',a2⟩:=back j2 k2 w2 h2 e2
  exact ok.inj j1 j2 k1 k2 w1' w2' r' h1 h2 a1 a2 e3 e4
 ·by_cases ha:a=r
  ·subst ha;exact hr
  ·exact ⟨o',kp ha e⟩
 ·rcases z with z|⟨j,w,r',e1,e2,e3⟩
  ·exact .inl (.inl (b1 a z))
  ·exact .inl (.inr ⟨j,w,r',dD j w e1,e2,e3⟩)
theorem dm {i:Nat}{f:U→Option U}{st:ag}{Q:Unit→ag→Prop} (h:W (modS i f) st Q):∃ k u u',k.root=true∧st[i]?=some (some (k,u))∧f u=some u'∧Q () (st.set i (some (k,u'))):=by
 obtain ⟨_,st',e,q⟩:=h
 unfold modS at e
 split at e
 ·rename_i k u hs
  split at e
  ·rename_i hk
   cases e2:f u with
   |none=>rw [e2] at e;cases e
   |some u'=>rw [e2] at e;cases e;exact ⟨k,u,u',hk,hs,e2,q⟩
  ·cases e
 ·cases e
theorem cH {i:Nat}{st:ag}{Q:Kd×U→ag→Prop} (h:W (cT i) st Q):∃ k u,k≠.ownD∧st[i]?=some (some (k,u))∧Q (if k.root=true then .bor i else k,u) st:=by
 obtain ⟨r,st',e,q⟩:=h
 unfold cT at e
 split at e
 ·cases e
 ·rename_i k u hnD hs;cases e;exact ⟨k,u,fun z=>hnD z,hs,q⟩
 ·cases e
theorem Ac (hK:C.K=X.K) {i:Nat}{x:Str}{px:Pos} (hN:X.N[i]?=some x) (hv:Vis X.env.scope x) (hd:(x==("__debug__":Str))=false) (hcd:(x==("__classdict__":Str))=false) (ha:PE X a (tEv C ma))
  (hfew:((backTo cpos (starEach [a] X.env)).all (fun x=>!x.1)&&(backToKw cpos (keywordEach [] X.env)).all (fun x=>x.1.isSome)
   && decide ([a].length+([]:List Keyword).length+(if ([]:List Keyword).isEmpty then 0 else 1)<30))=true)
  (hline:(apos.endLine==cpos.line)=true) (hst:starEach [a] X.env=[(false,eval a X.env)]) :
  L2.PS X (.Expr (.Call (.Attribute (.Name x px) "append" apos) [a] [] cpos) pos) (tEx C ns (cT i >>= fun x=>isL x.2 >>= fun _=>ma >>= fun r=>lift r >>= fun u=>modS i (sX u) >>= fun _=>pure .nx)):=by
 refine PS.weak (fA (sj PySem.F.plainAttrs_list PySem.F.slot_list_append PySem.F.type_list_append jR (bT hN hv hd hcd) (eF ha iz hst) rfl hfew hline hst rfl)) ?_
 rintro D σ H ⟨c0,rfl,rfl,ok,h⟩
 rw [ab] at h
 obtain ⟨k0,u0,hnD0,hs0,h⟩:=cH h
 obtain ⟨v0,e0,sl0⟩:=ok.sl i k0 u0 hs0
 refine ⟨v0,e0,?_⟩
 cases u0 with
 |lst xs0 =>
  rw [ab,show isL (U.lst xs0)=pure () from rfl,af] at h
  have rt0:aB C c0 c0 (if k0.root=true then .bor i else k0) (.lst xs0) v0:=by
   by_cases hk:k0.root=true
   ·rw [if_pos hk];exact ⟨⟨k0,hk,hs0⟩,e0⟩
   ·rw [if_neg hk]
    cases k0 with
    |own=>exact absurd rfl hk
    |io=>exact absurd rfl hk
    |loc=>exact sl0
    |any=>exact sl0
    |bor j=>exact sl0.elim
    |ownD=>exact (hnD0 rfl).elim
  obtain ⟨a0,vs0,ea,hrd,_⟩:=rt0.list ok
  refine ⟨by rw [ea];exact .inl ⟨rfl,vs0,hK ▸ hrd⟩,?_⟩
  refine aA ok h fun r c v t w=>?_
  rw [ab] at w
  obtain ⟨S',st',u,sS,ok1,n1,rep1,w1,_,_⟩:=fV ok t.ok t.nx t.rx.w w
  rw [ab] at w1
  obtain ⟨k,u1,u2,hk,hs,hf,q⟩:=dm w1
  have hσ:c.σ[i]?=some (some (.ref a0)):=by rw [t.hσ,e0,ea]
  cases u1 with
  |lst ys =>
   simp only [sX] at hf
   split at hf
   ·rename_i hz
    cases hf
    obtain ⟨v',e1,e2⟩:=ok1.sl i k (.lst ys) hs
    have e1':c.σ[i]?=some (some v'):=e1
    rw [hσ] at e1'
    cases e1'
    obtain ⟨r',er,_,_,_,ws,hw,hrep⟩:=e2.rt hk
    cases er
    have hw':c.H a0=some (.lst ws):=hw
    refine ⟨a0,ws,v,ea,rfl,hw',by rw [←hrep.len];exact hz,?_⟩
    rw [af] at q
    obtain ⟨ok2,n2⟩:=Ok.mod (c:={ c with S:=S',st:=st' }) (H':=upd c.H a0 (.lst (ws++[v]))) (u':=.lst (ys++[u])) ok1 n1.toNs hk hs hσ (fun a ne=>ai ne) ⟨_,aq⟩ fun mv=>⟨ws++[v],aq,(hrep.mv mv).snoc (rep1.mv mv)⟩
    have z:=q _ rfl ok2 n2 (Kept.of t.hσ)
    rw [←t.hσ]
    exact z
   ·cases hf
  |_=>cases hf
 |_=>rw [ab] at h;exact (av.mp h).elim
theorem Ad (hK:C.K=X.K) {i:Nat}{x:Str}{px:Pos} (hN:X.N[i]?=some x) (hv:Vis X.env.scope x) (hd:(x==("__debug__":Str))=false) (hcd:(x==("__classdict__":Str))=false) (ha:PE X a (tEv C ma))
  (hfew:((backTo cpos (starEach [a] X.env)).all (fun x=>!x.1)&&(backToKw cpos (keywordEach [] X.env)).all (fun x=>x.1.isSome)
   && decide ([a].length+([]:List Keyword).length+(if ([]:List Keyword).isEmpty then 0 else 1)<30))=true)
  (hline:(apos.endLine==cpos.line)=true) (hst:starEach [a] X.env=[(false,eval a X.env)]) :
  L2.PS X (.Expr (.Call (.Attribute (.Name x px) "extend" apos) [a] [] cpos) pos) (tEx C ns (cT i >>= fun x=>isL x.2 >>= fun _=>ma >>= fun r=>modS i (jF r) >>= fun _=>pure .nx)):=by
 refine PS.weak (fA (sj PySem.F.plainAttrs_list PySem.F.slot_list_extend PySem.F.type_list_extend oK (bT hN hv hd hcd) (eF ha iz hst) rfl hfew hline hst rfl)) ?_
 rintro D σ H ⟨c0,rfl,rfl,ok,h⟩
 rw [ab] at h
 obtain ⟨k0,u0,hnD0,hs0,h⟩:=cH h
 obtain ⟨v0,e0,sl0⟩:=ok.sl i k0 u0 hs0
 refine ⟨v0,e0,?_⟩
 cases u0 with
 |lst xs0 =>
  rw [ab,show isL (U.lst xs0)=pure () from rfl,af] at h
  have rt0:aB C c0 c0 (if k0.root=true then .bor i else k0) (.lst xs0) v0:=by
   by_cases hk:k0.root=true
   ·rw [if_pos hk];exact ⟨⟨k0,hk,hs0⟩,e0⟩
   ·rw [if_neg hk]
    cases k0 with
    |own=>exact absurd rfl hk
    |io=>exact absurd rfl hk
    |loc=>exact sl0
    |any=>exact sl0
    |bor j=>exact sl0.elim
    |ownD=>exact (hnD0 rfl).elim
  obtain ⟨a0,vs0,ea,hrd,_⟩:=rt0.list ok
  refine ⟨by rw [ea];exact .inl ⟨rfl,vs0,hK ▸ hrd⟩,?_⟩
  refine aA ok h fun r c v t w=>?_
  rw [ab] at w
  obtain ⟨k,u1,u2,hk,hs,hf,q⟩:=dm w
  have hσ:c.σ[i]?=some (some (.ref a0)):=by rw [t.hσ,e0,ea]
  obtain ⟨rk,ru⟩:=r
  have key:∃ ys zs b vs,u1=.lst ys∧v=.ref b∧(SqL C.K c.H b vs∨SqT C.K c.H b vs)∧ah C c.S c.H zs vs∧ys.length+zs.length≤sizeLine∧u2=.lst (ys++zs):=by
   cases ru with
   |lst zs =>
    cases u1 with
    |lst ys =>
     simp only [jF] at hf
     split at hf
     ·rename_i hz
      cases hf
      obtain ⟨b,vs,ev,h1,h2⟩:=t.rx.list t.ok
      exact ⟨_,_,b,vs,rfl,ev,.inl h1,d7 hz.2 h2,hz.1,rfl⟩
     ·cases hf
    |_=>simp [jF] at hf
   |tup zs =>
    cases u1 with
    |lst ys =>
     simp only [jF] at hf
     split at hf
     ·rename_i hz
      cases hf
      obtain ⟨b,vs,ev,h1,h2⟩:=t.rx.tuple t.ok
      exact ⟨_,_,b,vs,rfl,ev,.inr h1,d7 hz.2 h2,hz.1,rfl⟩
     ·cases hf
    |_=>simp [jF] at hf
   |_=>simp [jF] at hf
  obtain ⟨ys,zs,b,vs,rfl,rfl,hB,hz,hl,rfl⟩:=key
  obtain ⟨v',e1,e2⟩:=t.ok.sl i k (.lst ys) hs
  rw [hσ] at e1
  cases e1
  obtain ⟨r',er,_,_,_,ws,hw,hrep⟩:=e2.rt hk
  cases er
  refine ⟨a0,b,ws,vs,ea,rfl,hw,hK ▸ hB,by rw [←hrep.len,←hz.len];exact hl,?_⟩
  rw [af] at q
  obtain ⟨ok2,n2⟩:=Ok.mod (c:=c) (H':=upd c.H a0 (.lst (ws++vs))) (u':=.lst (ys++zs)) t.ok t.nx.toNs hk hs hσ (fun a ne=>ai ne) ⟨_,aq⟩ fun mv=>⟨ws++vs,aq,(hrep.mv mv).append (hz.mv mv)⟩
  have z:=q _ rfl ok2 n2 (Kept.of t.hσ)
  rw [←t.hσ]
  exact z
 |_=>rw [ab] at h;exact (av.mp h).elim
theorem ip.or {t t':qH} (h:ip X t) (h':ip X t'):ip X (fun o i v H Q=>t o i v H Q∨t' o i v H Q):=fun pins s σ H o i v ov iv u Q I r1 r2 r3 q =>
 q.elim (h pins s σ H o i v ov iv u Q I r1 r2 r3) (h' pins s σ H o i v ov iv u Q I r1 r2 r3)
theorem set_dict (hu:X.A.units+1<cLine):ip X (fun o i v H Q=>∃ a H',o=.ref a∧qP H a i v H'∧Q H'):=by
 rintro pins s σ H o i v ov iv u Q I ro ri rv ⟨a,H',rfl,g,q⟩
 cases ro
 exact qR hu I g ri rv fun s' I'=>⟨H',I',q⟩
theorem tK {S:Addr→Prop}{H:Hp}{y:Str}{u:U}{v:V}{ks:List Str}{us:List U}{kvs:List (Key×V)} (h1:kvs.map (·.1)=ks.map Sum.inr) (h2:ah C S H us (kvs.map (·.2))) (hv:Rep C S H u v) :
  (putK kvs (Sum.inr y) v).map (·.1)=(dput ks us y u).1.map Sum.inr∧ah C S H (dput ks us y u).2 ((putK kvs (Sum.inr y) v).map (·.2)):=by
 have hany:(kvs.any fun kv=>decide (kv.1=(Sum.inr y:Key)))=decide (y∈ks):=by
  rw [fF]
  exact (cG (x:=y) h1 h2).2
 unfold putK dput
 rw [hany]
 by_cases hm:y∈ks
 ·rw [if_pos (by simpa using hm),if_pos hm]
  constructor
  ·rw [List.map_map]
   rw [←h1]
   apply List.map_congr_left
   intro p _
   show (if p.1=Sum.inr y then (p.1,v) else p).1=p.1
   split <;> rfl
  ·clear hany hm
   induction kvs generalizing ks us with
   |nil =>
    have:ks=[]:=by simpa using h1.symm
    subst this
    simp [ah]
   |cons p kvs ih =>
    cases ks with
    |nil=>simp at h1
    |cons k ks =>
     cases us with
     |nil=>simp [ah] at h2
     |cons u0 us =>
      rw [List.map_cons,List.map_cons,List.cons.injEq] at h1
      obtain ⟨v0,r0,e0,q1,q2⟩:=h2
      rw [List.map_cons] at e0
      cases e0
      rw [List.map_cons,List.zip_cons_cons,List.map_cons,List.map_cons]
      refine ⟨_,_,rfl,?_,ih h1.2 q2⟩
      by_cases hk:k=y
      ·rw [if_pos (by exact hk),if_pos (by rw [h1.1,hk])];exact hv
      ·rw [if_neg (by exact hk),if_neg (by rw [h1.1];intro z;exact hk (Sum.inr.inj z))];exact q1
 ·rw [if_neg (by simpa using hm),if_neg hm]
  exact ⟨by rw [List.map_append,h1,List.map_append];rfl,by rw [List.map_append];exact h2.snoc hv⟩
theorem Ae {i:Nat}{x:Str}{px:Pos} (hP:C.P=X.prog) (hw:C.w=X.w) (hK:C.K=X.K) (hu:X.A.units+60<cLine) (hN:X.N[i]?=some x) (hv:Vis X.env.scope x) (hd:(x==("__debug__":Str))=false) (hcd:(x==("__classdict__":Str))=false)
  (ha:PE X a (tEv C ma)) (hb:PE X b (tEv C mb)) (hs:swapsWithSole [.Subscript (.Name x px) b p] a pos.line X.env=pure false) (hw2:swappedStores [.Subscript (.Name x px) b p] a X.env=pure none)
  (has:∀ v,assign (.Subscript (.Name x px) b p) X.env v=(do
   let ov ←holding [v] (eval (.Name x px) X.env)
   let iv ←holding [v,ov] (eval b X.env)
   standAt p
   holding [v,ov,iv] (setItem ov iv v)
   release [v,ov,iv] [])) :
  L2.PS X (.Assign [.Subscript (.Name x px) b p] a pos) (tEx C ns (ma >>= fun r=>cT i >>= fun _=>mb >>= fun x=>cv [r,x] >>= fun us=>modS i (p_ us) >>= fun _=>pure .nx)):=by
 refine PS.weak (og ha (r6 (bT hN hv hd hcd) hb (ip.or (ip.or set_list (set_dict (X:=X) (by omega))) (vj (X:=X) (by omega))) has) hs hw2 rfl) ?_
 rintro D σ H ⟨c0,rfl,rfl,ok,h⟩
 refine aA ok h fun r c v t w=>?_
 rw [ab] at w
 obtain ⟨k0,u0,hnD0,hs0,w⟩:=cH w
 obtain ⟨v0,e0,sl0⟩:=t.ok.sl i k0 u0 hs0
 refine ⟨v0,by rw [←t.hσ];exact e0,?_⟩
 rw [ab] at w
 refine ⟨c,t.hσ,rfl,t.ok,w.mono fun y st2 w2 c2 vy e3 e4 ok2 n2 r2=>?_⟩
 subst e4
 rw [ab] at w2
 have n02:=t.nx.trans n2
 have rws:cO C c0 c2 [r,y] [v,vy]:=⟨v,[vy],rfl,t.rx.w.on t.ok n2 (e3.trans t.hσ.symm),⟨vy,[],rfl,(r2.w).from t.nx,rfl,fun _ i r' v' e _=>by simp at e⟩,fun hk i r' v' e5 e6 hk'=>by
  cases i with
  |zero=>simp at e5 e6;subst e5 e6;exact lz t.rx.w r2.w hk hk'
  |succ i=>simp at e5⟩
 obtain ⟨S',st',us,sS,ok1,n1,rep1,w1⟩:=fW ok ok2 n02 rws w2
 rw [ab] at w1
 obtain ⟨k,u1,u2,hk,hs1,hf,q⟩:=dm w1
 rw [af] at q
 have hσ:c2.σ[i]?=some (some v0):=by rw [e3,←t.hσ];exact e0
 obtain ⟨v',e1,e2⟩:=ok1.sl i k u1 hs1
 have e1':c2.σ[i]?=some (some v'):=e1
 rw [hσ] at e1'
 cases e1'
 obtain ⟨a0,er,z1,z2,z3,root⟩:=e2.rt hk
 subst er
 have hσ':({ c2 with S:=S',st:=st' }:Cf).σ[i]?=some (some (.ref a0)):=hσ
 obtain ⟨w1',ws,ew,rp1,w2',ws2,ew2,rp2,hnil⟩:∃ u ws,us=[u,ws]∧Rep C S' c2.H u v∧∃ (_:Unit) (_:Unit),True∧Rep C S' c2.H ws vy∧True:=by
  cases us with
  |nil=>simp [ah] at rep1
  |cons u us =>
   obtain ⟨_,_,e,q1,q2⟩:=rep1
   cases e
   cases us with
   |nil=>simp [ah] at q2
   |cons u' us =>
    obtain ⟨_,_,e,q3,q4⟩:=q2
    cases e
    cases us with
    |nil=>exact ⟨u,u',rfl,q1,(),(),trivial,q3,trivial⟩
    |cons _ _=>obtain ⟨_,_,e,_⟩:=q4;cases e
 subst ew
 rw [show p_ [w1',ws] u1=cZ ws w1' u1 from rfl] at hf
 have fin:∀ {H':Hp} ,(∀ a,a≠a0→H' a=c2.H a)→(∃ o,H' a0=some o)→(Mv S' c2.H S' H'→cM C S' H' a0 u2)→D.nx c0.σ H':=fun {H'} hne hr new=>by
  obtain ⟨ok3,n3⟩:=Ok.mod (c:={ c2 with S:=S',st:=st' }) (H':=H') (u':=u2) ok1 n1.toNs hk hs1 hσ' hne hr new
  have z:=q _ rfl ok3 n3 (Kept.of e3)
  rw [←e3]
  exact z
 cases u1 with
 |lst xs =>
  cases ws with
  |int j =>
   simp only [cZ,Option.map_eq_some_iff] at hf
   obtain ⟨j',hj,rfl⟩:=hf
   obtain ⟨vs,h1,h2⟩:=root
   have ey:vy=.int j:=rp2
   refine .inl (.inl ⟨a0,vs,j,j',rfl,ey,h1,by rw [←h2.len];exact hj,?_⟩)
   exact fin (fun a ne=>ai ne) ⟨_,aq⟩ fun mv=>⟨vs.set j' v,aq,(h2.mv mv).set j' (rp1.mv mv)⟩
  |_=>simp [cZ] at hf
 |dic ks vs =>
  cases ws with
  |str y' =>
   simp only [cZ] at hf
   split at hf
   ·rename_i hz
    cases hf
    obtain ⟨kvs,h1,h2,h3⟩:=root
    have ey:vy=.str y':=rp2
    subst ey
    have hl:kvs.length=ks.length:=by have:=congrArg List.length h2;simpa using this
    refine .inl (.inr ⟨a0,_,rfl,qP.k (k:=Sum.inr y') h1 (by rw [hl];exact hz),?_⟩)
    refine fin (fun a ne=>ai ne) ⟨_,aq⟩ fun mv=>?_
    obtain ⟨g1,g2⟩:=tK (y:=y') h2 h3 rp1
    exact ⟨_,aq,g1,g2.mv mv⟩
   ·cases hf
  |_=>simp [cZ] at hf
 |rdc ks =>
  simp only [cZ] at hf
  split at hf
  ·rename_i r0 hr0
   split at hf
   ·rename_i hh
    cases hf
    have er:=i_ hr0
    subst er
    have hrow:=rp2.row
    have hroot:dO C.P C.w C.K c2.H a0 ks:=root
    rw [hK] at hrow
    rw [hP,hw,hK] at hroot
    refine .inr ⟨a0,r0,ks,rfl,hrow,hroot,hh.1,hh.2,fun H' hR hne=>?_⟩
    obtain ⟨xs,hx,_⟩:=id hR
    refine fin hne ⟨_,hx⟩ fun mv=>?_
    show dO C.P C.w C.K H' a0 _
    rw [hP,hw,hK]
    exact hR
   ·cases hf
  ·cases hf
 |_=>simp [cZ] at hf
theorem Ok.slot (ok:Ok C c) {i:Nat}{k:Kd}{u:U} (hn:k≠.ownD) (hs:c.st[i]?=some (some (k,u))):∃ v,c.σ[i]?=some (some v)∧aB C c c (if k.root=true then .bor i else k) u v:=by
 obtain ⟨v0,e0,sl0⟩:=ok.sl i k u hs
 refine ⟨v0,e0,?_⟩
 by_cases hk:k.root=true
 ·rw [if_pos hk];exact ⟨⟨k,hk,hs⟩,e0⟩
 ·rw [if_neg hk]
  cases k with
  |own=>exact absurd rfl hk
  |io=>exact absurd rfl hk
  |loc=>exact sl0
  |any=>exact sl0
  |bor j=>exact sl0.elim
  |ownD=>exact (hn rfl).elim
end
end TM
namespace TM
open PySem L2 PyProof.Rows
section
variable {X : Cx} {C : Ct} {pins : List (Addr × Obj)} {s : Shared} {c0 c c1 : Cf}
theorem Ok.Af (ok:Ok C c) (n:Ns c0 c) {i:Nat}{u u':U}{r:Addr}{H':Hp}{as':List Addr} (hi:c.st[i]?=some (some (.ownD,u))) (hv:c.σ[i]?=some (some (.ref r))) (hne:∀ a,¬ c.RD i a→H' a=c.H a) (hth:∀ a o,c.H a=some o→∃ o',H' a=some o')
  (new:Mv c.S c.H c.S H'→bK C c.S H' r as' u') (has:∀ a∈as',a∈c.kid i∨(¬ c.R a∧c0.H a=none)) :
  Ok C { c with H:=H',st:=c.st.set i (some (.ownD,u')),kid:=fun j=>if j=i then as' else c.kid j }∧Ns c0 { c with H:=H',st:=c.st.set i (some (.ownD,u')),kid:=fun j=>if j=i then as' else c.kid j }:=by
 have hil:i<c.st.length:=(List.getElem?_eq_some_iff.mp hi).1
 have rt:∀ {a},c.RD i a→¬ c.S a∧¬ C.Par a∧(C.H₀ a=none∨C.IO a)∧∃ o,c.H a=some o∧¬ Tp o:=fun z=>ok.root (.inr ⟨i,z⟩)
 have h0:∀ {a},c.RD i a→C.H₀ a=none:=fun ⟨u1,r1,e1,e2,e3⟩=>(bK.fr (ok.dd.kd i u1 r1 e1 e2) _ (List.mem_cons.mpr e3)).2.2
 have kp:∀ {a:Addr} {o:HO},¬ c.RD i a→c.H a=some o→H' a=some o:=fun z e=>by rw [hne _ z];exact e
 have mv:Mv c.S c.H c.S H':=⟨fun _ z=>z,fun a o e t=>kp (fun z=>by
  obtain ⟨_,_,_,o',e',nt⟩:=rt z
  rw [e] at e';cases e';exact nt t) e,fun a o z e=>kp (fun z'=>(rt z').1 z) e⟩
 have mvP:Mv (PS C c.S) c.H (PS C c.S) H':=⟨fun _ z=>z,mv.tps,fun a o z e=>kp (fun z'=>z.elim (rt z').2.1 (rt z').1) e⟩
 have oth:∀ (j:Nat) k w,(c.st.set i (some (.ownD,u')))[j]?=some (some (k,w))→j≠i→c.st[j]?=some (some (k,w)):=fun j k w e ne=>by rw [List.getElem?_set_ne (Ne.symm ne)] at e;exact e
 have rtj:∀ (j:Nat) k w,k.root=true→(c.st.set i (some (.ownD,u')))[j]?=some (some (k,w))→c.st[j]?=some (some (k,w)):=fun j k w hk e=>by
  by_cases hj:j=i
  ·subst hj;rw [List.getElem?_set_self hil] at e;cases e;cases hk
  ·exact oth j k w e hj
 have b1:∀ a,({ c with H:=H',st:=c.st.set i (some (.ownD,u')),kid:=fun j=>if j=i then as' else c.kid j }:Cf).R1 a→c.R1 a:=fun a ⟨j,k,w,hk,e1,e2⟩=>⟨j,k,w,hk,rtj j k w hk e1,e2⟩
 have bD:∀ j a,({ c with H:=H',st:=c.st.set i (some (.ownD,u')),kid:=fun j=>if j=i then as' else c.kid j }:Cf).RD j a→c.RD j a∨(j=i∧¬ c.R a∧c0.H a=none):=fun j a hIx=>by
  obtain ⟨w,r',e1,e2,e3⟩:=hIx
  by_cases hj:j=i
  ·subst hj
   have e2':c.σ[j]?=some (some (.ref r')):=e2
   rw [hv] at e2'
   cases e2'
   rcases e3 with rfl|e3
   ·exact .inl ⟨u,_,hi,hv,.inl rfl⟩
   ·have e3':a∈as':=by simpa using e3
    rcases has a e3' with z|z
    ·exact .inl ⟨u,_,hi,hv,.inr z⟩
    ·exact .inr ⟨rfl,z⟩
  ·have e3':a=r'∨a∈c.kid j:=by simpa [hj] using e3
   exact .inl ⟨w,r',oth j _ w e1 hj,e2,e3'⟩
 refine ⟨⟨fun a o e z=>kp (fun z'=>by rw [h0 z'] at e;cases e) (ok.same a o e z),fun a z=>?_,ok.par,fun a z=>?_,by simp [ok.len],fun j k w e=>?_,fun j1 j2 k1 k2 w1 w2 r' h1 h2 e1 e2 e3 e4=>ok.inj j1 j2 k1 k2 w1 w2 r' h1 h2 (rtj j1 k1 w1 h1 e1) (rtj j2 k2 w2 h2 e2) e3 e4,⟨fun j w r' e1 e2=>?_,fun j1 j2 a z1 z2=>?_,fun j a z1 z2=>?_⟩⟩,⟨fun a o e z=>?_,fun a o e=>?_,fun a z=>?_,n.sub,n.new⟩⟩
 ·obtain ⟨q1,o,q2⟩:=ok.sfr a z
  exact ⟨q1,hth a o q2⟩
 ·obtain ⟨q1,o,q2⟩:=ok.io a z
  exact ⟨q1,hth a o q2⟩
 ·by_cases hj:j=i
  ·subst hj
   rw [List.getElem?_set_self hil] at e
   cases e
   exact ⟨.ref r,hv,r,rfl⟩
  ·obtain ⟨v,e1,e2⟩:=ok.sl j k w (oth j k w e hj)
   refine ⟨v,e1,e2.mv mv mvP fun hk r' er=>?_⟩
   obtain ⟨r'',er',z1,_⟩:=e2.rt hk
   rw [er] at er'
   cases er'
   exact ⟨z1,fun o e'=>kp (fun z=>ok.dd.d1 i r' z ⟨j,k,w,hk,oth j k w e hj,by rw [e1,er]⟩) e'⟩
 ·by_cases hj:j=i
  ·subst hj
   rw [List.getElem?_set_self hil] at e1
   cases e1
   have e2':c.σ[j]?=some (some (.ref r')):=e2
   rw [hv] at e2'
   cases e2'
   have z:=new mv
   simpa using z
  ·have e1':=oth j _ w e1 hj
   have hk':(if j=i then as' else c.kid j)=c.kid j:=if_neg hj
   show bK C c.S H' r' (if j=i then as' else c.kid j) w
   rw [hk']
   exact bK.mv mv (fun a ha=>⟨(ok.root (.inr ⟨j,w,r',e1',e2,List.mem_cons.mp ha⟩)).1,fun o e'=>kp (fun z=>hj (ok.dd.dj j i a ⟨w,r',e1',e2,List.mem_cons.mp ha⟩ z)) e'⟩) (ok.dd.kd j w r' e1' e2)
 ·rcases bD j1 a z1 with y1|⟨rfl,y1,_⟩
  ·rcases bD j2 a z2 with y2|⟨rfl,y2,_⟩
   ·exact ok.dd.dj j1 j2 a y1 y2
   ·exact (y2 (.inr ⟨j1,y1⟩)).elim
  ·rcases bD j2 a z2 with y2|⟨rfl,y2,_⟩
   ·exact (y1 (.inr ⟨j2,y2⟩)).elim
   ·rfl
 ·rcases bD j a z1 with y1|⟨rfl,y1,_⟩
  ·exact ok.dd.d1 j a y1 (b1 a z2)
  ·exact y1 (.inl (b1 a z2))
 ·exact kp (fun z'=>by
   rcases n.roots a (.inr ⟨i,z'⟩) with y|y
   ·exact z y
   ·rw [e] at y;cases y) (n.keep a o e z)
 ·obtain ⟨o',e'⟩:=n.there a o e
  exact hth a o' e'
 ·rcases z with z|⟨j,z⟩
  ·exact n.roots a (.inl (b1 a z))
  ·rcases bD j a z with y|⟨_,_,y⟩
   ·exact n.roots a (.inr ⟨j,y⟩)
   ·exact .inr y
theorem Ok.newD (ok:Ok C c) {p:Addr}{i:Nat} (hp:c.H p=none) (hi:i<c.σ.length) :
  Ok C { c with H:=upd c.H p (.dK []),σ:=c.σ.set i (some (.ref p)),st:=c.st.set i (some (.ownD,.dic [] [])),kid:=fun j=>if j=i then [] else c.kid j }∧Ns c { c with H:=upd c.H p (.dK []),σ:=c.σ.set i (some (.ref p)),st:=c.st.set i (some (.ownD,.dic [] [])),kid:=fun j=>if j=i then [] else c.kid j }:=by
 obtain ⟨ok1,n1⟩:=ok.lay (o:=.dK []) hp
 obtain ⟨q1,q2,q3,q4,q5⟩:=ok.jE hp
 have hil:i<c.st.length:=by rw [ok.len];exact hi
 have oth:∀ (j:Nat) k w,(c.st.set i (some (.ownD,.dic [] [])))[j]?=some (some (k,w))→j≠i→c.st[j]?=some (some (k,w)):=fun j k w e ne=>by rw [List.getElem?_set_ne (Ne.symm ne)] at e;exact e
 have othσ:∀ (j:Nat),j≠i→(c.σ.set i (some (.ref p)))[j]?=c.σ[j]?:=fun j ne=>List.getElem?_set_ne (Ne.symm ne)
 have rtj:∀ (j:Nat) k w,k.root=true→(c.st.set i (some (.ownD,.dic [] [])))[j]?=some (some (k,w))→j≠i∧c.st[j]?=some (some (k,w)):=fun j k w hk e=>by
  by_cases hj:j=i
  ·subst hj;rw [List.getElem?_set_self hil] at e;cases e;cases hk
  ·exact ⟨hj,oth j k w e hj⟩
 have b1:∀ a,({ c with H:=upd c.H p (.dK []),σ:=c.σ.set i (some (.ref p)),st:=c.st.set i (some (.ownD,.dic [] [])),kid:=fun j=>if j=i then [] else c.kid j }:Cf).R1 a→c.R1 a:=fun a hIx=>by
  obtain ⟨j,k,w,hk,e1,e2⟩:=hIx
  obtain ⟨hj,e1'⟩:=rtj j k w hk e1
  exact ⟨j,k,w,hk,e1',by rw [←othσ j hj];exact e2⟩
 have bD:∀ j a,({ c with H:=upd c.H p (.dK []),σ:=c.σ.set i (some (.ref p)),st:=c.st.set i (some (.ownD,.dic [] [])),kid:=fun j=>if j=i then [] else c.kid j }:Cf).RD j a→(j≠i∧c.RD j a)∨(j=i∧a=p):=fun j a hIx=>by
  obtain ⟨w,r',e1,e2,e3⟩:=hIx
  by_cases hj:j=i
  ·subst hj
   have e2':(c.σ.set j (some (.ref p)))[j]?=some (some (.ref r')):=e2
   rw [List.getElem?_set_self hi] at e2'
   cases e2'
   rcases e3 with rfl|e3
   ·exact .inr ⟨rfl,rfl⟩
   ·simp at e3
  ·have e3':a=r'∨a∈c.kid j:=by simpa [hj] using e3
   exact .inl ⟨hj,w,r',oth j _ w e1 hj,by rw [←othσ j hj];exact e2,e3'⟩
 refine ⟨⟨ok1.same,ok1.sfr,ok1.par,ok1.io,by simp [ok.len],fun j k w e=>?_,fun j1 j2 k1 k2 w1 w2 r' h1 h2 e1 e2 e3 e4=>?_,⟨fun j w r' e1 e2=>?_,fun j1 j2 a z1 z2=>?_,fun j a z1 z2=>?_⟩⟩,⟨fun a o e z=>n1.all a o e,n1.there,fun a z=>?_,fun _ z=>z,fun _ z=>.inl z⟩⟩
 ·by_cases hj:j=i
  ·subst hj
   rw [List.getElem?_set_self hil] at e
   cases e
   exact ⟨.ref p,List.getElem?_set_self hi,p,rfl⟩
  ·obtain ⟨v,e1,e2⟩:=ok1.sl j k w (oth j k w e hj)
   exact ⟨v,(othσ j hj).trans e1,e2⟩
 ·obtain ⟨hj1,a1⟩:=rtj j1 k1 w1 h1 e1
  obtain ⟨hj2,a2⟩:=rtj j2 k2 w2 h2 e2
  exact ok.inj j1 j2 k1 k2 w1 w2 r' h1 h2 a1 a2 ((othσ j1 hj1).symm.trans e3) ((othσ j2 hj2).symm.trans e4)
 ·by_cases hj:j=i
  ·subst hj
   rw [List.getElem?_set_self hil] at e1
   cases e1
   have e2':(c.σ.set j (some (.ref p)))[j]?=some (some (.ref r')):=e2
   rw [List.getElem?_set_self hi] at e2'
   cases e2'
   show bK C c.S (upd c.H p (.dK [])) p (if j=j then [] else c.kid j) (.dic [] [])
   rw [if_pos rfl]
   exact ⟨[],aq,rfl,rfl,by simp,fun a ha=>by rw [List.mem_singleton.mp ha];exact ⟨q2,q3,q1⟩,rfl⟩
  ·have e1':=oth j _ w e1 hj
   have z:=ok1.dd.kd j w r' e1' ((othσ j hj).symm.trans e2)
   show bK C c.S (upd c.H p (.dK [])) r' (if j=i then [] else c.kid j) w
   rw [if_neg hj]
   exact z
 ·rcases bD j1 a z1 with ⟨_,y1⟩|⟨rfl,rfl⟩
  ·rcases bD j2 a z2 with ⟨_,y2⟩|⟨rfl,rfl⟩
   ·exact ok.dd.dj j1 j2 a y1 y2
   ·exact (q5 (.inr ⟨j1,y1⟩)).elim
  ·rcases bD j2 a z2 with ⟨_,y2⟩|⟨rfl,_⟩
   ·exact (q5 (.inr ⟨j2,y2⟩)).elim
   ·rfl
 ·rcases bD j a z1 with ⟨_,y1⟩|⟨rfl,rfl⟩
  ·exact ok.dd.d1 j a y1 (b1 a z2)
  ·exact q5 (.inl (b1 a z2))
 ·rcases z with z|⟨j,z⟩
  ·exact .inl (.inl (b1 a z))
  ·rcases bD j a z with ⟨_,y⟩|⟨_,rfl⟩
   ·exact .inl (.inr ⟨j,y⟩)
   ·exact .inr hp
end
end TM
namespace TM
open PySem L2 PyProof.Rows
section
variable {X : Cx} {C : Ct} {pins : List (Addr × Obj)} {s : Shared} {c0 c c1 : Cf}
variable {a b d e o : Expr} {es : List Expr} {m ma mb md me : M (Kd × U)} {pos p p2 apos cpos : Pos} {ns : Nat → Bool}
theorem cB.rep {S S':Addr→Prop}{H:Hp} (hs:∀ a,S a→S' a):∀ {us:List U}{as:List Addr},(∀ a∈as,S' a)→cB C S H us as→ah C S' H us (as.map V.ref)
 |[],as,_,h=>by cases h;exact rfl
 |u::us,as,ha,h=>by
  obtain ⟨a,as',ys,vs,rfl,rfl,h1,h2,h3⟩:=h
  exact ⟨.ref a,as'.map V.ref,rfl,⟨a,vs,rfl,.inl ⟨ha a (by simp),.inl h1⟩,h2.mv (.up hs)⟩,cB.rep hs (fun b hb=>ha b (by simp [hb])) h3⟩
theorem Ok.Be (ok:Ok C c) (n:Nx c0 c) {i:Nat}{u:U}{r:Addr} (hi:c.st[i]?=some (some (.ownD,u))) (hv:c.σ[i]?=some (some (.ref r))) :
  Ok C { c with S:=fun a=>c.S a∨a∈c.kid i,st:=c.st.set i (some (.own,u)) }∧Nx c0 { c with S:=fun a=>c.S a∨a∈c.kid i,st:=c.st.set i (some (.own,u)) }:=by
 have hil:i<c.st.length:=(List.getElem?_eq_some_iff.mp hi).1
 have rd:=ok.dd.kd i u r hi hv
 have fr:=bK.fr rd
 have mem:∀ a,(a=r∨a∈c.kid i)→c.RD i a:=fun a z=>⟨u,r,hi,hv,z⟩
 have up:Mv c.S c.H (fun a=>c.S a∨a∈c.kid i) c.H:=.up fun a=>.inl
 have upP:Mv (PS C c.S) c.H (PS C fun a=>c.S a∨a∈c.kid i) c.H:=.up fun a z=>z.imp id .inl
 have hrk:r∉c.kid i∧cM C (fun a=>c.S a∨a∈c.kid i) c.H r u:=by
  cases u <;> first|exact rd.elim|skip
  obtain ⟨kvs,h1,h2,h3,h4,h5,h6⟩:=rd
  refine ⟨(List.nodup_cons.mp h4).1,kvs,h1,h2,?_⟩
  rw [h3]
  exact h6.rep (fun a=>.inl) fun a ha=>.inr ha
 have oth:∀ (j:Nat) k w,(c.st.set i (some (.own,u)))[j]?=some (some (k,w))→j≠i→c.st[j]?=some (some (k,w)):=fun j k w e ne=>by rw [List.getElem?_set_ne (Ne.symm ne)] at e;exact e
 have b1:∀ a,({ c with S:=fun a=>c.S a∨a∈c.kid i,st:=c.st.set i (some (.own,u)) }:Cf).R1 a→c.R1 a∨a=r:=fun a hIx=>by
  obtain ⟨j,k,w,hk,e1,e2⟩:=hIx
  by_cases hj:j=i
  ·subst hj
   have e2':c.σ[j]?=some (some (.ref a)):=e2
   rw [hv] at e2'
   cases e2'
   exact .inr rfl
  ·exact .inl ⟨j,k,w,hk,oth j k w e1 hj,e2⟩
 have bD:∀ j a,({ c with S:=fun a=>c.S a∨a∈c.kid i,st:=c.st.set i (some (.own,u)) }:Cf).RD j a→j≠i∧c.RD j a:=fun j a hIx=>by
  obtain ⟨w,r',e1,e2,e3⟩:=hIx
  by_cases hj:j=i
  ·subst hj
   rw [List.getElem?_set_self hil] at e1
   cases e1
  ·exact ⟨hj,w,r',oth j _ w e1 hj,e2,e3⟩
 refine ⟨⟨ok.same,fun a z=>?_,ok.par,ok.io,by simp [ok.len],fun j k w e=>?_,fun j1 j2 k1 k2 w1 w2 r' h1 h2 e1 e2 e3 e4=>?_,⟨fun j w r' e1 e2=>?_,fun j1 j2 a z1 z2=>ok.dd.dj j1 j2 a (bD j1 a z1).2 (bD j2 a z2).2,fun j a z1 z2=>?_⟩⟩,⟨⟨n.keep,n.there,fun a z=>?_,fun a z=>.inl (n.sub a z),fun a z=>?_⟩,n.all⟩⟩
 ·rcases z with z|z
  ·exact ok.sfr a z
  ·obtain ⟨o,ho,_⟩:=bK.there rd a (List.mem_cons_of_mem _ z)
   exact ⟨(fr a (List.mem_cons_of_mem _ z)).2.2,o,ho⟩
 ·by_cases hj:j=i
  ·subst hj
   rw [List.getElem?_set_self hil] at e
   cases e
   obtain ⟨q1,q2,q3⟩:=fr r (List.mem_cons_self ..)
   exact ⟨.ref r,hv,r,rfl,fun z=>z.elim q1 hrk.1,q2,q3,hrk.2⟩
  ·obtain ⟨v,e1,e2⟩:=ok.sl j k w (oth j k w e hj)
   refine ⟨v,e1,e2.mv up upP fun hk r' er=>?_⟩
   obtain ⟨r'',er',z1,_⟩:=e2.rt hk
   rw [er] at er'
   cases er'
   exact ⟨fun z=>z.elim z1 fun z=>ok.dd.d1 i r' (mem r' (.inr z)) ⟨j,k,w,hk,oth j k w e hj,by rw [e1,er]⟩,fun o q=>q⟩
 ·by_cases hj1:j1=i
  ·by_cases hj2:j2=i
   ·rw [hj1,hj2]
   ·subst hj1
    have e3':c.σ[j1]?=some (some (.ref r')):=e3
    rw [hv] at e3'
    cases e3'
    exact (ok.dd.d1 j1 r (mem r (.inl rfl)) ⟨j2,k2,w2,h2,oth j2 k2 w2 e2 hj2,e4⟩).elim
  ·by_cases hj2:j2=i
   ·subst hj2
    have e4':c.σ[j2]?=some (some (.ref r')):=e4
    rw [hv] at e4'
    cases e4'
    exact (ok.dd.d1 j2 r (mem r (.inl rfl)) ⟨j1,k1,w1,h1,oth j1 k1 w1 e1 hj1,e3⟩).elim
   ·exact ok.inj j1 j2 k1 k2 w1 w2 r' h1 h2 (oth j1 k1 w1 e1 hj1) (oth j2 k2 w2 e2 hj2) e3 e4
 ·by_cases hj:j=i
  ·subst hj
   rw [List.getElem?_set_self hil] at e1
   cases e1
  ·have e1':=oth j _ w e1 hj
   exact bK.mv up (fun a ha=>⟨fun z=>z.elim (ok.root (.inr ⟨j,w,r',e1',e2,List.mem_cons.mp ha⟩)).1 fun z=>hj (ok.dd.dj j i a ⟨w,r',e1',e2,List.mem_cons.mp ha⟩ (mem a (.inr z))),fun o q=>q⟩) (ok.dd.kd j w r' e1' e2)
 ·obtain ⟨hj,y⟩:=bD j a z1
  rcases b1 a z2 with z|z
  ·exact ok.dd.d1 j a y z
  ·subst z
   exact hj (ok.dd.dj j i a y (mem a (.inl rfl)))
 ·rcases z with z|⟨j,z⟩
  ·rcases b1 a z with z|rfl
   ·exact n.roots a (.inl z)
   ·exact n.roots a (.inr ⟨i,mem a (.inl rfl)⟩)
  ·exact n.roots a (.inr ⟨j,(bD j a z).2⟩)
 ·rcases z with z|z
  ·exact n.new a z
  ·rcases n.roots a (.inr ⟨i,mem a (.inr z)⟩) with y|y
   ·exact .inr (.inl y)
   ·exact .inr (.inr y)
theorem v5 {i:Nat}{x:Str} (hN:X.N[i]?=some x) (hv:Vis X.env.scope x) (hd:(x==("__debug__":Str))=false) (hcd:(x==("__classdict__":Str))=false):PE X (.Name x pos) (tEv C (sV i)):=by
 have hvar:=lA (C:=C) (pos:=pos) hN hv hd hcd
 rintro pins s σ H Q I ⟨c0,rfl,rfl,ok,r,st',e,h⟩
 unfold sV at e
 split at e
 ·rename_i u hs
  cases e
  obtain ⟨v,e1,r',rfl⟩:=ok.sl i _ _ hs
  obtain ⟨ok',n'⟩:=ok.Be (Nx.refl c0) hs e1
  have hil:i<c0.st.length:=(List.getElem?_eq_some_iff.mp hs).1
  exact bT hN hv hd hcd pins s c0.σ c0.H Q I ⟨.ref r',e1,h { c0 with S:=fun a=>c0.S a∨a∈c0.kid i,st:=c0.st.set i (some (.own,u)) } (.ref r') rfl rfl ok' n' ⟨⟨.own,rfl,List.getElem?_set_self hil⟩,e1⟩⟩
 ·exact hvar pins s c0.σ c0.H Q I ⟨c0,rfl,rfl,ok,r,st',e,h⟩
end
end TM
namespace TM
open PySem L2 PyProof.Rows
section
variable {X : Cx} {C : Ct} {pins : List (Addr × Obj)} {s : Shared} {c0 c c1 : Cf}
variable {a b d e o : Expr} {es : List Expr} {m ma mb md me : M (Kd × U)} {pos p p2 apos cpos : Pos} {ns : Nat → Bool}
theorem eJ {i:Nat}{st:ag}{Q:List Str×List U→ag→Prop} (h:W (eO i) st Q):∃ ks us,st[i]?=some (some (.ownD,.dic ks us))∧Q (ks,us) st:=by
 obtain ⟨r,st',e,q⟩:=h
 unfold eO at e
 split at e
 ·rename_i ks us hs;cases e;exact ⟨ks,us,hs,q⟩
 ·cases e
theorem eL {x:Kd×U}{st:ag}{Q:Str→ag→Prop} (h:W (fS x) st Q):∃ y,x.2=.str y∧Q y st:=by
 unfold fS at h
 split at h
 ·rename_i y e;rw [af] at h;exact ⟨y,e,h⟩
 ·exact (av.mp h).elim
theorem Ok.dic (ok:Ok C c) {i:Nat}{ks:List Str}{us:List U} (hi:c.st[i]?=some (some (.ownD,.dic ks us))):∃ (r:Addr) (kvs:List (Key×V)),c.σ[i]?=some (some (.ref r))∧c.H r=some (.dK kvs)∧kvs.map (·.1)=ks.map Sum.inr∧kvs.map (·.2)=(c.kid i).map V.ref ∧
  (r::c.kid i).Nodup∧cB C c.S c.H us (c.kid i)∧(∀ y:Str,(cD kvs (Sum.inr y)).isSome=decide (y∈ks))∧∀ (y:Str) (u:U),cN ks us y=some u→∃ v,cD kvs (Sum.inr y)=some v∧Rep C (fun a=>c.S a∨a∈c.kid i) c.H u v:=by
 obtain ⟨v,e,r,rfl⟩:=ok.sl i _ _ hi
 obtain ⟨kvs,h1,h2,h3,h4,h5,h6⟩:=ok.dd.kd i _ r hi e
 have hr:ah C (fun a=>c.S a∨a∈c.kid i) c.H us (kvs.map (·.2)):=by rw [h3];exact h6.rep (fun a=>.inl) fun a ha=>.inr ha
 exact ⟨r,kvs,e,h1,h2,h3,h4,h6,fun y=>(cG (x:=y) h2 hr).2,fun y=>(cG (x:=y) h2 hr).1⟩
theorem fZ {β:Type}{i:Nat}{k:Str→List Str×List U→M β}{Post:β→ag→Prop}{Z:V→V→Hp→Prop} (ok:Ok C c0) (h:W (ma >>= fun x=>fS x >>= fun y=>eO i >>= fun d=>k y d) c0.st Post)
  (hz:∀ (c:Cf) (y:Str) (ks:List Str) (us:List U) (r:Addr) (kvs:List (Key×V)),c.σ=c0.σ→Ok C c→Nx c0 c→c.H r=some (.dK kvs)→(cD kvs (Sum.inr y)).isSome=decide (y∈ks)→W (k y (ks,us)) c.st Post→Z (.str y) (.ref r) c.H) :
  tEv C ma c0.σ c0.H fun v H1=>∃ v',c0.σ[i]?=some (some v')∧Z v v' H1:=by
 refine ⟨c0,rfl,rfl,ok,?_⟩
 rw [ab] at h
 refine W.mono h fun x st' w c v hσ hs ok' n r=>?_
 subst hs
 obtain ⟨kx,ux⟩:=x
 rw [ab] at w
 obtain ⟨y,e,w1⟩:=eL w
 clear w
 dsimp only at e r
 subst e
 have ev:v=.str y:=r.str ok'
 subst ev
 rw [ab] at w1
 obtain ⟨ks,us,hs,w⟩:=eJ w1
 obtain ⟨r',kvs,e1,h1,_,_,_,_,h2,_⟩:=ok'.dic hs
 exact ⟨.ref r',by rw [←hσ];exact e1,hz c y ks us r' kvs hσ ok' n h1 (h2 y) w⟩
noncomputable def tL (neg:Bool):CmpOp:=if neg=true then .NotIn else .In
theorem v7 {neg:Bool}{i:Nat}{x:Str} (hu:X.A.units+60<cLine) (hN:X.N[i]?=some x) (hv:Vis X.env.scope x) (hd:(x==("__debug__":Str))=false) (hcd:(x==("__classdict__":Str))=false) (ha:PE X a (tEv C ma)) (hm:behindInMarks (tL neg) (.Name x p2)=false) :
  PE X (.Compare a [tL neg] [.Name x p2] pos) (tEv C (ma >>= fun x=>fS x >>= fun y=>eO i >>= fun d=>pure (.loc,.bl (inB neg y d.1)))):=by
 rintro pins s σ H Q I ⟨c0,rfl,rfl,ok,h⟩
 cases neg with
 |false =>
  refine rU (su (by omega) ha (bT hN hv hd hcd)) hm pins s c0.σ c0.H Q I (fZ ok h fun c y ks us r kvs hσ okc n h1 h2 w=>?_)
  rw [af] at w
  refine ⟨r,_,rfl,cW.k (k:=Sum.inr y) h1,?_⟩
  rw [h2]
  exact w c (.bl _) hσ rfl okc n rfl
 |true =>
  refine rU (jV (by omega) ha (bT hN hv hd hcd)) hm pins s c0.σ c0.H Q I (fZ ok h fun c y ks us r kvs hσ okc n h1 h2 w=>?_)
  rw [af] at w
  refine ⟨r,_,rfl,cW.k (k:=Sum.inr y) h1,?_⟩
  rw [h2]
  exact w c (.bl _) hσ rfl okc n rfl
theorem yN {i:Nat}{x:Str}{pos':Pos} (hns:∀ j,ns j=true→j≠i) (hN:X.N.Nodup) (hi:X.N[i]?=some x) (hx:Loc X.env.scope x) (hf:X.fn x=true∨X.env.scope.names.lookup x=some .local)
  (hs:swapsWith (.Dict [] [] p) (some (.Name x pos')) pos.line X.env=pure false):L2.PS X (.Assign [.Name x pos'] (.Dict [] [] p) pos) (tEx C ns (wW i >>= fun _=>pure .nx)):=by
 rintro pins s σ H D I ⟨c0,rfl,rfl,ok,h⟩
 have hil:i<c0.σ.length:=by rw [I.len];exact (List.getElem?_eq_some_iff.mp hi).1
 refine r9 hN hi hx mK hs hf pins s c0.σ c0.H D I fun q hq=>?_
 obtain ⟨ok',n'⟩:=ok.newD hq hil
 rw [ab] at h
 obtain ⟨_,st',e,w⟩:=h
 cases e
 rw [af] at w
 exact w _ rfl ok' n' ⟨fun j hj=>List.getElem?_set_ne (Ne.symm (hns j hj)),by simp⟩
end
end TM
namespace TM
open PySem L2 PyProof.Rows
section
variable {X : Cx} {C : Ct} {pins : List (Addr × Obj)} {s : Shared} {c0 c c1 : Cf}
variable {a b d e o : Expr} {es : List Expr} {m ma mb md me : M (Kd × U)} {pos p p2 apos cpos : Pos} {ns : Nat → Bool}
theorem v8 {neg:Bool}{i:Nat}{x:Str} (hu:X.A.units+60<cLine) (hN:X.N[i]?=some x) (hv:Vis X.env.scope x) (hd:(x==("__debug__":Str))=false) (hcd:(x==("__classdict__":Str))=false) (ha:PE X a (tEv C ma)) (hm:behindInMarks (tL neg) (.Name x p2)=false) :
  PT X (.Compare a [tL neg] [.Name x p2] pos) (tTs C (ma >>= fun x=>fS x >>= fun y=>eO i >>= fun d=>pure (inB neg y d.1))):=by
 rintro pins s σ H Q I ⟨c0,rfl,rfl,ok,h⟩
 cases neg with
 |false =>
  refine rV (su (by omega) ha (bT hN hv hd hcd)) hm pins s c0.σ c0.H Q I (fZ (Z:=fun y x H2=>∃ a o,x=V.ref a∧cW H2 a y o∧∃ b,V.bl o.isSome=.bl b∧Q b H2) ok h fun c y ks us r kvs hσ okc n h1 h2 w=>?_)
  rw [af] at w
  refine ⟨r,_,rfl,cW.k (k:=Sum.inr y) h1,?_⟩
  rw [h2]
  exact ⟨_,rfl,w c hσ rfl okc n⟩
 |true =>
  refine rV (jV (by omega) ha (bT hN hv hd hcd)) hm pins s c0.σ c0.H Q I (fZ (Z:=fun y x H2=>∃ a o,x=V.ref a∧cW H2 a y o∧∃ b,V.bl (!o.isSome)=.bl b∧Q b H2) ok h fun c y ks us r kvs hσ okc n h1 h2 w=>?_)
  rw [af] at w
  refine ⟨r,_,rfl,cW.k (k:=Sum.inr y) h1,?_⟩
  rw [h2]
  exact ⟨_,rfl,w c hσ rfl okc n⟩
theorem cB.snoc {S:Addr→Prop}{H:Hp}{a:Addr}{ys:List U}{vs:List V} (h1:H a=some (.lst vs)) (h2:ah C S H ys vs):∀ {us:List U}{as:List Addr},cB C S H us as→cB C S H (us++[.lst ys]) (as++[a])
 |[],as,h=>by cases h;exact ⟨a,[],ys,vs,rfl,rfl,h1,h2,rfl⟩
 |u::us,as,h=>by
  obtain ⟨a',as',ys',vs',rfl,e,g1,g2,g3⟩:=h
  exact ⟨a',as'++[a],ys',vs',rfl,e,g1,g2,cB.snoc h1 h2 g3⟩
theorem oY {i:Nat}{y:Str}{r:Kd×U}{st:ag}{Q:Unit→ag→Prop} (h:W (iV i y r) st Q):∃ us ks vs,r=(.own,.lst us)∧st[i]?=some (some (.ownD,.dic ks vs))∧y∉ks∧ks.length<sizeLine∧Q () (st.set i (some (.ownD,.dic (ks++[y]) (vs++[.lst us])))):=by
 obtain ⟨k,u⟩:=r
 cases k <;> cases u <;> first|exact (av.mp h).elim|skip
 rename_i us
 obtain ⟨_,st',e,q⟩:=h
 unfold iV at e
 dsimp only at e
 split at e
 ·rename_i ks vs hs
  split at e
  ·rename_i hz
   cases e
   exact ⟨us,ks,vs,rfl,hs,hz.1,hz.2,q⟩
  ·cases e
 ·cases e
theorem yO {i:Nat}{x:Str}{px:Pos} (hu:X.A.units+60<cLine) (hN:X.N[i]?=some x) (hv:Vis X.env.scope x) (hd:(x==("__debug__":Str))=false) (hcd:(x==("__classdict__":Str))=false)
  (ha:PE X a (tEv C ma)) (hb:PE X b (tEv C mb)) (hs:swapsWithSole [.Subscript (.Name x px) b p] a pos.line X.env=pure false) (hw2:swappedStores [.Subscript (.Name x px) b p] a X.env=pure none)
  (has:∀ v,assign (.Subscript (.Name x px) b p) X.env v=(do
   let ov ←holding [v] (eval (.Name x px) X.env)
   let iv ←holding [v,ov] (eval b X.env)
   standAt p
   holding [v,ov,iv] (setItem ov iv v)
   release [v,ov,iv] [])) :
  L2.PS X (.Assign [.Subscript (.Name x px) b p] a pos) (tEx C ns (ma >>= fun r=>eO i >>= fun _=>mb >>= fun x=>fS x >>= fun y=>iV i y r >>= fun _=>pure .nx)):=by
 refine PS.weak (og ha (r6 (bT hN hv hd hcd) hb (set_dict (X:=X) (by omega)) has) hs hw2 rfl) ?_
 rintro D σ H ⟨c0,rfl,rfl,ok,h⟩
 refine aA ok h fun r c v t w=>?_
 rw [ab] at w
 obtain ⟨ks0,us0,hs0,w⟩:=eJ w
 obtain ⟨r0,kvs0,e0,g0,_⟩:=t.ok.dic hs0
 refine ⟨.ref r0,by rw [←t.hσ];exact e0,?_⟩
 rw [ab] at w
 refine ⟨c,t.hσ,rfl,t.ok,w.mono fun y st2 w2 c2 vy e3 e4 ok2 n2 r2=>?_⟩
 subst e4
 rw [ab] at w2
 obtain ⟨ky,uy⟩:=y
 obtain ⟨y,ey,w3⟩:=eL w2
 dsimp only at ey r2
 subst ey
 have ev:vy=.str y:=r2.str ok2
 subst ev
 rw [ab] at w3
 obtain ⟨us,ks,vs,er,hs1,hny,hlen,q⟩:=oY w3
 subst er
 rw [af] at q
 obtain ⟨r1,kvs,f1,g1,g2,g3,g4,g5,g6,_⟩:=ok2.dic hs1
 have er:r1=r0:=by rw [e3,←t.hσ,e0] at f1;cases f1;rfl
 subst er
 obtain ⟨r',rfl,k1,k2,k3,vs',k4,k5⟩:=t.rx.w.on t.ok n2.toNs (e3.trans t.hσ.symm)
 have n02:=t.nx.trans n2
 have hl:kvs.length=ks.length:=by have:=congrArg List.length g2;simpa using this
 have hnone:cD kvs (Sum.inr y)=none:=by
  have:=g6 y
  rw [decide_eq_false hny] at this
  cases hq:cD kvs (Sum.inr y) with
  |none=>rfl
  |some _=>rw [hq] at this;cases this
 refine ⟨r1,_,rfl,qP.k (k:=Sum.inr y) g1 (by rw [hl];exact hlen),?_⟩
 rw [sr _ hnone]
 have hrk:r'∉c2.kid i:=fun z=>k3 (.inr ⟨i,_,_,hs1,f1,.inr z⟩)
 have hrr:r'≠r1:=fun z=>k3 (.inr ⟨i,_,_,hs1,f1,.inl z⟩)
 have rd:=ok2.dd.kd i _ _ hs1 f1
 have fr:=bK.fr rd
 obtain ⟨ok3,n3⟩:=Ok.Af (H':=upd c2.H r1 (.dK (kvs++[(Sum.inr y,.ref r')]))) (u':=.dic (ks++[y]) (vs++[.lst us])) (as':=c2.kid i++[r']) ok2 n02.toNs hs1 f1
  (fun a ne=>ai fun z=>ne ⟨_,_,hs1,f1,.inl z⟩) (fun a o e=>by
   by_cases hz:a=r1
   ·subst hz;exact ⟨_,aq⟩
   ·rw [ai hz];exact ⟨o,e⟩)
  (fun mv=>by
   refine ⟨_,aq,by rw [List.map_append,g2,List.map_append];rfl,by rw [List.map_append,g3,List.map_append];rfl,?_,fun a ha=>?_,?_⟩
   ·rw [←List.cons_append,List.nodup_append]
    exact ⟨g4,by simp,fun a ha b hb=>by
     have:b=r':=by simpa using hb
     subst this
     rintro rfl
     rcases List.mem_cons.mp ha with z|z
     ·exact hrr z
     ·exact hrk z⟩
   ·rw [←List.cons_append] at ha
    rcases List.mem_append.mp ha with ha|ha
    ·exact fr a ha
    ·have:a=r':=by simpa using ha
     subst this
     obtain ⟨z1,_,z3,_⟩:=ok.jE k1
     exact ⟨k2,z3,z1⟩
   ·exact cB.snoc (by rw [ai hrr];exact k4) (k5.mv mv) (cB.mv mv (fun a ha o e=>by
     rw [ai (fun z=>(List.nodup_cons.mp g4).1 (by rw [←z];exact ha))];exact e) g5))
  (fun a ha=>by
   rcases List.mem_append.mp ha with ha|ha
   ·exact .inl ha
   ·have:a=r':=by simpa using ha
    subst this
    exact .inr ⟨k3,k1⟩)
 have z:=q _ rfl ok3 n3 (Kept.of e3)
 rw [←e3]
 exact z
theorem cB.at {S:Addr→Prop}{H:Hp}{y:Str}:∀ {ks:List Str}{us:List U}{as:List Addr}{kvs:List (Key×V)}{u:U},kvs.map (·.1)=ks.map Sum.inr→kvs.map (·.2)=as.map V.ref→as.Nodup→cB C S H us as→cN ks us y=some u →
  ∃ a ws ys,cD kvs (Sum.inr y)=some (.ref a)∧a∈as∧u=.lst ys∧H a=some (.lst ws)∧ah C S H ys ws∧∀ (H':Hp) (ys':List U) (ws':List V),Mv S H S H'→H' a=some (.lst ws')→ah C S H' ys' ws'→(∀ b∈as,b≠a→H' b=H b)→cB C S H' (hV ks us y (.lst ys')) as
 |[],us,as,kvs,u,_,_,_,_,h=>by cases us <;> cases h
 |k::ks,[],as,kvs,u,_,_,_,_,h=>by cases h
 |k::ks,u0::us,as,kvs,u,h1,h2,hn,hk,h=>by
  obtain ⟨a,as',ys,ws,rfl,rfl,g1,g2,g3⟩:=hk
  cases kvs with
  |nil=>simp at h1
  |cons p kvs =>
   rw [List.map_cons,List.map_cons,List.cons.injEq] at h1 h2
   rw [List.nodup_cons] at hn
   by_cases hy:k=y
   ·subst hy
    simp only [cN,if_true] at h
    cases h
    refine ⟨a,ws,ys,by rw [de h1.1,h2.1],by simp,rfl,g1,g2,fun H' ys' ws' mv e1 e2 e3=>?_⟩
    simp only [hV,if_true]
    exact ⟨a,as',ys',ws',rfl,rfl,e1,e2,cB.mv mv (fun b hb o e=>by rw [e3 b (by simp [hb]) (fun z=>hn.1 (z ▸ hb))];exact e) g3⟩
   ·simp only [cN,if_neg hy] at h
    obtain ⟨a1,ws1,ys1,f1,f2,f3,f4,f5,f6⟩:=cB.at h1.2 h2.2 hn.2 g3 h
    refine ⟨a1,ws1,ys1,?_,by simp [f2],f3,f4,f5,fun H' ys' ws' mv e1 e2 e3=>?_⟩
    ·rw [df (by rw [h1.1];intro z;exact hy (Sum.inr.inj z))];exact f1
    ·simp only [hV,if_neg hy]
     have ha:a≠a1:=fun z=>hn.1 (z ▸ f2)
     exact ⟨a,as',ys,ws,rfl,rfl,by rw [e3 a (by simp) ha];exact g1,g2.mv mv,f6 H' ys' ws' mv e1 e2 fun b hb=>e3 b (by simp [hb])⟩
theorem oZ {i:Nat}{y:Str}{u:U}{st:ag}{Q:Unit→ag→Prop} (h:W (iW i y u) st Q):∃ ks vs xs,st[i]?=some (some (.ownD,.dic ks vs))∧cN ks vs y=some (.lst xs)∧xs.length<sizeLine∧Q () (st.set i (some (.ownD,.dic ks (hV ks vs y (.lst (xs++[u])))))):=by
 obtain ⟨_,st',e,q⟩:=h
 unfold iW at e
 split at e
 ·rename_i ks vs hs
  split at e
  ·rename_i xs hx
   split at e
   ·rename_i hz
    cases e
    exact ⟨ks,vs,xs,hs,hx,hz,q⟩
   ·cases e
  ·cases e
 ·cases e
theorem yP (hK:C.K=X.K) {i:Nat}{x:Str}{px:Pos} (hu:X.A.units+60<cLine) (hN:X.N[i]?=some x) (hv:Vis X.env.scope x) (hd:(x==("__debug__":Str))=false) (hcd:(x==("__classdict__":Str))=false) (ha:PE X a (tEv C ma)) (hb:PE X b (tEv C mb)) (hsl:xZ b)
  (hfew:((backTo cpos (starEach [a] X.env)).all (fun x=>!x.1)&&(backToKw cpos (keywordEach [] X.env)).all (fun x=>x.1.isSome)
   && decide ([a].length+([]:List Keyword).length+(if ([]:List Keyword).isEmpty then 0 else 1)<30))=true)
  (hline:(apos.endLine==cpos.line)=true) (hst:starEach [a] X.env=[(false,eval a X.env)]) :
  L2.PS X (.Expr (.Call (.Attribute (.Subscript (.Name x px) b p) "append" apos) [a] [] cpos) pos) (tEx C ns (eO i >>= fun _=>mb >>= fun x=>fS x >>= fun y=>eO i >>= fun d=>if y∈d.1 then (ma >>= fun r=>lift r >>= fun u=>iW i y u >>= fun _=>pure .nx) else M.fail)):=by
 refine PS.weak (fA (sj PySem.F.plainAttrs_list PySem.F.slot_list_append PySem.F.type_list_append jR (vb (by omega) (bT hN hv hd hcd) hb hsl) (eF ha iz hst) rfl hfew hline hst rfl)) ?_
 rintro D σ H ⟨c0,rfl,rfl,ok,h⟩
 rw [ab] at h
 obtain ⟨ks0,us0,hs0,h⟩:=eJ h
 obtain ⟨r0,kvs0,e0,g0,_⟩:=ok.dic hs0
 refine ⟨.ref r0,e0,?_⟩
 refine aA ok h fun ry c vy t w=>?_
 rw [ab] at w
 obtain ⟨ky,uy⟩:=ry
 obtain ⟨y,ey,w1⟩:=eL w
 dsimp only at ey
 subst ey
 have ev:vy=.str y:=t.rx.str t.ok
 subst ev
 rw [ab] at w1
 obtain ⟨ks,us,hs,w2⟩:=eJ w1
 dsimp only at w2
 by_cases hy:y∈ks
 case neg=>rw [if_neg hy] at w2;exact (av.mp w2).elim
 rw [if_pos hy] at w2
 obtain ⟨r1,kvs,f1,g1,g2,g3,g4,g5,g6,_⟩:=t.ok.dic hs
 have er:r1=r0:=by rw [t.hσ,e0] at f1;cases f1;rfl
 subst er
 have hsome:=g6 y
 rw [decide_eq_true hy] at hsome
 obtain ⟨v0,hv0⟩:=Option.isSome_iff_exists.mp hsome
 have hmem:v0∈(c.kid i).map V.ref:=by
  rw [←g3]
  unfold cD at hv0
  obtain ⟨q,hq,rfl⟩:=Option.map_eq_some_iff.mp hv0
  exact List.mem_map_of_mem (List.mem_of_find?_eq_some hq)
 obtain ⟨a1,ha1,rfl⟩:=List.mem_map.mp hmem
 obtain ⟨vs1,hvs1⟩:=g5.mem ha1
 refine ⟨r1,.ref a1,rfl,by rw [←hv0];exact cW.k (k:=Sum.inr y) g1,Or.inl ⟨rfl,vs1,.inl (.inl hvs1)⟩,?_⟩
 rw [←t.hσ]
 refine aA t.ok w2 fun r c' v t' w3=>?_
 rw [ab] at w3
 obtain ⟨S',st',u,sS,ok1,n1,rep1,w4,_,_⟩:=fV t.ok t'.ok t'.nx t'.rx.w w3
 rw [ab] at w4
 obtain ⟨ks',vs',xs,hs',hx,hz,q⟩:=oZ w4
 rw [af] at q
 obtain ⟨r2,kvs',k1,k2,k3,k4,k5,k6,_,_⟩:=ok1.dic hs'
 have k1':c'.σ[i]?=some (some (.ref r2)):=k1
 have er:r2=r1:=by rw [t'.hσ,t.hσ,e0] at k1';cases k1';rfl
 subst er
 have k2':c'.H r2=some (.dK kvs'):=k2
 have ekv:kvs'=kvs:=by have:=t'.nx.all _ _ g1;rw [k2'] at this;cases this;rfl
 subst ekv
 have nd:=(List.nodup_cons.mp k5).2
 obtain ⟨a2,ws,ys,l1,l2,l3,l4,l5,l6⟩:=cB.at k3 k4 nd k6 hx
 cases l3
 rw [hv0] at l1
 cases l1
 have l4':c'.H a1=some (.lst ws):=l4
 refine ⟨a1,ws,v,rfl,rfl,l4',by rw [←l5.len];exact hz,?_⟩
 have hne:a1≠r2:=fun z=>(List.nodup_cons.mp k5).1 (z ▸ l2)
 obtain ⟨ok2,n2⟩:=Ok.Af (c:={ c' with S:=S',st:=st' }) (H':=upd c'.H a1 (.lst (ws++[v]))) (u':=.dic ks' (hV ks' vs' y (.lst (xs++[u])))) (as':=c'.kid i) ok1 (t.nx.trans n1).toNs hs' k1
  (fun a ne=>ai fun z=>ne ⟨_,_,hs',k1,.inr (z ▸ l2)⟩) (fun a o e=>by
   by_cases hz:a=a1
   ·subst hz;exact ⟨_,aq⟩
   ·rw [ai hz];exact ⟨o,e⟩)
  (fun mv=>⟨kvs',by rw [ai (Ne.symm hne)];exact k2,k3,k4,k5,bK.fr (ok1.dd.kd i _ _ hs' k1),l6 _ _ _ mv aq ((l5.mv mv).snoc (rep1.mv mv)) fun b _ ne=>ai ne⟩)
  (fun a ha=>.inl ha)
 have z:=q _ rfl ok2 n2 (Kept.of (t'.hσ.trans t.hσ))
 rw [←t'.hσ]
 exact z
end
end TM
namespace TM
open PySem L2 PyProof.Rows
section
variable {X : Cx} {C : Ct} {pins : List (Addr × Obj)} {s : Shared} {c0 c c1 : Cf}
variable {a b d e o : Expr} {es : List Expr} {m ma mb md me : M (Kd × U)} {pos p p2 apos cpos : Pos} {ns : Nat → Bool}
theorem tM {u:U}{st:ag}{Q:Unit→ag→Prop} (h:W (isD u) st Q):∃ ks us,u=.dic ks us∧Q () st:=by
 cases u <;> first|exact (av.mp h).elim|skip
 exact ⟨_,_,rfl,af.mp h⟩
theorem j6 {x:Kd×U}{st:ag}{Q:Int→ag→Prop} (h:W (rg x) st Q):∃ j,x.2=.int j∧Q j st:=by
 unfold rg at h
 split at h
 ·rename_i y e;rw [af] at h;exact ⟨y,e,h⟩
 ·exact (av.mp h).elim
theorem j7 {i:Nat}{st:ag}{Q:List U→ag→Prop} (h:W (m3 i) st Q):∃ k us,k.root=true∧st[i]?=some (some (k,.lst us))∧Q us st:=by
 obtain ⟨r,st',e,q⟩:=h
 unfold m3 at e
 split at e
 ·rename_i k us hs
  split at e
  ·rename_i hk;cases e;exact ⟨k,_,hk,hs,q⟩
  ·cases e
 ·cases e
theorem m8 {y:Str}:∀ {ks:List Str}{us:List U},y∈ks→ks.length=us.length→cN ks us y=none→False
 |[],us,h,_,_=>by cases h
 |k::ks,[],_,h,_=>by simp at h
 |k::ks,u::us,h,hl,e=>by
  by_cases hk:k=y
  ·simp [cN,hk] at e
  ·simp only [cN,if_neg hk] at e
   rcases List.mem_cons.mp h with h|h
   ·exact hk h.symm
   ·exact m8 h (by simpa using hl) e
theorem tN {i:Nat}{x:Str}{px:Pos} (hu:X.A.units+60<cLine) (hN:X.N[i]?=some x) (hv:Vis X.env.scope x) (hd:(x==("__debug__":Str))=false) (hcd:(x==("__classdict__":Str))=false)
  (ha:PE X a (tEv C ma)) (hb:PE X b (tEv C mb)) (hm:M2 X (.Name x px) "get" apos a b cpos) :
  PE X (.Call (.Attribute (.Name x px) "get" apos) [a,b] [] cpos) (tEv C (cT i >>= fun x=>isD x.2 >>= fun _=>ma >>= fun y=>fS y >>= fun y=>mb >>= fun z=>lift z >>= fun u=>cT i >>= fun x=>M.ofO (vD x y u))):=by
 rintro pins s σ H Q I ⟨c0,rfl,rfl,ok,h⟩
 refine sx (by omega) (bT hN hv hd hcd) ha hb hm pins s c0.σ c0.H Q I ?_
 rw [ab] at h
 obtain ⟨k0,u0,hn0,hs0,h⟩:=cH h
 obtain ⟨v0,e0,t0⟩:=ok.slot hn0 hs0
 rw [ab] at h
 obtain ⟨ks0,us0,eu0,h'⟩:=tM h
 dsimp only at eu0
 subst eu0
 obtain ⟨a0,kvs0,rfl,g0,_⟩:=t0.dict ok
 refine ⟨.ref a0,e0,a0,rfl,.inl ⟨kvs0,.inl g0⟩,?_⟩
 refine aA ok h' fun ry c vy t w=>?_
 rw [ab] at w
 obtain ⟨ky,uy⟩:=ry
 obtain ⟨y,ey,w1⟩:=eL w
 dsimp only at ey
 subst ey
 have ev:vy=.str y:=t.rx.str t.ok
 subst ev
 rw [←t.hσ]
 refine aA t.ok w1 fun z c2 vz t2 w2=>?_
 rw [ab] at w2
 obtain ⟨S',st',u,sS,ok1,n1,rep1,w4,_,_⟩:=fV t.ok t2.ok t2.nx t2.rx.w w2
 rw [ab] at w4
 obtain ⟨k,u1,hn1,hs1,w5⟩:=cH w4
 obtain ⟨r,er,q⟩:=bP.mp w5
 obtain ⟨v1,e1,t1⟩:=ok1.slot hn1 hs1
 have e1':c2.σ[i]?=some (some v1):=e1
 rw [t2.hσ,t.hσ,e0] at e1'
 cases e1'
 cases u1 <;> first|(simp only [vD] at er;cases er;done)|skip
 rename_i ks us
 obtain ⟨a1,kvs,ea,g1,g2,g3⟩:=t1.dict ok1
 cases ea
 have g1':c2.H a0=some (.dK kvs):=g1
 refine ⟨_,cW.k (k:=Sum.inr y) g1',?_⟩
 simp only [vD] at er
 obtain ⟨l1,l2⟩:=cG (x:=y) g2 g3
 have fin:∀ v:V,aB C c0 { c2 with S:=S',st:=st' } r.1 r.2 v→Q v c2.H:=fun v z=>q { c2 with S:=S',st:=st' } v (t2.hσ.trans t.hσ) rfl ok1 (t.nx.trans n1) z
 cases hg:cN ks us y with
 |some w =>
  rw [hg] at er
  cases er
  obtain ⟨v,ev,rv⟩:=l1 w hg
  rw [ev]
  refine fin v ?_
  exact aB.item (k:=if k.root=true then .bor i else k) rv
 |none =>
  rw [hg] at er
  cases er
  have hnone:cD kvs (Sum.inr y)=none:=by
   cases hq:cD kvs (Sum.inr y) with
   |none=>rfl
   |some v =>
    exfalso
    rw [hq] at l2
    have hy:y∈ks:=by simpa using l2.symm
    have hlen:ks.length=us.length:=by have h1:=congrArg List.length g2;have h2:=g3.len;simp at h1 h2;omega
    exact m8 hy hlen hg
  rw [hnone]
  exact fin vz rep1
theorem tP:zq X (fun o i H Q=>∃ p xs j v,o=.ref p∧i=.int j∧H p=some (.lst xs)∧0≤j∧xs[j.toNat]?=some v∧Q v H):=by
 rintro pins s σ H o i ov iv Q I ro ri ⟨p,xs,j,v,rfl,rfl,hp,h0,hv,q⟩
 cases ro
 obtain ⟨t,rfl⟩:=ri
 obtain ⟨its,r,pl,hz⟩:=I.list (.inl (.inl hp))
 obtain ⟨w,ew,rw'⟩:=r.get hv
 have hl:=r.length
 have hn:=dY
 have hlt:=(List.getElem?_eq_some_iff.mp hv).1
 exact wpAny_getItem_list pl.isList h0 (by omega) (by simpa using ew) ⟨v,H,I,rw',q⟩
theorem v9 {sub:Bool}:PIp X (if sub=true then .Sub else .Add) (ipI (rh sub)):=by
 cases sub with
 |true=>exact xH
 |false=>exact xG
theorem Ag {i:Nat}{x:Str}{px:Pos}{sub:Bool} (hN:X.N[i]?=some x) (hv:Vis X.env.scope x) (hd:(x==("__debug__":Str))=false) (hcd:(x==("__classdict__":Str))=false)
  (ha:PE X a (tEv C ma)) (hb:PE X b (tEv C mb))
  (has:∀ ov iv new,augStore b ov iv new=(do holding [new,ov,iv] (setItem ov iv new);release [new,ov,iv] [];pure .next)) :
  L2.PS X (.AugAssign (.Subscript (.Name x px) b p) (if sub=true then .Sub else .Add) a pos) (tEx C ns (m3 i >>= fun _=>mb >>= fun y=>rg y >>= fun j=>m3 i >>= fun us=>M.ofO (m4 us j) >>= fun o=>ma >>= fun z=>rg z >>= fun w=>modS i (cZ (.int j) (.int (rh sub o w))) >>= fun _=>pure .nx)):=by
 refine PS.weak (uU (bT hN hv hd hcd) hb tP ha v9 set_list has) ?_
 rintro D σ H ⟨c0,rfl,rfl,ok,h⟩
 rw [ab] at h
 obtain ⟨k0,us0,hk0,hs0,h⟩:=j7 h
 obtain ⟨v0,e0,sl0⟩:=ok.sl i _ _ hs0
 obtain ⟨a0,rfl,_,_,_,_⟩:=sl0.rt hk0
 refine ⟨.ref a0,e0,?_⟩
 refine aA ok h fun ry c vy t w=>?_
 rw [ab] at w
 obtain ⟨ky,uy⟩:=ry
 obtain ⟨j,ey,w1⟩:=j6 w
 dsimp only at ey
 subst ey
 have ev:vy=.int j:=t.rx.int t.ok
 subst ev
 rw [ab] at w1
 obtain ⟨k1,us1,hk1,hs1,w2⟩:=j7 w1
 rw [ab] at w2
 obtain ⟨o,ho,w3⟩:=bP.mp w2
 obtain ⟨v1,e1,sl1⟩:=t.ok.sl i _ _ hs1
 obtain ⟨a1,rfl,_,_,_,root1⟩:=sl1.rt hk1
 rw [t.hσ,e0] at e1
 cases e1
 obtain ⟨vs,g1,g2⟩:=root1
 unfold m4 at ho
 split at ho
 case isFalse=>cases ho
 rename_i hj0
 split at ho
 case h_2=>cases ho
 rename_i o' hget
 cases ho
 obtain ⟨vo,hvo,rvo⟩:=g2.get hget
 have ero:vo=.int o:=rvo
 subst ero
 refine ⟨a0,vs,j,_,rfl,rfl,g1,hj0,hvo,?_⟩
 rw [←t.hσ]
 refine aA t.ok w3 fun z c2 vz t2 w4=>?_
 rw [ab] at w4
 obtain ⟨kz,uz⟩:=z
 obtain ⟨w,ez,w5⟩:=j6 w4
 dsimp only at ez
 subst ez
 have ev:vz=.int w:=t2.rx.int t2.ok
 subst ev
 refine ⟨o,w,rfl,rfl,?_⟩
 rw [ab] at w5
 obtain ⟨k,u1,u2,hk,hs2,hf,q⟩:=dm w5
 rw [af] at q
 obtain ⟨v2,e2,sl2⟩:=t2.ok.sl i _ _ hs2
 obtain ⟨a2,rfl,_,_,_,root2⟩:=sl2.rt hk
 have e2s:=e2
 rw [t2.hσ,t.hσ,e0] at e2
 cases e2
 have g1':c2.H a0=some (.lst vs):=t2.nx.all _ _ g1
 cases u1 with
 |lst xs =>
  simp only [cZ,Option.map_eq_some_iff] at hf
  obtain ⟨j',hj',rfl⟩:=hf
  obtain ⟨vs2,l1,l2⟩:=root2
  rw [g1'] at l1
  cases l1
  refine ⟨a0,vs,j,j',rfl,rfl,g1',by rw [←l2.len];exact hj',?_⟩
  obtain ⟨ok3,n3⟩:=Ok.mod (c:=c2) (H':=upd c2.H a0 (.lst (vs.set j' (.int (rh sub o w))))) (u':=.lst (xs.set j' (.int (rh sub o w)))) t2.ok (t.nx.trans t2.nx).toNs hk hs2 e2s (fun a ne=>ai ne) ⟨_,aq⟩ fun mv=>⟨_,aq,(l2.mv mv).set j' rfl⟩
  have z:=q _ rfl ok3 n3 (Kept.of (t2.hσ.trans t.hσ))
  rw [←t2.hσ]
  exact z
 |dic ks vs=>simp [cZ] at hf
 |rdc ks=>simp [cZ,rowOf] at hf
 |_=>simp [cZ] at hf
theorem Ah {i:Nat}{x:Str}{px:Pos} (hN:X.N[i]?=some x) (hv:Vis X.env.scope x) (hd:(x==("__debug__":Str))=false) (hcd:(x==("__classdict__":Str))=false) (hline:(apos.endLine==cpos.line)=true) :
  L2.PS X (.Expr (.Call (.Attribute (.Name x px) "reverse" apos) [] [] cpos) pos) (tEx C ns (modS i vE >>= fun _=>pure .nx)):=by
 refine PS.weak (fA (xT PySem.F.plainAttrs_list PySem.F.slot_list_reverse PySem.F.type_list_reverse oy (bT hN hv hd hcd) rfl hline)) ?_
 rintro D σ H ⟨c0,rfl,rfl,ok,h⟩
 rw [ab] at h
 obtain ⟨k,u1,u2,hk,hs2,hf,q⟩:=dm h
 rw [af] at q
 obtain ⟨v2,e2,sl2⟩:=ok.sl i _ _ hs2
 obtain ⟨a0,rfl,_,_,_,root2⟩:=sl2.rt hk
 refine ⟨.ref a0,e2,?_⟩
 cases u1 with
 |lst xs =>
  simp only [vE] at hf
  cases hf
  obtain ⟨vs,l1,l2⟩:=root2
  refine ⟨Or.inl ⟨rfl,vs,.inl (.inl l1)⟩,a0,vs,rfl,rfl,l1,?_⟩
  obtain ⟨ok3,n3⟩:=Ok.mod (c:=c0) (H':=upd c0.H a0 (.lst vs.reverse)) (u':=.lst xs.reverse) ok (Ns.refl c0) hk hs2 e2 (fun a ne=>ai ne) ⟨_,aq⟩ fun mv=>⟨_,aq,(l2.mv mv).rev⟩
  exact q _ rfl ok3 n3 Kept.refl
 |_=>cases hf
end
end TM
namespace TM
open PySem L2 PyProof.Rows
section
variable {X : Cx} {C : Ct} {pins : List (Addr × Obj)} {s : Shared} {c0 c c1 : Cf}
theorem gP:∀ {us:List U}{ns:List Int},intsOf us=some ns→us=ns.map .int
 |[],ns,h=>by cases h;rfl
 |u::us,ns,h=>by
  cases u <;> first|(cases h;done)|skip
  rename_i x
  have h':(intsOf us).map (x::·)=some ns:=h
  rw [Option.map_eq_some_iff] at h'
  obtain ⟨ms,e,rfl⟩:=h'
  rw [gP e]
  rfl
theorem ah.ints {S:Addr→Prop}{H:Hp}:∀ {ns:List Int}{vs:List V},ah C S H (ns.map .int) vs→vs=ns.map V.int
 |[],vs,h=>h
 |n::ns,vs,h=>by
  obtain ⟨v,r,rfl,h1,h2⟩:=h
  rw [ah.ints h2]
  have:v=.int n:=h1
  rw [this];rfl
theorem v_ {kvs:List (Key×V)}{ks:List Str}{ns:List Int} (h1:kvs.map (·.1)=ks.map Sum.inr) (h2:kvs.map (·.2)=ns.map V.int):kvs=(ks.zip ns).map fun p=>((Sum.inr p.1:Key),V.int p.2):=by
 induction kvs generalizing ks ns with
 |nil =>
  cases ks with
  |nil=>rfl
  |cons _ _=>cases h1
 |cons kv kvs ih =>
  cases ks with
  |nil=>cases h1
  |cons k ks =>
   cases ns with
   |nil=>cases h2
   |cons n ns =>
    obtain ⟨a,b⟩:=kv
    simp only [List.map_cons,List.cons.injEq] at h1 h2
    obtain ⟨rfl,h1⟩:=h1
    obtain ⟨rfl,h2⟩:=h2
    rw [ih h1 h2]
    rfl
theorem ah.of_map {S:Addr→Prop}{H:Hp}{α:Type}{f:α→U}{g:α→V}:∀ {l:List α},(∀ x∈l,Rep C S H (f x) (g x))→ah C S H (l.map f) (l.map g)
 |[],_=>rfl
 |x::l,h=>⟨g x,l.map g,rfl,h x (by simp),ah.of_map fun y hy=>h y (by simp [hy])⟩
theorem wa {i:Nat}{x:Str}{p px apos cpos pos:Pos} (hc:X.calm=true) (hK:C.K=X.K) (hg:Gl X "sorted") (hm:X.mg "sorted"=none) (hN:X.N[i]?=some x) (hv:Vis X.env.scope x) (hd:(x==("__debug__":Str))=false) (hcd:(x==("__classdict__":Str))=false) (hline:(apos.endLine==cpos.line)=true) :
  PE X (.Call (.Name "sorted" p) [.Call (.Attribute (.Name x px) "items" apos) [] [] cpos] [] pos) (tEv C (cT i >>= fun x=>M.ofO (sU x.2))):=by
 rintro pins s σ H Q I ⟨c0,rfl,rfl,ok,h⟩
 refine wpAny_Call_Name_kw (dr I hg hm (show bootBuiltins "sorted"=some (.builtin "sorted") by decide +kernel) ?_ (by decide +kernel) (by decide +kernel))
 rw [ab] at h
 obtain ⟨k0,u0,hn0,hs0,h⟩:=cH h
 obtain ⟨v0,e0,t0⟩:=ok.slot hn0 hs0
 obtain ⟨r,er,want⟩:=bP.mp h
 dsimp only at er
 unfold sU at er
 split at er
 rotate_left
 ·cases er
 rename_i ks us
 rw [Option.bind_eq_some_iff] at er
 obtain ⟨ns,en,er⟩:=er
 split at er
 rotate_left
 ·cases er
 rename_i hcnd
 cases er
 obtain ⟨h64,hnd,hlen⟩:=hcnd
 obtain ⟨d,kvs,rfl,hd0,hk0,hr0⟩:=t0.dict ok
 rw [gP en] at hr0
 have ekv:=v_ hk0 (ah.ints hr0)
 subst ekv
 have ek:((ks.zip ns).map (·.1))=ks:=List.map_fst_zip (by omega)
 have inner:wpAny (model X.prog X.w) X.A (eval (.Call (.Attribute (.Name x px) "items" apos) [] [] cpos) X.env) (fun v s1=>wpAny (model X.prog X.w) X.A (call (.builtin "sorted") [v]) (EP X pins c0.σ Q) X.xe s1) X.xe s:=by
  refine wpAny_Call_method0_late rfl hline (thn (bT hN hv hd hcd pins s c0.σ c0.H (fun v H1=>v=.ref d∧H1=c0.H) I ⟨_,e0,rfl,rfl⟩) fun v s1 ⟨x1,H1,I1,r1,z1,z2⟩=>?_)
  subst z1 z2
  cases (show v=Value.ref d from r1)
  obtain ⟨h1,h2⟩:=kR (T:="dict") I1 (x:=.ref d) rfl (.inr (.inr (.inl ⟨rfl,.inl ⟨_,hd0⟩⟩)))
  refine ⟨"dict","dict.items",PySem.F.plainAttrs_dict,PySem.F.slot_dict_items,PySem.F.type_dict_items,h1,h2,Calls.callWith_builtin rfl (PySem.evalArgs_none (lq hc I1 hd0 (by rw [ek];exact hnd) (by rw [List.length_zip];omega) fun as L hl nd hno hL=>?_))⟩
  have hLn:c0.H L=none:=hno L (by simp)
  have hzl:(as.zip ((ks.zip ns).map prV)).map (·.1)=as:=List.map_fst_zip (by rw [List.length_map];omega)
  have hzm:∀ p∈as.zip ((ks.zip ns).map prV),p.1∈as:=fun p hp=>(List.of_mem_zip hp).1
  have same:xW c0.H (upd (hJ c0.H (as.zip ((ks.zip ns).map prV))) L (.lst ((gZ ((ks.zip ns).map (·.1))).map fun i=>V.ref (as.getD i 0)))):=fun a o e=>by
   have n1:a≠L:=fun y=>by rw [y,hLn] at e;cases e
   rw [ai n1,iS fun p hp y=>?_]
   ·exact e
   ·have:=hno p.1 (by simp [hzm p hp])
    rw [y,e] at this
    cases this
  obtain ⟨ok',n'⟩:=ok.grow (S':=c0.S) same (fun a z=>.inl z) fun a z=>z
  obtain ⟨q1,q2,q3,q4,q5⟩:=ok.jE hLn
  refine want { c0 with H:=upd (hJ c0.H (as.zip ((ks.zip ns).map prV))) L (.lst ((gZ ((ks.zip ns).map (·.1))).map fun i=>V.ref (as.getD i 0))),S:=c0.S } _ rfl rfl ok' n' ⟨L,rfl,hLn,q2,q5,_,aq,?_⟩
  show ah C c0.S _ ((vC (ks.zip ns)).map rf) _
  unfold vC
  rw [List.map_map]
  refine ah.of_map fun j hj=>?_
  have hj':j<(ks.zip ns).length:=by
   have:=List.mem_range.mp ((eG _).mem_iff.mp hj)
   rw [List.length_map] at this
   exact this
  have hja:j<as.length:=by omega
  have e1:(ks.zip ns).getD j (Str.empty,0)=(ks.zip ns)[j]:=(List.getElem_eq_getD _).symm
  have e2:as.getD j 0=as[j]:=by simp [List.getD,hja]
  show Rep C c0.S _ (rf ((ks.zip ns).getD j (Str.empty,0))) (V.ref (as.getD j 0))
  rw [e1,e2]
  refine ⟨as[j],prV (ks.zip ns)[j],rfl,SqT.of ?_,⟨_,_,rfl,rfl,_,_,rfl,rfl,rfl⟩⟩
  have hne:as[j]≠L:=fun y=>hL (by rw [←y];simp)
  refine (ai hne).trans (p8 (by rw [hzl];exact nd) (vs:=prV (ks.zip ns)[j]) ?_)
  refine List.mem_iff_getElem.mpr ⟨j,by rw [List.length_zip,List.length_map];omega,?_⟩
  rw [List.getElem_zip,List.getElem_map]
 have eb:backTo pos (starEach [.Call (.Attribute (.Name x px) "items" apos) [] [] cpos] X.env)=[(false,eval (.Call (.Attribute (.Name x px) "items" apos) [] [] cpos) X.env)]:=rfl
 have ek':backToKw pos (keywordEach [] X.env)=[]:=rfl
 rw [eb,ek']
 exact tw inner
end
end TM
namespace TM
open PySem L2 PyProof.Rows
structure Ck where
 fns:List Str
 gl:List (Str×U)
noncomputable def gy:U→U→Bool
 |.int i,.int j=>decide (i=j)
 |.str x,.str y=>decide (x=y)
 |.bl a,.bl b=>a==b
 |.non,.non=>true
 |_,_=>false
theorem bU {u v:U} (h:gy u v=true):u=v:=by
 cases u <;> cases v <;> simp [gy] at h <;> subst_vars <;> rfl
noncomputable def noStar:Expr→Bool
 |.Starred _ _=>false
 |_=>true
noncomputable def cV:Expr→Bool
 |.Slice _ _ _ _=>false
 |_=>true
noncomputable def o_:Expr→Bool
 |.Set _ _ _=>false
 |_=>true
noncomputable def lG:Expr→Bool
 |.Call (.Name _ _) [] [] _=>false
 |_=>true
noncomputable def cF:Expr→Bool
 |.ListComp _ _ _ _=>false
 |.SetComp _ _ _ _=>false
 |.DictComp _ _ _ _ _=>false
 |_=>true
noncomputable def yQ:Expr→Bool
 |.Tuple _ _ _=>false
 |_=>true
noncomputable def glB (sc:Scope) (x:Str):Bool:=decide (sc.names.lookup x=some .globalImplicit)
noncomputable def f_ (sc:Scope) (x:Str):Bool:=decide (sc.names.lookup x=some .local)||decide (sc.names.lookup x=some .cell)||decide (sc.names.lookup x=some .free)
noncomputable def pd (sc:Scope) (x:Str):Bool:=decide (sc.names.lookup x=some .local)||decide (sc.names.lookup x=some .cell)
noncomputable def Ai (sc:Scope) (x:Str):Bool:=decide (sc.names.lookup x=some .local)
noncomputable def bN (x:Str):Bool:=!(x==("__debug__":Str))&&!(x==("__classdict__":Str))
noncomputable def ql (N:List Str) (sc:Scope) (fa:Bool) (i:Nat):Expr→Bool
 |.Name x _=>decide (N[i]?=some x)&&pd sc x&&(fa||Ai sc x)
 |_=>false
noncomputable def lH (N:List Str) (sc:Scope) (fa:Bool):List Nat→List Expr→Bool
 |[],[]=>true
 |i::is,e::es=>ql N sc fa i e&&lH N sc fa is es
 |_,_=>false
noncomputable def eY:Expr→List Str
 |.Name x _=>[x]
 |.Tuple es _ _=>es.filterMap fun|.Name x _=>some x|_=>none
 |_=>[]
noncomputable def hide (own N:List Str):List Str:=match own.filter fun x=>decide (x∈N) with
 |[]=>N
 |[x]=>N.set (N.idxOf x) "."
 |x::y::_=>(N.set (N.idxOf x) ".").set (N.idxOf y) ".."
noncomputable def tgB (t:Bool) (N:List Str) (sc:Scope) (fa:Bool) (is:List Nat):Expr→Bool
 |.Name x p=>!t&&(match is with|[i]=>ql N sc fa i (.Name x p)|_=>false)
 |.Tuple es _ _=>t&&lH N sc fa is es&&is.all fun i=>decide (i<N.length)
 |_=>false
noncomputable def isTup:Expr→Bool
 |.Tuple _ _ _=>true
 |_=>false
noncomputable def lI (e:Expr):Option (Str×List Expr):=match e with
 |.Call f as kw _=>match f with
  |.Name x _=>if kw.isEmpty=true then some (x,as) else none
  |_=>none
 |_=>none
theorem gQ {e:Expr}{x:Str}{as:List Expr} (h:lI e=some (x,as)):∃ p q,e=.Call (.Name x p) as [] q:=by
 unfold lI at h
 split at h
 ·split at h
  ·split at h
   ·rename_i hk
    rw [List.isEmpty_iff] at hk
    cases h
    subst hk
    exact ⟨_,_,rfl⟩
   ·cases h
  ·cases h
 ·cases h
noncomputable def d9 (sc:Scope) (tg:Expr) (ik:Ik) (e:Expr):Option (List Expr):=match ik with
 |.seq=>some [e]
 |.rng1=>(lI e).bind fun p=>if p.1="range"∧glB sc p.1=true∧p.2.length=1 then some p.2 else none
 |.enm=>(lI e).bind fun p=>if p.1="enumerate"∧glB sc p.1=true∧p.2.length=1∧isTup tg=true then some p.2 else none
 |_=>none
noncomputable def simple:Bf→Bool:=fun _=>true
noncomputable def yR (scope sc:Scope):Scope:={ scope with names:=scope.names.map fun (n,k)=>if (k==NameKind.free&&sc.kind==.function&&sc.names.lookup n==some .cell)=true then (n,.cell) else (n,k) }
noncomputable def bu (e:Expr) (k:Str→Bool):Bool:=match e with|.Name x _=>k x|_=>false
theorem aj {e:Expr}{k:Str→Bool} (h:bu e k=true):∃ x p,e=.Name x p∧k x=true:=by
 unfold bu at h
 split at h
 ·exact ⟨_,_,rfl,h⟩
 ·cases h
noncomputable def eZ {α:Type} (l:List α) (k:α→Bool):Bool:=match l with|[a]=>k a|_=>false
theorem bw {α:Type}{l:List α}{k:α→Bool} (h:eZ l k=true):∃ a,l=[a]∧k a=true:=by
 unfold eZ at h
 split at h
 ·exact ⟨_,rfl,h⟩
 ·cases h
noncomputable def dF (e:Expr) (k:Expr→List Expr→Pos→Bool):Bool:=match e with|.Call f as kw p=>kw.isEmpty&&k f as p|_=>false
theorem aH {e:Expr}{k:Expr→List Expr→Pos→Bool} (h:dF e k=true):∃ f as p,e=.Call f as [] p∧k f as p=true:=by
 unfold dF at h
 split at h
 ·rename_i f as kw p
  rw [Bool.and_eq_true,List.isEmpty_iff] at h
  obtain ⟨rfl,h⟩:=h
  exact ⟨_,_,_,rfl,h⟩
 ·cases h
noncomputable def pe (e:Expr) (k:Expr→Str→Pos→Bool):Bool:=match e with|.Attribute o m p=>k o m p|_=>false
theorem m9 {e:Expr}{k:Expr→Str→Pos→Bool} (h:pe e k=true):∃ o m p,e=.Attribute o m p∧k o m p=true:=by
 unfold pe at h
 split at h
 ·exact ⟨_,_,_,rfl,h⟩
 ·cases h
noncomputable def qm (e:Expr) (k:Expr→CmpOp→Expr→Bool):Bool:=match e with|.Compare a ops bs _=>eZ ops fun op=>eZ bs fun b=>k a op b|_=>false
theorem dG {e:Expr}{k:Expr→CmpOp→Expr→Bool} (h:qm e k=true):∃ a op b p,e=.Compare a [op] [b] p∧k a op b=true:=by
 unfold qm at h
 split at h
 ·obtain ⟨op,rfl,z1⟩:=bw h
  obtain ⟨b,rfl,z2⟩:=bw z1
  exact ⟨_,_,_,_,rfl,z2⟩
 ·cases h
noncomputable def d_ (e:Expr) (k:Expr→Str→Pos→List Expr→Pos→Bool):Bool:=dF e fun f as cpos=>pe f fun o m apos=>k o m apos as cpos
theorem bq {e:Expr}{k:Expr→Str→Pos→List Expr→Pos→Bool} (h:d_ e k=true):∃ o m apos as cpos,e=.Call (.Attribute o m apos) as [] cpos∧k o m apos as cpos=true:=by
 obtain ⟨f,as,p,rfl,h⟩:=aH h
 obtain ⟨o,m,q,rfl,h⟩:=m9 h
 exact ⟨_,_,_,_,_,rfl,h⟩
noncomputable def j8 (e:Expr) (k:Expr→Expr→Bool):Bool:=match e with|.Subscript a b _=>k a b|_=>false
theorem dH {e:Expr}{k:Expr→Expr→Bool} (h:j8 e k=true):∃ a b p,e=.Subscript a b p∧k a b=true:=by
 unfold j8 at h
 split at h
 ·exact ⟨_,_,_,rfl,h⟩
 ·cases h
mutual
noncomputable def ax (k:Ck):E→List Str→Scope→Expr→Bool
 |.var i,N,sc,e'=>match e' with
  |.Name x _=>decide (N[i]?=some x)&&f_ sc x&&bN x
  |_=>false
 |.cst u,N,sc,e'=>match e' with
  |.Constant (.int j) _ _=>gy u (.int j)
  |.Constant (.str y) _ _=>gy u (.str y)
  |.Constant (.bool y) _ _=>gy u (.bl y)
  |.Constant .none _ _=>gy u .non
  |_=>false
 |.glb _ _,_,_,_=>false
 |.bin op a b,N,sc,e'=>match e' with
  |.BinOp a' op' b' _=>decide (op.op=op')&&ax k a N sc a'&&ax k b N sc b'
  |_=>false
 |.cmp op a b,N,sc,e'=>qm e' fun a' op' b'=>decide (op.op=op')&&!behindInMarks op' b'&&ax k a N sc a'&&ax k b N sc b'
 |.cmp2 _ _ _ _ _,_,_,_=>false
 |.and es,N,sc,e'=>match e' with
  |.BoolOp .And es' _=>az k es N sc es'
  |_=>false
 |.or es,N,sc,e'=>match e' with
  |.BoolOp .Or es' _=>az k es N sc es'
  |_=>false
 |.not a,N,sc,e'=>match e' with
  |.UnaryOp .Not a' _=>ax k a N sc a'
  |_=>false
 |.ite _ _ _,_,_,_=>false
 |.neg _,_,_,_=>false
 |.bad,_,_,_=>true
 |.inD neg a i,N,sc,e'=>qm e' fun a' op' b'=>bu b' fun x=>decide (tL neg=op')&&!behindInMarks op' b'&&decide (N[i]?=some x)&&f_ sc x&&bN x&&ax k a N sc a'
 |.pub i,N,sc,e'=>match e' with
  |.Name x _=>decide (N[i]?=some x)&&f_ sc x&&bN x
  |_=>false
 |.get2 i a b,N,sc,e'=>d_ e' fun o m apos as cpos=>bu o fun x=>match as with
  |[a',b']=>decide (m="get")&&decide (N[i]?=some x)&&f_ sc x&&bN x&&(apos.endLine==cpos.line)&&noStar a'&&noStar b'&&ax k a N sc a'&&ax k b N sc b'
  |_=>false
 |.sit i,N,sc,e'=>dF e' fun f' as _=>bu f' fun f=>eZ as fun c=>d_ c fun o m apos bs cpos=>bu o fun x=>bs.isEmpty&&decide (f="sorted")&&glB sc f&&decide (m="items")&&decide (N[i]?=some x)&&f_ sc x&&bN x&&(apos.endLine==cpos.line)
 |.sdf _ _ _,_,_,_=>false
 |.fst es,N,sc,e'=>false
 |.isi a T,N,sc,e'=>dF e' fun f' as _=>bu f' fun x=>match as with
  |[a',b']=>bu b' fun y=>decide (x="isinstance")&&decide (y=T.name)&&glB sc x&&glB sc y&&noStar a'&&ax k a N sc a'
  |_=>false
 |.tup es,N,sc,e'=>match e' with
  |.Tuple es' _ _=>az k es N sc es'
  |_=>false
 |.lst es,N,sc,e'=>match e' with
  |.List es' _=>az k es N sc es'
  |_=>false
 |.dnew _,N,sc,e'=>match e' with
  |.Dict [] [] _=>true
  |_=>false
 |.idx a b,N,sc,e'=>match e' with
  |.Subscript a' b' _=>cV b'&&ax k a N sc a'&&ax k b N sc b'
  |_=>false
 |.slc a lo hi,N,sc,e'=>match e' with
  |.Subscript a' (.Slice lo' hi' none _) _=>ax k a N sc a'&&pf k lo N sc lo'&&pf k hi N sc hi'
  |_=>false
 |.bi f es,N,sc,e'=>dF e' fun f' es' _=>bu f' fun x=>decide (x=f.name)&&simple f&&glB sc x&&!es'.isEmpty&&az k es N sc es'
 |.bi2 f es,N,sc,e'=>dF e' fun f' as _=>bu f' fun x=>eZ as fun c=>dF c fun g' es' _=>bu g' fun y=>decide (x=f.lC)&&decide (y=f.fY)&&glB sc x&&glB sc y&&!es'.isEmpty&&az k es N sc es'
 |.mth m a es,N,sc,e'=>d_ e' fun o name apos es' cpos=>decide (name=m.name)&&lG o&&(apos.endLine==cpos.line)&&!es'.isEmpty&&decide (es'.length<20)&&ax k a N sc o&&az k es N sc es'
 |.call f es,N,sc,e'=>dF e' fun f' es' _=>bu f' fun x=>decide (x=f)&&decide (f∈k.fns)&&glB sc x&&bN x&&!es'.isEmpty&&az k es N sc es'
 |.comp n t ik src cond e,N,sc,e'=>match e' with
  |.ListComp elt [⟨tg,iter,ifs,0⟩] scope _ =>
   decide ((eY tg).length=n)&&yc (eY tg++hide (eY tg) N) (eY tg) scope sc.names&&tgB t (eY tg++hide (eY tg) N) (yR scope sc) false (List.range n) tg&&o_ iter &&
   (match d9 sc tg ik iter with
    |some as=>az k src N sc as
    |none=>false) &&
   decide (ifs.length≤1)&&az k cond (eY tg++hide (eY tg) N) (yR scope sc) ifs&&ax k e (eY tg++hide (eY tg) N) (yR scope sc) elt
  |_=>false
noncomputable def az (k:Ck):List E→List Str→Scope→List Expr→Bool
 |[],_,_,es'=>es'.isEmpty
 |e::es,N,sc,es'=>match es' with
  |e'::es'=>noStar e'&&ax k e N sc e'&&az k es N sc es'
  |[]=>false
noncomputable def pf (k:Ck):List E→List Str→Scope→Option Expr→Bool
 |[],_,_,o=>o.isNone
 |[e],N,sc,o=>match o with
  |some e'=>ax k e N sc e'
  |none=>false
 |_::_::_,_,_,_=>false
end
noncomputable def bo:List Str:=["len","sorted","repr","max","min","all","any","list","tuple","str","int","range","enumerate","zip","reversed","set","dict","sum","isinstance","bool"]
structure yS (P:Program) (w:World) (K:PySem.W.Frag) (mg:Str→Option Value) (base:Heap) (d:Nat) (F:List U→Option (Ex (Kd×U))) (f:Str):Prop where
 ex:∃ (np:Nat) (fa:Addr) (fd:FuncData) (ps:List Str),mF P w K mg base CX0 d fa fd ps (spT P w K F np)∧mg f=some (.ref fa)∧PySem.W.keepIn K (.ref fa)=true∧Binds K fd ps []∧∀ us k u,F us=some (.ok (k,u))→(k=.own∨k=.loc)∧us.length=np
structure Gd (ck:Ck) (Γ:Tab) (C:Ct) (d:Nat) (X:Cx):Prop where
 P:C.P=X.prog
 w:C.w=X.w
 K:C.K=X.K
 u:X.A.units+60<cLine
 calm:X.calm=true
 room:fC d X.A
 blt:∀ x∈bo,X.mg x=none
 fns:∀ f∈ck.fns,yS X.prog X.w X.K X.mg X.base d (Γ f) f
 gls:∀ p∈ck.gl,∃ val v,X.mg p.1=some val∧RelV v val∧∀ S H,Rep C S H p.2 v
theorem Gd.cx {ck:Ck}{Γ:Tab}{C:Ct}{d:Nat}{X:Cx} (g:Gd ck Γ C d X) (N:List Str) (sc:Scope) (D:Addr) (s:Shared) (H:Hp) (ex:List Addr):Gd ck Γ C d (cxC X N sc D s H ex) :=
 ⟨g.P,g.w,g.K,g.u,g.calm,g.room,g.blt,g.fns,g.gls⟩
theorem bY {sc:Scope}{x:Str} (h:f_ sc x=true):Vis sc x:=by
 unfold f_ at h
 simp only [Bool.or_eq_true,decide_eq_true_eq] at h
 rcases h with (h|h)|h
 ·exact .inl h
 ·exact .inr (.inl h)
 ·exact .inr (.inr h)
theorem aI {x:Str} (h:bN x=true):(x==("__debug__":Str))=false∧(x==("__classdict__":Str))=false:=by
 unfold bN at h
 simpa using h
theorem bx {e:Expr}{es:List Expr}{env:Env} (h:noStar e=true):starEach (e::es) env=(false,eval e env)::starEach es env:=by
 cases e <;> first|rfl|cases h
theorem jc {e:Expr} (h:cV e=true):kN e:=by
 intro o i
 cases e <;> first|rfl|cases h
theorem ph {e:Expr}{env:Env} (h:o_ e=true):∀ x,foldedSetIterable e env x=pure x:=by
 intro x
 cases e <;> first|rfl|cases h
theorem ia {o:Expr}{name:Str}{env:Env}{wh:Sem Value} (h:lG o=true):attributeBase o name env wh=wh:=by
 cases o with
 |Call f as ks p =>
  cases f with
  |Name x q=>cases as with
   |nil=>cases ks with
    |nil=>cases h
    |cons _ _=>rfl
   |cons _ _=>rfl
  |_=>rfl
 |_=>rfl
theorem bz {es:List Expr}{env:Env}{pos:Pos} (h:∀ e∈es,noStar e=true):(backTo pos (starEach es env)).any (·.1)=false∧(backTo pos (starEach es env)).all (fun x=>!x.1)=true:=by
 induction es with
 |nil=>exact ⟨rfl,rfl⟩
 |cons e es ih =>
  rw [bx (h e (by simp))]
  have:=ih fun e' he=>h e' (by simp [he])
  constructor
  ·show (false||(backTo pos (starEach es env)).any (·.1))=false
   rw [this.1];rfl
  ·show (!false&&(backTo pos (starEach es env)).all (fun x=>!x.1))=true
   rw [this.2];rfl
theorem cI {k:Ck}{es:List E}{N:List Str}{sc:Scope}{es':List Expr} (h:az k es N sc es'=true):∀ e∈es',noStar e=true:=by
 induction es generalizing es' with
 |nil =>
  cases es' with
  |nil=>intro e he;cases he
  |cons _ _=>simp [az] at h
 |cons x es ih =>
  cases es' with
  |nil=>intro e he;cases he
  |cons e' es' =>
   simp only [az,Bool.and_eq_true] at h
   intro e he
   rcases List.mem_cons.mp he with rfl|he
   ·exact h.1.1
   ·exact ih h.2 e he
theorem j9 {X:Cx}{i:Nat}{e:Expr}{fa:Bool} (hfa:fa=true→∀ x,X.fn x=true) (h:ql X.N X.env.scope fa i e=true):oV X e i:=by
 cases e with
 |Name x p =>
  simp only [ql,Bool.and_eq_true,decide_eq_true_eq,pd,Bool.or_eq_true,Ai] at h
  refine ⟨x,p,rfl,h.1.1,?_,?_⟩
  ·rcases h.1.2 with z|z
   ·exact .inl z
   ·exact .inr z
  ·rcases h.2 with z|z
   ·exact .inl (hfa z x)
   ·exact .inr z
 |_=>cases h
theorem jd {X:Cx}{fa:Bool} (hfa:fa=true→∀ x,X.fn x=true):∀ {is:List Nat}{es:List Expr},lH X.N X.env.scope fa is es=true→dC X es is
 |[],[],_=>.nil
 |[],_::_,h=>by cases h
 |_::_,[],h=>by cases h
 |i::is,e::es,h=>by
  simp only [lH,Bool.and_eq_true] at h
  exact .cons (j9 hfa h.1) (jd hfa h.2)
theorem qo {X:Cx}{C:Ct}{t fa:Bool}{is:List Nat}{tg:Expr} (hc:X.calm=true) (hK:C.K=X.K) (hN:X.N.Nodup) (hfa:fa=true→∀ x,X.fn x=true) (h:tgB t X.N X.env.scope fa is tg=true):PG X tg (tG C t is):=by
 cases tg with
 |Name x p =>
  simp only [tgB,Bool.and_eq_true,Bool.not_eq_true'] at h
  obtain ⟨rfl,h⟩:=h
  cases is with
  |nil=>cases h
  |cons i is=>cases is with
   |nil=>exact yI hN (j9 hfa h)
   |cons _ _=>cases h
 |Tuple es k p =>
  simp only [tgB,Bool.and_eq_true,List.all_eq_true,decide_eq_true_eq] at h
  obtain ⟨⟨rfl,h1⟩,h2⟩:=h
  exact zR hc hK hN (jd hfa h1) h2
 |_=>cases h
theorem j_ (own N:List Str):cX ((own++hide own N).drop own.length) N:=by
 rw [List.drop_left' rfl]
 unfold hide
 split
 ·exact .refl N
 ·exact (cX.refl N).set _ (.inl rfl)
 ·exact ((cX.refl N).set _ (.inl rfl)).set _ (.inr rfl)
noncomputable def Bf.isB:Bf→Bool
 |.len=>true|.sorted=>true|.repr=>true|.max=>true|.min=>true|.all=>true|.any=>true|_=>false
noncomputable def Bf.id:Bf→String
 |.len=>"len"|.sorted=>"sorted"|.repr=>"repr"|.max=>"max"|.min=>"min"|.all=>"all"|.any=>"any"
 |.list=>"list"|.tuple=>"tuple"|.str=>"str"|.int=>"int"
theorem wb:∀ f:Bf,simple f=true→bootBuiltins f.name=some f.val∧f.name∈bo∧f.name≠"__name__"∧(f.name==("__debug__":Str))=false:=by
 intro f h
 cases f <;> first|exact ⟨by decide +kernel,by decide +kernel,by decide +kernel,by decide +kernel⟩|(cases h;done)
theorem yT:∀ f:Bf,simple f=true→(f.val=.builtin f.id∨f.val=.type f.id):=by
 intro f h
 cases f <;> first|exact .inl rfl|exact .inr rfl|(cases h;done)
theorem yU:∀ f:B2,f.lC∈bo∧f.fY∈bo:=by
 intro f
 cases f <;> exact ⟨by decide +kernel,by decide +kernel⟩
theorem wc:∀ f:Mf,Slot "str" f.name f.id∧typeOf (.builtin f.id)=pure (.type "method_descriptor"):=by
 intro f
 cases f with
 |split=>exact ⟨PySem.F.slot_str_split,PySem.F.type_str_split⟩
 |join=>exact ⟨PySem.F.slot_str_join,PySem.F.type_str_join⟩
 |partition=>exact ⟨PySem.F.slot_str_partition,PySem.F.type_str_partition⟩
 |endswith=>exact ⟨PySem.F.slot_str_endswith,PySem.F.type_str_endswith⟩
end TM
namespace TM
open PySem L2 PyProof.Rows
section
variable {ck : Ck} {Γ : Tab} {C : Ct} {d : Nat}
theorem dQ {X:Cx}{x:Str} (h:glB X.env.scope x=true):Gl X x:=by
 unfold glB at h
 show X.env.kindOf x=some .globalImplicit
 exact of_decide_eq_true h
theorem wd:("enumerate":Str)∈bo:=by decide +kernel
theorem m_:("isinstance":Str)∈bo:=by decide +kernel
theorem tQ (T:Ty5):T.name∈bo:=by cases T <;> decide +kernel
theorem we:("range":Str)∈bo:=by decide +kernel
theorem wZ {X:Cx}{ik:Ik}{iter tg:Expr}{as:List Expr}{src:List E} (g:Gd ck Γ C d X) (h:d9 X.env.scope tg ik iter=some as) (hL:PA X as (tEs C (bE Γ src))) (h1:∀ a,as=[a]→∃ e,src=[e]∧PE X a (tEv C (ev Γ e))) (hst:∀ e∈as,noStar e=true):PI X tg iter (tIt C ik (bE Γ src)):=by
 unfold d9 at h
 split at h
 ·cases h
  obtain ⟨e,rfl,he⟩:=h1 _ rfl
  exact yG g.K he
 ·rw [Option.bind_eq_some_iff] at h
  obtain ⟨⟨x,bs⟩,hc,h⟩:=h
  split at h
  ·rename_i hh
   cases h
   obtain ⟨e1,hg,hl⟩:=hh
   dsimp only at e1 hg hl
   subst e1
   obtain ⟨p,q,rfl⟩:=gQ hc
   obtain ⟨b,rfl⟩:=List.length_eq_one_iff.mp hl
   exact vY (dQ hg) (g.blt _ we) (bx (hst _ (by simp))) hL
  ·cases h
 ·rw [Option.bind_eq_some_iff] at h
  obtain ⟨⟨x,bs⟩,hc,h⟩:=h
  split at h
  ·rename_i hh
   cases h
   obtain ⟨e1,hg,hl,ht⟩:=hh
   dsimp only at e1 hg hl
   subst e1
   obtain ⟨p,q,rfl⟩:=gQ hc
   obtain ⟨b,rfl⟩:=List.length_eq_one_iff.mp hl
   cases tg with
   |Tuple es kx ps=>exact yH g.K (dQ hg) (g.blt _ wd) (bx (hst _ (by simp))) hL
   |_=>cases ht
  ·cases h
 ·cases h
theorem PT.eqv {X:Cx}{e:Expr}{m m':M Bool} (h:PT X e (tTs C m)) (i:∀ st Q,W m' st Q→W m st Q):PT X e (tTs C m'):=PT.weak h fun σ H Q ⟨c0,e1,e2,ok,w⟩=>⟨c0,e1,e2,ok,i _ _ w⟩
theorem Aj {X:Cx}{f:Bf}{es:List E}{x:Str}{p pos:Pos}{es':List Expr} (g:Gd ck Γ C d X) (hL:PA X es' (tEs C (bE Γ es)))
  (h:(decide (x=f.name)&&simple f&&glB X.env.scope x&&!es'.isEmpty&&az ck es X.N X.env.scope es')=true):PE X (.Call (.Name x p) es' [] pos) (tEv C (ev Γ (.bi f es))):=by
 simp only [Bool.and_eq_true,decide_eq_true_eq,Bool.not_eq_true'] at h
 obtain ⟨⟨⟨⟨rfl,h1⟩,h2⟩,h3⟩,h4⟩:=h
 obtain ⟨b1,b2,b3,b4⟩:=wb f h1
 have hS:=cI h4
 cases es' with
 |nil=>cases h3
 |cons e0 es0 =>
  have st:=bx (env:=X.env) (es:=es0) (hS e0 (by simp))
  have sn:=(bz (pos:=pos) (env:=X.env) (es:=es0) fun e he=>hS e (by simp [he])).1
  rcases yT f h1 with hv|hv
  ·exact vR g.calm g.K g.room.gd g.u hv (dQ h2) (g.blt _ b2) (by rw [b1,hv]) b3 b4 hL st sn
  ·exact vT g.calm g.K g.room.gd g.u hv (dQ h2) (g.blt _ b2) (by rw [b1,hv]) b3 b4 hL st sn
theorem w9 {X:Cx}{f:B2}{es:List E}{x y:Str}{p p2 pos pos2:Pos}{es':List Expr} (g:Gd ck Γ C d X) (hL:PA X es' (tEs C (bE Γ es)))
  (h:(decide (x=f.lC)&&decide (y=f.fY)&&glB X.env.scope x&&glB X.env.scope y&&!es'.isEmpty&&az ck es X.N X.env.scope es')=true):PE X (.Call (.Name x p) [.Call (.Name y p2) es' [] pos2] [] pos) (tEv C (ev Γ (.bi2 f es))):=by
 simp only [Bool.and_eq_true,decide_eq_true_eq,Bool.not_eq_true'] at h
 obtain ⟨⟨⟨⟨⟨rfl,rfl⟩,h1⟩,h2⟩,h3⟩,h4⟩:=h
 obtain ⟨b1,b2⟩:=yU f
 have hS:=cI h4
 cases es' with
 |nil=>cases h3
 |cons e0 es0 =>
  have st:=bx (env:=X.env) (es:=es0) (hS e0 (by simp))
  have sn:=(bz (pos:=pos2) (env:=X.env) (es:=es0) fun e he=>hS e (by simp [he])).1
  exact vX g.calm g.K (dQ h1) (g.blt _ b1) (dQ h2) (g.blt _ b2) hL st sn
theorem w_ {X:Cx}{m:Mf}{a:E}{es:List E}{o:Expr}{name:Str}{apos cpos:Pos}{es':List Expr} (g:Gd ck Γ C d X) (ha:PE X o (tEv C (ev Γ a))) (hL:PA X es' (tEs C (bE Γ es)))
  (h:(decide (name=m.name)&&lG o&&(apos.endLine==cpos.line)&&!es'.isEmpty&&decide (es'.length<20)&&ax ck a X.N X.env.scope o&&az ck es X.N X.env.scope es')=true):PE X (.Call (.Attribute o name apos) es' [] cpos) (tEv C (ev Γ (.mth m a es))):=by
 simp only [Bool.and_eq_true,decide_eq_true_eq,Bool.not_eq_true'] at h
 obtain ⟨⟨⟨⟨⟨⟨rfl,h1⟩,h2⟩,h3⟩,h4⟩,h5⟩,h6⟩:=h
 have hS:=cI h6
 obtain ⟨s1,s2⟩:=wc m
 cases es' with
 |nil=>cases h3
 |cons e0 es0 =>
  have st:=bx (env:=X.env) (es:=es0) (hS e0 (by simp))
  have sn:=(bz (pos:=cpos) (env:=X.env) (es:=es0) fun e he=>hS e (by simp [he])).1
  have sa:=(bz (pos:=cpos) (env:=X.env) (es:=e0::es0) hS).2
  refine vV g.K s1 s2 ha hL (ia h1) ?_ h2 st sn
  rw [sa]
  have:(e0::es0).length+([]:List Keyword).length+(if ([]:List Keyword).isEmpty=true then 0 else 1)<30:=by simp at h4 ⊢;omega
  simp only [decide_eq_true this]
  rfl
theorem tR {X:Cx}{f x:Str}{es:List E}{p pos:Pos}{es':List Expr} (g:Gd ck Γ C d X) (hL:PA X es' (tEs C (bE Γ es)))
  (h:(decide (x=f)&&decide (f∈ck.fns)&&glB X.env.scope x&&bN x&&!es'.isEmpty&&az ck es X.N X.env.scope es')=true):PE X (.Call (.Name x p) es' [] pos) (tEv C (ev Γ (.call f es))):=by
 simp only [Bool.and_eq_true,decide_eq_true_eq,Bool.not_eq_true'] at h
 obtain ⟨⟨⟨⟨⟨rfl,h1⟩,h2⟩,h3⟩,h4⟩,h5⟩:=h
 have hS:=cI h5
 obtain ⟨np,fa,fd,ps,q1,q2,q3,q4,q5⟩:=(g.fns _ h1).ex
 cases es' with
 |nil=>cases h4
 |cons e0 es0 =>
  have st:=bx (env:=X.env) (es:=es0) (hS e0 (by simp))
  have sn:=(bz (pos:=pos) (env:=X.env) (es:=es0) fun e he=>hS e (by simp [he])).1
  exact tq g.P g.w g.K rfl q5 q1 g.room (dQ h2) q2 q3 q4 (aI h3).1 hL st sn
theorem cw {k:Ck}{es:List E}{N:List Str}{sc:Scope}{es':List Expr}{b:Bool} (h:(b&&az k es N sc es')=true):az k es N sc es'=true:=(Bool.and_eq_true_iff.mp h).2
mutual
theorem ba:∀ (e:E) (X:Cx) (e':Expr),Gd ck Γ C d X→ax ck e X.N X.env.scope e'=true→PE X e' (tEv C (ev Γ e))
 |.var i,X,e',g,h=>by
  simp only [ax] at h
  split at h
  ·simp only [Bool.and_eq_true,decide_eq_true_eq] at h
   obtain ⟨h3,h4⟩:=aI h.2
   exact lA h.1.1 (bY h.1.2) h3 h4
  ·cases h
 |.cst u,X,e',g,h=>by
  simp only [ax] at h
  split at h
  ·have:=bU h;subst this;exact fX rR fun _ _=>rfl
  ·have:=bU h;subst this;exact fX rT fun _ _=>rfl
  ·have:=bU h;subst this;exact fX wM fun _ _=>rfl
  ·have:=bU h;subst this;exact fX rS fun _ _=>rfl
  ·cases h
 |.glb x u,X,e',g,h=>absurd h (by simp [ax])
 |.bin op a b,X,e',g,h=>by
  simp only [ax] at h
  split at h
  ·simp only [Bool.and_eq_true,decide_eq_true_eq] at h
   obtain ⟨⟨rfl,h1⟩,h2⟩:=h
   exact vG g.K (ba a X _ g h1) (ba b X _ g h2)
  ·cases h
 |.cmp op a b,X,e',g,h=>by
  simp only [ax] at h
  obtain ⟨a',op',b',p0,rfl,z1⟩:=dG h
  have h:=z1
  simp only [Bool.and_eq_true,decide_eq_true_eq,Bool.not_eq_true'] at h
  obtain ⟨⟨⟨rfl,h0⟩,h1⟩,h2⟩:=h
  exact vH g.P g.w g.K g.u (ba a X _ g h1) (ba b X _ g h2) h0
 |.cmp2 o1 o2 a b c,X,e',g,h=>absurd h (by simp [ax])
 |.and es,X,e',g,h=>by
  simp only [ax] at h
  split at h
  ·exact tS es X _ g h
  ·cases h
 |.or es,X,e',g,h=>by
  simp only [ax] at h
  split at h
  ·exact xa es X _ g h
  ·cases h
 |.not a,X,e',g,h=>by
  simp only [ax] at h
  split at h
  ·exact vJ (ba a X _ g h)
  ·cases h
 |.neg a,X,e',g,h=>absurd h (by simp [ax])
 |.bad,X,e',g,h=>fun pins s σ H Q I ⟨_,_,_,_,w⟩=>(av.mp w).elim
 |.inD neg a i,X,e',g,h=>by
  simp only [ax] at h
  obtain ⟨a',op',b',p0,rfl,z1⟩:=dG h
  obtain ⟨x,p1,rfl,z2⟩:=aj z1
  have h:=z2
  simp only [Bool.and_eq_true,decide_eq_true_eq,Bool.not_eq_true'] at h
  obtain ⟨⟨⟨⟨⟨rfl,h0⟩,h1⟩,h2⟩,h3⟩,h4⟩:=h
  obtain ⟨q1,q2⟩:=aI h3
  exact v7 g.u h1 (bY h2) q1 q2 (ba a X _ g h4) h0
 |.pub i,X,e',g,h=>by
  simp only [ax] at h
  split at h
  ·simp only [Bool.and_eq_true,decide_eq_true_eq] at h
   obtain ⟨h3,h4⟩:=aI h.2
   exact v5 h.1.1 (bY h.1.2) h3 h4
  ·cases h
 |.get2 i a b,X,e',g,h=>by
  simp only [ax] at h
  obtain ⟨o,m,apos,as,cpos,rfl,z1⟩:=bq h
  obtain ⟨x,px,rfl,z2⟩:=aj z1
  split at z2
  ·simp only [Bool.and_eq_true,decide_eq_true_eq] at z2
   obtain ⟨⟨⟨⟨⟨⟨⟨⟨rfl,h1⟩,h2⟩,h3⟩,h4⟩,h5⟩,h6⟩,h7⟩,h8⟩:=z2
   obtain ⟨q1,q2⟩:=aI h3
   rename_i a' b'
   have sa:=bz (pos:=cpos) (env:=X.env) (es:=[a',b']) fun e he=>by
    rcases List.mem_cons.mp he with rfl|he
    ·exact h5
    ·simp at he;subst he;exact h6
   exact tN g.u h1 (bY h2) q1 q2 (ba a X _ g h7) (ba b X _ g h8) ⟨rfl,by rw [sa.2];rfl,h4,by rw [bx h5,bx h6];rfl⟩
  ·cases z2
 |.sit i,X,e',g,h=>by
  simp only [ax] at h
  obtain ⟨f',as,_,rfl,z1⟩:=aH h
  obtain ⟨f,_,rfl,z2⟩:=aj z1
  obtain ⟨c,rfl,z3⟩:=bw z2
  obtain ⟨o,m,apos,bs,cpos,rfl,z4⟩:=bq z3
  obtain ⟨x,px,rfl,z5⟩:=aj z4
  simp only [Bool.and_eq_true,decide_eq_true_eq,List.isEmpty_iff] at z5
  obtain ⟨⟨⟨⟨⟨⟨⟨rfl,rfl⟩,h1⟩,rfl⟩,h3⟩,h4⟩,h5⟩,h6⟩:=z5
  obtain ⟨q1,q2⟩:=aI h5
  exact wa g.calm g.K (dQ h1) (g.blt _ (by decide +kernel)) h3 (bY h4) q1 q2 h6
 |.sdf ln a b,X,e',g,h=>fun pins s σ H Q I ⟨_,_,_,_,w⟩=>(av.mp w).elim
 |.fst es,X,e',g,h=>fun pins s σ H Q I ⟨_,_,_,_,w⟩=>(av.mp w).elim
 |.isi a T,X,e',g,h=>by
  simp only [ax] at h
  obtain ⟨f',as,p0,rfl,z1⟩:=aH h
  obtain ⟨x,p1,rfl,z2⟩:=aj z1
  clear h z1
  split at z2
  ·obtain ⟨y,p2,rfl,z3⟩:=aj z2
   have h:=z3
   simp only [Bool.and_eq_true,decide_eq_true_eq] at h
   obtain ⟨⟨⟨⟨⟨rfl,rfl⟩,h1⟩,h2⟩,h3⟩,h4⟩:=h
   exact qh g.K (dQ h1) (g.blt _ m_) (dQ h2) (g.blt _ (tQ T)) (ba a X _ g h4) (bx h3)
  ·cases z2
 |.ite c a b,X,e',g,h=>absurd h (by simp [ax])
 |.tup es,X,e',g,h=>by
  simp only [ax] at h
  split at h
  ·exact vN (gz es X _ g h)
  ·cases h
 |.lst es,X,e',g,h=>by
  simp only [ax] at h
  split at h
  ·exact vO (gz es X _ g h)
  ·cases h
 |.dnew r,X,e',g,h=>by
  simp only [ax] at h
  split at h
  ·exact tp g.P g.w r
  ·cases h
 |.idx a b,X,e',g,h=>by
  simp only [ax] at h
  split at h
  ·simp only [Bool.and_eq_true] at h
   exact qf g.K g.u (jc h.1.1) (ba a X _ g h.1.2) (ba b X _ g h.2)
  ·cases h
 |.slc a lo hi,X,e',g,h=>by
  simp only [ax] at h
  split at h
  ·simp only [Bool.and_eq_true] at h
   exact vQ g.K (ba a X _ g h.1.1) (Ak lo X _ g h.1.2) (Ak hi X _ g h.2)
  ·cases h
 |.bi f es,X,e',g,h=>by
  simp only [ax] at h
  obtain ⟨f',as,p0,rfl,z1⟩:=aH h
  obtain ⟨x,p1,rfl,z2⟩:=aj z1
  have h:=z2
  exact Aj g (gz es X _ g (cw h)) h
 |.bi2 f es,X,e',g,h=>by
  simp only [ax] at h
  obtain ⟨f',as,p0,rfl,z1⟩:=aH h
  obtain ⟨x,p1,rfl,z2⟩:=aj z1
  obtain ⟨c,rfl,z3⟩:=bw z2
  obtain ⟨g',as',p2,rfl,z4⟩:=aH z3
  obtain ⟨y,p3,rfl,z5⟩:=aj z4
  have h:=z5
  exact w9 g (gz es X _ g (cw h)) h
 |.mth m a es,X,e',g,h=>by
  simp only [ax] at h
  obtain ⟨o,name,apos,as,cpos,rfl,z1⟩:=bq h
  have h:=z1
  have h':=h
  simp only [Bool.and_eq_true] at h'
  exact w_ g (ba a X _ g h'.1.2) (gz es X _ g (cw h)) h
 |.call f es,X,e',g,h=>by
  simp only [ax] at h
  obtain ⟨f',as,p0,rfl,z1⟩:=aH h
  obtain ⟨x,p1,rfl,z2⟩:=aj z1
  have h:=z2
  exact tR g (gz es X _ g (cw h)) h
 |.comp n t ik src cond e,X,e',g,h=>by
  simp only [ax] at h
  split at h
  ·rename_i elt tg iter ifs scope _
   simp only [Bool.and_eq_true,decide_eq_true_eq] at h
   obtain ⟨⟨⟨⟨⟨⟨⟨h1,h2⟩,h3⟩,h4⟩,h5⟩,h6⟩,h7⟩,h8⟩:=h
   subst h1
   have S:=sH (X:=X) rfl (j_ _ _) h2
   split at h5
   ·rename_i as has
    have hst:=cI h5
    have hI:PI X tg iter (tIt C ik (bE Γ src)):=wZ g has (gz src X _ g h5) (fun a e=>by
     subst e
     cases src with
     |nil=>simp [az] at h5
     |cons e1 es1 =>
      cases es1 with
      |nil =>
       simp only [az,Bool.and_eq_true] at h5
       exact ⟨e1,rfl,ba e1 X _ g h5.1.2⟩
      |cons _ _=>simp [az] at h5) hst
    exact tJ S g.calm hI (fun D s H ex=>qo (fa:=false) g.calm g.K S.nd (fun z=>nomatch z) h3)
     (fun D s H ex=>by
      cases ifs with
      |nil =>
       cases cond with
       |nil=>exact fun pins s σ H Q I ⟨c0,e1,e2,ok,w⟩=>pT pins s σ H Q I (by subst e1 e2;rw [show aS Γ []=pure true from rfl,af] at w;exact w c0 rfl rfl ok (Nx.refl c0))
       |cons _ _=>simp [az] at h7
      |cons c1 cs =>
       cases cs with
       |nil =>
        cases cond with
        |nil=>simp [az] at h7
        |cons e1 es1 =>
         cases es1 with
         |nil =>
          simp only [az,Bool.and_eq_true] at h7
          exact pU (lJ e1 (cxC X _ scope D s H ex) c1 (g.cx _ _ _ _ _ _) h7.1.2)
         |cons _ _=>simp [az] at h7
       |cons _ _=>simp at h6)
     (fun D s H ex=>ba e (cxC X _ scope D s H ex) elt (g.cx _ _ _ _ _ _) h8) (ph h4)
   ·cases h5
  ·cases h
theorem gz:∀ (es:List E) (X:Cx) (es':List Expr),Gd ck Γ C d X→az ck es X.N X.env.scope es'=true→PA X es' (tEs C (bE Γ es))
 |[],X,es',g,h=>by
  cases es' with
  |nil=>exact vM
  |cons _ _=>simp [az] at h
 |e::es,X,es',g,h=>by
  cases es' with
  |nil=>simp [az] at h
  |cons e' es' =>
   simp only [az,Bool.and_eq_true] at h
   exact tf (ba e X e' g h.1.2) (gz es X es' g h.2) (bx h.1.1)
theorem Ak:∀ (es:List E) (X:Cx) (o:Option Expr),Gd ck Γ C d X→pf ck es X.N X.env.scope o=true→PO X o (tO C (evO Γ es))
 |[],X,o,g,h=>by
  cases o with
  |none=>exact rl
  |some _=>simp [pf] at h
 |[e],X,o,g,h=>by
  cases o with
  |none=>simp [pf] at h
  |some e'=>simp only [pf] at h;exact rm (ba e X e' g h)
 |_::_::_,X,o,g,h=>by simp [pf] at h
theorem tS:∀ (es:List E) (X:Cx) (es':List Expr),Gd ck Γ C d X→az ck es X.N X.env.scope es'=true→∀ {pos},PE X (.BoolOp .And es' pos) (tEv C (sW Γ es))
 |[],X,es',g,h,pos=>fun pins s σ H Q I ⟨_,_,_,_,w⟩=>(av.mp w).elim
 |[e],X,es',g,h,pos=>by
  cases es' with
  |nil=>simp [az] at h
  |cons e' es' =>
   cases es' with
   |nil=>simp only [az,Bool.and_eq_true] at h;exact rW (ba e X e' g h.1.2)
   |cons _ _=>simp [az] at h
 |e::e1::es,X,es',g,h,pos=>by
  cases es' with
  |nil=>simp [az] at h
  |cons e' es' =>
   have h':noStar e'=true∧ax ck e X.N X.env.scope e'=true∧az ck (e1::es) X.N X.env.scope es'=true:=by
    rw [az] at h
    simp only [Bool.and_eq_true] at h
    exact ⟨h.1.1,h.1.2,h.2⟩
   cases es' with
   |nil=>have:=h'.2.2;simp [az] at this
   |cons e2 es2=>exact snd_and (ba e X e' g h'.2.1) (tS (e1::es) X _ g h'.2.2)
theorem xa:∀ (es:List E) (X:Cx) (es':List Expr),Gd ck Γ C d X→az ck es X.N X.env.scope es'=true→∀ {pos},PE X (.BoolOp .Or es' pos) (tEv C (yp Γ es))
 |[],X,es',g,h,pos=>fun pins s σ H Q I ⟨_,_,_,_,w⟩=>(av.mp w).elim
 |[e],X,es',g,h,pos=>by
  cases es' with
  |nil=>simp [az] at h
  |cons e' es' =>
   cases es' with
   |nil=>simp only [az,Bool.and_eq_true] at h;exact rW (ba e X e' g h.1.2)
   |cons _ _=>simp [az] at h
 |e::e1::es,X,es',g,h,pos=>by
  cases es' with
  |nil=>simp [az] at h
  |cons e' es' =>
   have h':noStar e'=true∧ax ck e X.N X.env.scope e'=true∧az ck (e1::es) X.N X.env.scope es'=true:=by
    rw [az] at h
    simp only [Bool.and_eq_true] at h
    exact ⟨h.1.1,h.1.2,h.2⟩
   cases es' with
   |nil=>have:=h'.2.2;simp [az] at this
   |cons e2 es2=>exact yw (ba e X e' g h'.2.1) (xa (e1::es) X _ g h'.2.2)
theorem lJ:∀ (e:E) (X:Cx) (e':Expr),Gd ck Γ C d X→ax ck e X.N X.env.scope e'=true→PT X e' (tTs C (tst Γ e))
 |.and es,X,e',g,h=>by
  simp only [ax] at h
  split at h
  ·exact (qp es X _ g h).pt
  ·cases h
 |.or es,X,e',g,h=>by
  simp only [ax] at h
  split at h
  ·exact (tT es X _ g h).pt
  ·cases h
 |.not a,X,e',g,h=>by
  simp only [ax] at h
  split at h
  ·exact vK (lJ a X _ g h)
  ·cases h
 |.cmp op a b,X,e',g,h=>by
  simp only [ax] at h
  obtain ⟨a',op',b',p0,rfl,z1⟩:=dG h
  have h:=z1
  simp only [Bool.and_eq_true,decide_eq_true_eq,Bool.not_eq_true'] at h
  obtain ⟨⟨⟨rfl,h0⟩,h1⟩,h2⟩:=h
  exact vI g.P g.w g.K g.u (ba a X _ g h1) (ba b X _ g h2) h0
 |.cmp2 o1 o2 a b c,X,e',g,h=>absurd h (by simp [ax])
 |.var i,X,e',g,h=>by
  have hE:PE X e' (tEv C (ev Γ (.var i))):=by
   have h':=h
   simp only [ax] at h'
   split at h'
   ·simp only [Bool.and_eq_true,decide_eq_true_eq] at h'
    obtain ⟨h3,h4⟩:=aI h'.2
    exact lA h'.1.1 (bY h'.1.2) h3 h4
   ·cases h'
  simp only [ax] at h
  split at h
  ·exact cU hE g.K fun _=>rfl
  ·cases h
 |.idx a b,X,e',g,h=>by
  simp only [ax] at h
  split at h
  ·simp only [Bool.and_eq_true] at h
   have hE:=qf (pos:=by assumption) g.K g.u (jc h.1.1) (ba a X _ g h.1.2) (ba b X _ g h.2)
   refine PT.eqv (cU hE g.K fun _=>rfl) fun st Q w=>?_
   simp only [tst,ab] at w ⊢
   exact w
  ·cases h
 |.bi f es,X,e',g,h=>by
  simp only [ax] at h
  obtain ⟨f',as,p0,rfl,z1⟩:=aH h
  obtain ⟨x,p1,rfl,z2⟩:=aj z1
  have h:=z2
  refine PT.eqv (cU (Aj g (gz es X _ g (cw h)) h) g.K fun _=>rfl) fun st Q w=>?_
  simp only [tst,ev,ab] at w ⊢
  exact w
 |.bi2 f es,X,e',g,h=>by
  simp only [ax] at h
  obtain ⟨f',as,p0,rfl,z1⟩:=aH h
  obtain ⟨x,p1,rfl,z2⟩:=aj z1
  obtain ⟨c,rfl,z3⟩:=bw z2
  obtain ⟨g',as',p2,rfl,z4⟩:=aH z3
  obtain ⟨y,p3,rfl,z5⟩:=aj z4
  have h:=z5
  refine PT.eqv (cU (w9 g (gz es X _ g (cw h)) h) g.K fun _=>rfl) fun st Q w=>?_
  simp only [tst,ev,ab] at w ⊢
  exact w
 |.mth m a es,X,e',g,h=>by
  simp only [ax] at h
  obtain ⟨o,name,apos,as,cpos,rfl,z1⟩:=bq h
  have h:=z1
  have h':=h
  simp only [Bool.and_eq_true] at h'
  refine PT.eqv (cU (w_ g (ba a X _ g h'.1.2) (gz es X _ g (cw h)) h) g.K fun _=>rfl) fun st Q w=>?_
  simp only [tst,ev,ab] at w ⊢
  exact w
 |.call f es,X,e',g,h=>by
  simp only [ax] at h
  obtain ⟨f',as,p0,rfl,z1⟩:=aH h
  obtain ⟨x,p1,rfl,z2⟩:=aj z1
  have h:=z2
  refine PT.eqv (cU (tR g (gz es X _ g (cw h)) h) g.K fun _=>rfl) fun st Q w=>?_
  simp only [tst,ev,ab] at w ⊢
  exact w
 |.cst u,X,e',g,h=>by
  have go:∀ {v:V},PE X e' (tC v)→(∀ S H,Rep C S H u v)→(∀ whole,isTrue e' X.env whole=(do let v ←whole;standAt e'.pos;holding [v] (truthy v)))→PT X e' (tTs C (tst Γ (.cst u))):=fun {v} h1 h2 h3=>by
   refine PT.eqv (cU (fX h1 h2) g.K h3) fun st Q w=>?_
   rw [ab,af]
   exact w
  simp only [ax] at h
  split at h
  ·have:=bU h;subst this;exact go rR (fun _ _=>rfl) fun _=>rfl
  ·have:=bU h;subst this;exact go rT (fun _ _=>rfl) fun _=>rfl
  ·have:=bU h;subst this;exact go wM (fun _ _=>rfl) fun _=>rfl
  ·have:=bU h;subst this;exact go rS (fun _ _=>rfl) fun _=>rfl
  ·cases h
 |.fst es,X,e',g,h=>fun pins s σ H Q I ⟨_,_,_,_,w⟩=>(av.mp w).elim
 |.glb x u,X,e',g,h=>fun pins s σ H Q I ⟨_,_,_,_,w⟩=>(av.mp w).elim
 |.neg a,X,e',g,h=>fun pins s σ H Q I ⟨_,_,_,_,w⟩=>(av.mp w).elim
 |.isi a T,X,e',g,h=>by
  simp only [ax] at h
  obtain ⟨f',as,p0,rfl,z1⟩:=aH h
  obtain ⟨x,p1,rfl,z2⟩:=aj z1
  clear h z1
  split at z2
  ·obtain ⟨y,p2,rfl,z3⟩:=aj z2
   have h:=z3
   simp only [Bool.and_eq_true,decide_eq_true_eq] at h
   obtain ⟨⟨⟨⟨⟨rfl,rfl⟩,h1⟩,h2⟩,h3⟩,h4⟩:=h
   refine PT.eqv (cU (qh g.K (dQ h1) (g.blt _ m_) (dQ h2) (g.blt _ (tQ T)) (ba a X _ g h4) (bx h3)) g.K fun _=>rfl) fun st Q w=>?_
   simp only [tst,ab] at w ⊢
   refine W.mono w fun x s1 w1=>?_
   obtain ⟨b,e,w2⟩:=bP.mp w1
   exact bP.mpr ⟨b,e,af.mpr (bP.mpr ⟨b,rfl,w2⟩)⟩
  ·cases z2
 |.bad,X,e',g,h=>fun pins s σ H Q I ⟨_,_,_,_,w⟩=>(av.mp w).elim
 |.inD neg a i,X,e',g,h=>by
  simp only [ax] at h
  obtain ⟨a',op',b',p0,rfl,z1⟩:=dG h
  obtain ⟨x,p1,rfl,z2⟩:=aj z1
  have h:=z2
  simp only [Bool.and_eq_true,decide_eq_true_eq,Bool.not_eq_true'] at h
  obtain ⟨⟨⟨⟨⟨rfl,h0⟩,h1⟩,h2⟩,h3⟩,h4⟩:=h
  obtain ⟨q1,q2⟩:=aI h3
  exact v8 g.u h1 (bY h2) q1 q2 (ba a X _ g h4) h0
 |.pub i,X,e',g,h=>fun pins s σ H Q I ⟨_,_,_,_,w⟩=>(av.mp w).elim
 |.sdf ln a b,X,e',g,h=>fun pins s σ H Q I ⟨_,_,_,_,w⟩=>(av.mp w).elim
 |.sit i,X,e',g,h=>fun pins s σ H Q I ⟨_,_,_,_,w⟩=>(av.mp w).elim
 |.get2 i a b,X,e',g,h=>fun pins s σ H Q I ⟨_,_,_,_,w⟩=>(av.mp w).elim
 |.bin op a b,X,e',g,h=>fun pins s σ H Q I ⟨_,_,_,_,w⟩=>(av.mp w).elim
 |.ite c a b,X,e',g,h=>fun pins s σ H Q I ⟨_,_,_,_,w⟩=>(av.mp w).elim
 |.tup es,X,e',g,h=>fun pins s σ H Q I ⟨_,_,_,_,w⟩=>(av.mp w).elim
 |.lst es,X,e',g,h=>fun pins s σ H Q I ⟨_,_,_,_,w⟩=>(av.mp w).elim
 |.dnew r,X,e',g,h=>fun pins s σ H Q I ⟨_,_,_,_,w⟩=>(av.mp w).elim
 |.slc a lo hi,X,e',g,h=>fun pins s σ H Q I ⟨_,_,_,_,w⟩=>(av.mp w).elim
 |.comp n t ik src cond e,X,e',g,h=>fun pins s σ H Q I ⟨_,_,_,_,w⟩=>(av.mp w).elim
theorem qp:∀ (es:List E) (X:Cx) (es':List Expr),Gd ck Γ C d X→az ck es X.N X.env.scope es'=true→∀ {pos},PW X (.BoolOp .And es' pos) (tTs C (aS Γ es))
 |[],X,es',g,h,pos=>by
  cases es' with
  |nil =>
   rintro wh pins s σ H Q I ⟨c0,rfl,rfl,ok,w⟩
   rw [show aS Γ []=pure true from rfl,af] at w
   exact isTrue_and_nil ⟨c0.H,I,w c0 rfl rfl ok (Nx.refl c0)⟩
  |cons _ _=>simp [az] at h
 |[e],X,es',g,h,pos=>by
  cases es' with
  |nil=>simp [az] at h
  |cons e' es' =>
   cases es' with
   |nil=>simp only [az,Bool.and_eq_true] at h;exact uP (lJ e X e' g h.1.2)
   |cons _ _=>simp [az] at h
 |e::e1::es,X,es',g,h,pos=>by
  cases es' with
  |nil=>simp [az] at h
  |cons e' es' =>
   have h':noStar e'=true∧ax ck e X.N X.env.scope e'=true∧az ck (e1::es) X.N X.env.scope es'=true:=by
    rw [az] at h
    simp only [Bool.and_eq_true] at h
    exact ⟨h.1.1,h.1.2,h.2⟩
   cases es' with
   |nil=>have:=h'.2.2;simp [az] at this
   |cons e2 es2=>exact vL (lJ e X e' g h'.2.1) (qp (e1::es) X _ g h'.2.2)
theorem tT:∀ (es:List E) (X:Cx) (es':List Expr),Gd ck Γ C d X→az ck es X.N X.env.scope es'=true→∀ {pos},PW X (.BoolOp .Or es' pos) (tTs C (gO Γ es))
 |[],X,es',g,h,pos=>by
  cases es' with
  |nil =>
   rintro wh pins s σ H Q I ⟨c0,rfl,rfl,ok,w⟩
   rw [show gO Γ []=pure false from rfl,af] at w
   exact isTrue_or_nil ⟨c0.H,I,w c0 rfl rfl ok (Nx.refl c0)⟩
  |cons _ _=>simp [az] at h
 |[e],X,es',g,h,pos=>by
  cases es' with
  |nil=>simp [az] at h
  |cons e' es' =>
   cases es' with
   |nil=>simp only [az,Bool.and_eq_true] at h;exact xw (lJ e X e' g h.1.2)
   |cons _ _=>simp [az] at h
 |e::e1::es,X,es',g,h,pos=>by
  cases es' with
  |nil=>simp [az] at h
  |cons e' es' =>
   have h':noStar e'=true∧ax ck e X.N X.env.scope e'=true∧az ck (e1::es) X.N X.env.scope es'=true:=by
    rw [az] at h
    simp only [Bool.and_eq_true] at h
    exact ⟨h.1.1,h.1.2,h.2⟩
   cases es' with
   |nil=>have:=h'.2.2;simp [az] at this
   |cons e2 es2=>exact yx (lJ e X e' g h'.2.1) (tT (e1::es) X _ g h'.2.2)
end
end
end TM
namespace TM
open PySem L2 PyProof.Rows
noncomputable def swB (sc:Scope) (x:Str) (line:Nat):Expr→Bool
 |.ListComp elt gens s pos=>decide (sc.names.lookup x=some .local)&&(line==pos.line)&&!(s.names.any fun (n,k)=>n==x&&(k==.local||k==.cell))
 |_=>false
noncomputable def ka (s:Stmt) (k:Expr→Bool):Bool:=match s with|.Expr e _=>k e|_=>false
theorem dI {s:Stmt}{k:Expr→Bool} (h:ka s k=true):∃ e p,s=.Expr e p∧k e=true:=by
 unfold ka at h
 split at h
 ·exact ⟨_,_,rfl,h⟩
 ·cases h
noncomputable def qq (s:Stmt) (k:Expr→Expr→Bool):Bool:=match s with|.Assign ts v _=>eZ ts fun t=>k t v|_=>false
theorem je {s:Stmt}{k:Expr→Expr→Bool} (h:qq s k=true):∃ t v p,s=.Assign [t] v p∧k t v=true:=by
 unfold qq at h
 split at h
 ·obtain ⟨t,rfl,z1⟩:=bw h
  exact ⟨_,_,_,rfl,h⟩
 ·cases h
mutual
noncomputable def c_ (k:Ck):S→List Str→Scope→Stmt→Bool
 |.set i e,N,sc,s=>match s with
  |.Assign [.Name x p] v _=>decide (N[i]?=some x)&&pd sc x&&decide (sc.kind=.function)&&ax k e N sc v&&(cF v||swB sc x p.line v||(match v with|.ListComp _ _ _ _=>true|_=>false))&&(match e with|.comp _ _ _ _ _ _=>true|_=>cF v)
  |_=>false
 |.setT is e,N,sc,s=>match s with
  |.Assign [.Tuple es kk p] v _=>tgB true N sc true is (.Tuple es kk p)&&cF v&&yQ v&&ax k e N sc v
  |_=>false
 |.put i a b,N,sc,s=>qq s fun t b'=>j8 t fun o a'=>bu o fun x=>decide (N[i]?=some x)&&f_ sc x&&bN x&&cF b'&&cV a'&&ax k a N sc a'&&ax k b N sc b'
 |.app i e,N,sc,s=>ka s fun c=>d_ c fun o m apos as cpos=>bu o fun x=>eZ as fun a=>decide (m="append")&&decide (N[i]?=some x)&&f_ sc x&&bN x&&(apos.endLine==cpos.line)&&noStar a&&ax k e N sc a
 |.ext i e,N,sc,s=>ka s fun c=>d_ c fun o m apos as cpos=>bu o fun x=>eZ as fun a=>decide (m="extend")&&decide (N[i]?=some x)&&f_ sc x&&bN x&&(apos.endLine==cpos.line)&&noStar a&&ax k e N sc a
 |.bad,_,_,_=>true
 |.newD i,N,sc,s=>match s with
  |.Assign [.Name x p] (.Dict [] [] _) _=>decide (N[i]?=some x)&&pd sc x
  |_=>false
 |.putD i a b,N,sc,s=>qq s fun t b'=>j8 t fun o a'=>bu o fun x=>decide (N[i]?=some x)&&f_ sc x&&bN x&&cF b'&&cV a'&&ax k a N sc a'&&ax k b N sc b'
 |.appD i a e,N,sc,s=>ka s fun c=>d_ c fun o m apos as cpos=>j8 o fun o' a'=>bu o' fun x=>eZ as fun b=>decide (m="append")&&decide (N[i]?=some x)&&f_ sc x&&bN x&&cV a'&&(apos.endLine==cpos.line)&&noStar b&&ax k a N sc a'&&ax k e N sc b
 |.aug sub i a e,N,sc,s=>match s with
  |.AugAssign t op b _=>j8 t fun o a'=>bu o fun x=>decide (op=if sub=true then .Sub else .Add)&&decide (N[i]?=some x)&&f_ sc x&&bN x&&cV a'&&ax k a N sc a'&&ax k e N sc b
  |_=>false
 |.rvs i,N,sc,s=>ka s fun c=>d_ c fun o m apos as cpos=>bu o fun x=>as.isEmpty&&decide (m="reverse")&&decide (N[i]?=some x)&&f_ sc x&&bN x&&(apos.endLine==cpos.line)
 |.exp e,N,sc,s=>match s with
  |.Expr e' _=>cF e'&&ax k e N sc e'
  |_=>false
 |.ret e,N,sc,s=>match s with
  |.Return (some e') _=>ax k e N sc e'
  |_=>false
 |.retN,N,sc,s=>match s with
  |.Return none _=>true
  |_=>false
 |.ite c a b,N,sc,s=>match s with
  |.If c' a' b' _=>ax k c N sc c'&&bc k a N sc a'&&bc k b N sc b'
  |_=>false
 |.for_ t is ik src body,N,sc,s=>match s with
  |.For tg iter body' [] _=>tgB t N sc true is tg&&o_ iter&&(match d9 sc tg ik iter with
    |some as=>az k src N sc as
    |none=>false)&&bc k body N sc body'
  |_=>false
 |.whl c body,N,sc,s=>match s with
  |.While c' body' [] _=>ax k c N sc c'&&bc k body N sc body'
  |_=>false
 |.brk,_,_,s=>match s with
  |.Break _=>true
  |_=>false
 |.cnt,_,_,s=>match s with
  |.Continue _=>true
  |_=>false
 |.pas,_,_,s=>match s with
  |.Pass _=>true
  |_=>false
noncomputable def bc (k:Ck):List S→List Str→Scope→List Stmt→Bool
 |[],_,_,ss'=>ss'.isEmpty
 |s::ss,N,sc,ss'=>match ss' with
  |s'::ss'=>c_ k s N sc s'&&bc k ss N sc ss'
  |[]=>false
end
section
variable {ck : Ck} {Γ : Tab} {C : Ct} {d : Nat} {X : Cx}
theorem pj {sc:Scope}{x:Str} (h:pd sc x=true):Loc sc x:=by
 unfold pd at h
 simp only [Bool.or_eq_true,decide_eq_true_eq] at h
 exact h
theorem gb {v:Expr}{t:Option Expr}{line:Nat}{env:Env} (h:cF v=true):swapsWith v t line env=pure false:=by
 cases v <;> first|rfl|cases h
theorem lK {v t:Expr}{line:Nat}{env:Env} (h:cF v=true):swapsWithSole [t] v line env=pure false:=by
 rw [swapsWithSole]
 exact gb h
theorem wg {i:Expr} (h:cV i=true):∀ ov iv new,augStore i ov iv new=(do holding [new,ov,iv] (setItem ov iv new);release [new,ov,iv] [];pure .next):=by
 intro ov iv new
 cases i <;> first|rfl|cases h
theorem qr {o i:Expr}{p:Pos}{env:Env} (h:cV i=true):∀ v,assign (.Subscript o i p) env v=(do
   let ov ←holding [v] (eval o env)
   let iv ←holding [v,ov] (eval i env)
   standAt p
   holding [v,ov,iv] (setItem ov iv v)
   release [v,ov,iv] []):=by
 intro v
 cases i <;> first|rfl|cases h
structure Gs (ck:Ck) (Γ:Tab) (C:Ct) (d:Nat) (X:Cx):Prop where
 gd:Gd ck Γ C d X
 nd:X.N.Nodup
 fn:∀ x,X.fn x=true
 po:PassesOwn (model X.prog X.w) X.A X.env X.xe
 kd:X.env.scope.kind=.function
theorem qt {ik:Ik}{iter tg:Expr}{src:List E} (g:Gd ck Γ C d X) (h:(match d9 X.env.scope tg ik iter with|some as=>az ck src X.N X.env.scope as|none=>false)=true):PI X tg iter (tIt C ik (bE Γ src)):=by
 split at h
 ·rename_i as has
  exact wZ g has (gz src X _ g h) (fun a e=>by
   subst e
   cases src with
   |nil=>simp [az] at h
   |cons e1 es1 =>
    cases es1 with
    |nil =>
     simp only [az,Bool.and_eq_true] at h
     exact ⟨e1,rfl,ba e1 X _ g h.1.2⟩
    |cons _ _=>simp [az] at h) (cI h)
 ·cases h
theorem jf {elt:Expr}{gens:List Comprehension}{s:Scope}{pos p spos:Pos}{x:Str} (hk:X.env.scope.kind=.function):swapsWith (.ListComp elt gens s pos) (some (.Name x p)) spos.line X.env=pure (swB X.env.scope x p.line (.ListComp elt gens s pos)):=by
 have hb:X.env.blockKind=.function:=by
  unfold Env.blockKind
  rw [hk]
  rfl
 show (pure (X.env.blockKind==.function&&X.env.kindOf x==some .local&&p.line==pos.line&&!(s.names.any fun (n,k)=>n==x&&(k==.local||k==.cell))):Sem Bool)=_
 rw [hb]
 unfold swB
 congr 1
 have:(X.env.kindOf x==some NameKind.local)=decide (X.env.scope.names.lookup x=some .local):=by
  unfold Env.kindOf
  rw [Bool.eq_iff_iff]
  simp
 rw [this]
 rfl
theorem yV {i:Nat}{x:Str}{p spos pos:Pos}{n:Nat}{t:Bool}{ik:Ik}{src cond:List E}{e:E}{elt tg iter:Expr}{ifs:List Expr}{scope:Scope} (G:Gs ck Γ C d X) (hi:X.N[i]?=some x) (hx:pd X.env.scope x=true)
  (h:ax ck (.comp n t ik src cond e) X.N X.env.scope (.ListComp elt [⟨tg,iter,ifs,0⟩] scope pos)=true) (ns:Nat→Bool) (hns:∀ j,ns j=true→j≠i) :
  L2.PS X (.Assign [.Name x p] (.ListComp elt [⟨tg,iter,ifs,0⟩] scope pos) spos) (tEx C ns (ev Γ (.comp n t ik src cond e) >>= fun r=>dU i r >>= fun _=>pure .nx)):=by
 have g:=G.gd
 have hE:=ba (.comp n t ik src cond e) X _ g h
 cases hsw:swB X.env.scope x p.line (.ListComp elt [⟨tg,iter,ifs,0⟩] scope pos) with
 |false=>exact wY hns G.nd hi (pj hx) (.inl (G.fn x)) hE (by rw [jf G.kd,hsw])
 |true =>
  have hl:X.env.scope.names.lookup x=some .local:=by
   simp only [swB,Bool.and_eq_true,decide_eq_true_eq] at hsw
   exact hsw.1.1
  simp only [ax,Bool.and_eq_true,decide_eq_true_eq] at h
  obtain ⟨⟨⟨⟨⟨⟨⟨h1,h2⟩,h3⟩,h4⟩,h5⟩,h6⟩,h7⟩,h8⟩:=h
  subst h1
  have S:=sH (X:=X) rfl (j_ _ _) h2
  exact yL hns S g.calm G.nd hi hl (qt g h5) (fun D s H ex=>qo (fa:=false) g.calm g.K S.nd (fun z=>nomatch z) h3)
   (fun D s H ex=>by
    cases ifs with
    |nil =>
     cases cond with
     |nil=>exact fun pins s σ H Q I ⟨c0,e1,e2,ok,w⟩=>pT pins s σ H Q I (by subst e1 e2;rw [show aS Γ []=pure true from rfl,af] at w;exact w c0 rfl rfl ok (Nx.refl c0))
     |cons _ _=>simp [az] at h7
    |cons c1 cs =>
     cases cs with
     |nil =>
      cases cond with
      |nil=>simp [az] at h7
      |cons e1 es1 =>
       cases es1 with
       |nil =>
        simp only [az,Bool.and_eq_true] at h7
        exact pU (lJ e1 (cxC X _ scope D s H ex) c1 (g.cx _ _ _ _ _ _) h7.1.2)
       |cons _ _=>simp [az] at h7
     |cons _ _=>simp at h6)
   (fun D s H ex=>ba e (cxC X _ scope D s H ex) elt (g.cx _ _ _ _ _ _) h8) (by rw [jf G.kd,hsw]) (ph h4)
mutual
theorem Bg:∀ (s:S) (X:Cx) (s':Stmt),Gs ck Γ C d X→c_ ck s X.N X.env.scope s'=true→L2.PS X s' (tEx C (nsS s) (exec Γ s))
 |.set i e,X,s',G,h=>by
  simp only [c_] at h
  split at h
  ·rename_i x p v _
   simp only [Bool.and_eq_true,decide_eq_true_eq] at h
   obtain ⟨⟨⟨⟨⟨h1,h2⟩,h3⟩,h4⟩,h5⟩,h6⟩:=h
   have hns:∀ j,nsS (.set i e) j=true→j≠i:=fun j hj=>by simpa [nsS] using hj
   by_cases hc:cF v=true
   ·exact wY hns G.nd h1 (pj h2) (.inl (G.fn x)) (ba e X v G.gd h4) (gb hc)
   ·cases e with
    |comp n t ik src cond e =>
     have h4':=h4
     simp only [ax] at h4'
     split at h4'
     ·exact yV G h1 h2 h4 _ hns
     ·cases h4'
    |_=>exact absurd h6 hc
  ·cases h
 |.setT is e,X,s',G,h=>by
  simp only [c_] at h
  split at h
  ·simp only [Bool.and_eq_true] at h
   obtain ⟨⟨⟨h1,h2⟩,h3⟩,h4⟩:=h
   rename_i es kk p v _
   refine yM (fun j hj=>by simpa [nsS] using hj) (ba e X v G.gd h4) (qo (fa:=true) G.gd.calm G.gd.K G.nd (fun _=>G.fn) h1) (lK h2) ?_ rfl
   cases v <;> first|rfl|cases h3
  ·cases h
 |.put i a b,X,s',G,h=>by
  simp only [c_] at h
  obtain ⟨t,v,p,rfl,z1⟩:=je h
  obtain ⟨o,a',p1,rfl,z2⟩:=dH z1
  obtain ⟨x,px,rfl,z3⟩:=aj z2
  simp only [Bool.and_eq_true,decide_eq_true_eq] at z3
  obtain ⟨⟨⟨⟨⟨⟨h1,h2⟩,h3⟩,h4⟩,h5⟩,h6⟩,h7⟩:=z3
  obtain ⟨q1,q2⟩:=aI h3
  exact Ae G.gd.P G.gd.w G.gd.K G.gd.u h1 (bY h2) q1 q2 (ba b X _ G.gd h7) (ba a X _ G.gd h6) (lK h4) rfl (qr h5)
 |.app i e,X,s',G,h=>by
  simp only [c_] at h
  obtain ⟨c,p0,rfl,z1⟩:=dI h
  obtain ⟨o,m,apos,as,cpos,rfl,z2⟩:=bq z1
  obtain ⟨x,px,rfl,z3⟩:=aj z2
  obtain ⟨a,rfl,z4⟩:=bw z3
  simp only [Bool.and_eq_true,decide_eq_true_eq] at z4
  obtain ⟨⟨⟨⟨⟨⟨rfl,h1⟩,h2⟩,h3⟩,h4⟩,h5⟩,h6⟩:=z4
  obtain ⟨q1,q2⟩:=aI h3
  have st:=bx (env:=X.env) (es:=[]) h5
  have sa:=(bz (pos:=cpos) (env:=X.env) (es:=[a]) fun e he=>by simp at he;subst he;exact h5).2
  refine Ac G.gd.K h1 (bY h2) q1 q2 (ba e X _ G.gd h6) ?_ h4 st
  rw [sa]
  rfl
 |.ext i e,X,s',G,h=>by
  simp only [c_] at h
  obtain ⟨c,p0,rfl,z1⟩:=dI h
  obtain ⟨o,m,apos,as,cpos,rfl,z2⟩:=bq z1
  obtain ⟨x,px,rfl,z3⟩:=aj z2
  obtain ⟨a,rfl,z4⟩:=bw z3
  simp only [Bool.and_eq_true,decide_eq_true_eq] at z4
  obtain ⟨⟨⟨⟨⟨⟨rfl,h1⟩,h2⟩,h3⟩,h4⟩,h5⟩,h6⟩:=z4
  obtain ⟨q1,q2⟩:=aI h3
  have st:=bx (env:=X.env) (es:=[]) h5
  have sa:=(bz (pos:=cpos) (env:=X.env) (es:=[a]) fun e he=>by simp at he;subst he;exact h5).2
  refine Ad G.gd.K h1 (bY h2) q1 q2 (ba e X _ G.gd h6) ?_ h4 st
  rw [sa]
  rfl
 |.bad,X,s',G,h=>fun pins sh σ H D I ⟨_,_,_,_,w⟩=>(av.mp w).elim
 |.newD i,X,s',G,h=>by
  simp only [c_] at h
  split at h
  ·simp only [Bool.and_eq_true,decide_eq_true_eq] at h
   exact yN (fun j hj=>by simpa [nsS] using hj) G.nd h.1 (pj h.2) (.inl (G.fn _)) (gb rfl)
  ·cases h
 |.putD i a b,X,s',G,h=>by
  simp only [c_] at h
  obtain ⟨t,v,p,rfl,z1⟩:=je h
  obtain ⟨o,a',p1,rfl,z2⟩:=dH z1
  obtain ⟨x,px,rfl,z3⟩:=aj z2
  simp only [Bool.and_eq_true,decide_eq_true_eq] at z3
  obtain ⟨⟨⟨⟨⟨⟨h1,h2⟩,h3⟩,h4⟩,h5⟩,h6⟩,h7⟩:=z3
  obtain ⟨q1,q2⟩:=aI h3
  exact yO G.gd.u h1 (bY h2) q1 q2 (ba b X _ G.gd h7) (ba a X _ G.gd h6) (lK h4) rfl (qr h5)
 |.appD i a e,X,s',G,h=>by
  simp only [c_] at h
  obtain ⟨c,p0,rfl,z1⟩:=dI h
  obtain ⟨o,m,apos,as,cpos,rfl,z2⟩:=bq z1
  obtain ⟨o',a',p1,rfl,z3⟩:=dH z2
  obtain ⟨x,px,rfl,z4⟩:=aj z3
  obtain ⟨b,rfl,z5⟩:=bw z4
  simp only [Bool.and_eq_true,decide_eq_true_eq] at z5
  obtain ⟨⟨⟨⟨⟨⟨⟨⟨rfl,h1⟩,h2⟩,h3⟩,h4⟩,h5⟩,h6⟩,h7⟩,h8⟩:=z5
  obtain ⟨q1,q2⟩:=aI h3
  have st:=bx (env:=X.env) (es:=[]) h6
  have sa:=(bz (pos:=cpos) (env:=X.env) (es:=[b]) fun e he=>by simp at he;subst he;exact h6).2
  refine yP G.gd.K G.gd.u h1 (bY h2) q1 q2 (ba e X _ G.gd h8) (ba a X _ G.gd h7) (jc h4) ?_ h5 st
  rw [sa]
  rfl
 |.aug sub i a e,X,s',G,h=>by
  simp only [c_] at h
  split at h
  ·obtain ⟨o,a',p1,rfl,z1⟩:=dH h
   obtain ⟨x,px,rfl,z2⟩:=aj z1
   simp only [Bool.and_eq_true,decide_eq_true_eq] at z2
   obtain ⟨⟨⟨⟨⟨⟨rfl,h1⟩,h2⟩,h3⟩,h4⟩,h5⟩,h6⟩:=z2
   obtain ⟨q1,q2⟩:=aI h3
   exact Ag h1 (bY h2) q1 q2 (ba e X _ G.gd h6) (ba a X _ G.gd h5) (wg h4)
  ·cases h
 |.rvs i,X,s',G,h=>by
  simp only [c_] at h
  obtain ⟨c,p0,rfl,z1⟩:=dI h
  obtain ⟨o,m,apos,as,cpos,rfl,z2⟩:=bq z1
  obtain ⟨x,px,rfl,z3⟩:=aj z2
  simp only [Bool.and_eq_true,decide_eq_true_eq,List.isEmpty_iff] at z3
  obtain ⟨⟨⟨⟨⟨rfl,rfl⟩,h1⟩,h2⟩,h3⟩,h4⟩:=z3
  obtain ⟨q1,q2⟩:=aI h3
  exact Ah h1 (bY h2) q1 q2 h4
 |.exp e,X,s',G,h=>by
  simp only [c_] at h
  split at h
  ·simp only [Bool.and_eq_true] at h
   exact zY (ba e X _ G.gd h.2) (gb h.1)
  ·cases h
 |.ret e,X,s',G,h=>by
  simp only [c_] at h
  split at h
  ·exact zZ (ba e X _ G.gd h)
  ·cases h
 |.retN,X,s',G,h=>by
  simp only [c_] at h
  split at h
  ·exact yK
  ·cases h
 |.ite c a b,X,s',G,h=>by
  simp only [c_] at h
  split at h
  ·simp only [Bool.and_eq_true] at h
   have ha:=kb a X _ G h.1.2
   have hb:=kb b X _ G h.2
   exact z_ (lJ c X _ G.gd h.1.1) (PSs.weak ha fun D σ H z=>lF (fun j hj=>by simp only [nsS,Bool.and_eq_true] at hj;exact hj.1) z) (PSs.weak hb fun D σ H z=>lF (fun j hj=>by simp only [nsS,Bool.and_eq_true] at hj;exact hj.2) z)
  ·cases h
 |.for_ t is ik src body,X,s',G,h=>by
  simp only [c_] at h
  split at h
  ·rename_i tg iter body' _
   rw [Bool.and_eq_true,Bool.and_eq_true,Bool.and_eq_true] at h
   exact Ab G.po G.gd.calm (qt G.gd h.1.2) (qo (fa:=true) G.gd.calm G.gd.K G.nd (fun _=>G.fn) h.1.1.1) (kb body X _ G h.2) (ph h.1.1.2) fun j hj=>by simpa [nsS] using hj
  ·cases h
 |.whl c body,X,s',G,h=>by
  simp only [c_] at h
  split at h
  ·simp only [Bool.and_eq_true] at h
   exact Aa G.po (lJ c X _ G.gd h.1) (kb body X _ G h.2)
  ·cases h
 |.brk,X,s',G,h=>by
  simp only [c_] at h
  split at h
  ·exact zV
  ·cases h
 |.cnt,X,s',G,h=>by
  simp only [c_] at h
  split at h
  ·exact zW
  ·cases h
 |.pas,X,s',G,h=>by
  simp only [c_] at h
  split at h
  ·exact zX
  ·cases h
theorem kb:∀ (ss:List S) (X:Cx) (ss':List Stmt),Gs ck Γ C d X→bc ck ss X.N X.env.scope ss'=true→PSs X ss' (tEx C (nsL ss) (execs Γ ss))
 |[],X,ss',G,h=>by
  cases ss' with
  |nil=>exact zU
  |cons _ _=>simp [bc] at h
 |s::ss,X,ss',G,h=>by
  cases ss' with
  |nil=>simp [bc] at h
  |cons s' ss' =>
   simp only [bc,Bool.and_eq_true] at h
   have h1:=Bg s X s' G h.1
   have h2:=kb ss X ss' G h.2
   exact yJ (PS.weak h1 fun D σ H z=>lF (fun j hj=>by simp only [nsL,Bool.and_eq_true] at hj;exact hj.1) z) (PSs.weak h2 fun D σ H z=>lF (fun j hj=>by simp only [nsL,Bool.and_eq_true] at hj;exact hj.2) z)
end
end
end TM
namespace TM
open PySem L2 PyProof.Rows
section
variable {ck : Ck} {Γ : Tab} {d : Nat} {P : Program} {w : World} {K : PySem.W.Frag} {mg : Str → Option Value} {base : Heap}
theorem gA {us:List U}{n i:Nat}{k:Kd}{u:U} (h:(start us n)[i]?=some (some (k,u))):us[i]?=some u∧k=if imm u=true then .loc else .any:=by
 unfold start at h
 by_cases hi:i<us.length
 ·rw [List.getElem?_append_left (by simpa using hi),List.getElem?_map] at h
  rw [List.getElem?_eq_getElem hi] at h ⊢
  simp only [Option.map_some,Option.some.injEq,Prod.mk.injEq] at h
  obtain ⟨h1,h2⟩:=h
  subst h2
  exact ⟨rfl,h1.symm⟩
 ·rw [List.getElem?_append_right (by simp;omega),List.getElem?_replicate] at h
  split at h <;> cases h
theorem pk {vs:List V}{N:List Str}{i:Nat}{v:V} (h:vs[i]?=some v):(L2.start N vs)[i]?=some (some v):=by
 unfold L2.start
 have hi:i<vs.length:=(List.getElem?_eq_some_iff.mp h).1
 rw [List.getElem?_append_left (by simpa using hi),List.getElem?_map,h]
 rfl
theorem tU {us:List U}{vs:List V}{N:List Str}{H:Hp} (h:ah (ct0 P w K H) (Dom H) H us vs) {n:Nat} (hn:N.length=n):Ok (ct0 P w K H) ⟨fun _=>False,H,L2.start N vs,start us n,fun _=>[]⟩:=by
 have noD:∀ (j:Nat) (u:U),(start us n)[j]?≠some (some (.ownD,u)):=fun j u e=>by
  have:=(gA e).2
  split at this <;> cases this
 refine ⟨fun a o e _=>e,fun a z=>z.elim,fun a ⟨o,z⟩=>⟨⟨o,z⟩,fun z=>z⟩,fun a z=>z.elim,?_,fun i k u e=>?_,fun i j k k' u u' r hk hk' e1 e2 e3 e4=>?_,⟨fun j u r e _=>(noD j u e).elim,fun i j a ⟨u,_,e,_⟩=>(noD i u e).elim,fun j a ⟨u,_,e,_⟩=>(noD j u e).elim⟩⟩
 ·have:=h.len
  simp [start,L2.start,hn]
  omega
 ·obtain ⟨e1,e2⟩:=gA e
  obtain ⟨v,ev,rep⟩:=h.get e1
  refine ⟨v,pk ev,?_⟩
  subst e2
  by_cases hu:imm u=true
  ·rw [if_pos hu];exact Rep.imm hu rep
  ·rw [if_neg hu];exact Rep.mv (.up fun a z=>.inl z) rep
 ·obtain ⟨_,e5⟩:=gA e1
  subst e5
  split at hk <;> cases hk
theorem lL {fn:Fn}{us:List U}{k:Kd}{u:U} (h:bX Γ fn us=some (.ok (k,u))):us.length=fn.np∧((k=.own∨k=.loc)∧(∃ st',execs Γ fn.body (start us fn.ns)=some (.ok (.rt k u),st'))∨(k=.loc∧u=.non∧∃ st',execs Γ fn.body (start us fn.ns)=some (.ok .nx,st'))):=by
 unfold bX at h
 split at h
 ·rename_i hl
  refine ⟨hl,?_⟩
  split at h
  ·rename_i e;cases h;exact .inl ⟨.inl rfl,_,e⟩
  ·rename_i e;cases h;exact .inl ⟨.inr rfl,_,e⟩
  ·rename_i e;cases h;exact .inr ⟨rfl,rfl,_,e⟩
  ·cases h
  ·cases h
 ·cases h
theorem xb {fn:Fn}{qual:Str}{st:Stmt}{f:Addr}{fd:FuncData}{N ps:List Str} (F:Fun K fn.name qual st f fd) (S:aG N ps (ae st)) (hN:N.length=fn.ns) (hps:ps.length=fn.np)
  (hchk:bc ck fn.body N (ae st) (ao st)=true) (blt:∀ x∈bo,mg x=none) (fns:∀ g∈ck.fns,yS P w K mg base d (Γ g) g)
  (gls:∀ p∈ck.gl,∃ val v,mg p.1=some val∧RelV v val∧∀ (C:Ct) S H,Rep C S H p.2 v):mF P w K mg base CX0 (d+1) f fd ps (spT P w K (bX Γ fn) fn.np):=by
 refine F.ok S (fun vs H Q E h=>h.1.trans hps.symm) (fun cdv A outer s H vs Q E hr h=>?_)
 obtain ⟨hl,us,k,u,hrun,hk,rep,cont⟩:=h
 have hun:=hr.un
 have G:Gs ck Γ (ct0 P w K H) d (oq CX0 P w K mg base N qual (ae st) f cdv A outer s H E).nox :=
  ⟨⟨rfl,rfl,rfl,by show (A.deeper (envOfC qual (ae st) s.heap.objs.size f cdv)).units+60<cLine;omega,rfl,hr,blt,fns,fun p hp=>let ⟨val,v,q1,q2,q3⟩:=gls p hp;⟨val,v,q1,q2,q3 _⟩⟩,S.nd,fun _=>rfl,PassesOwn.never,S.kind⟩
 refine ⟨_,kb fn.body _ _ G hchk,⟨fun _=>False,H,L2.start N vs,start us fn.ns,fun _=>[]⟩,rfl,rfl,tU rep hN,?_⟩
 obtain ⟨_,hres⟩:=lL hrun
 have mk:∀ (c:Cf),Ok (ct0 P w K H) c→∀ v,zT (ct0 P w K H) c k u v→Back (ct0 P w K H) H c.H c.S k u v:=fun c ok v r=>by
  refine ⟨fun a o e=>ok.same a o e fun z=>z,fun a z=>ok.sfr a z,fun e=>?_,fun e=>?_⟩
  ·subst e
   obtain ⟨r0,e,h1,h2,h3,h4⟩:=r
   exact ⟨r0,e,h1,h2,h4⟩
  ·subst e;exact r
 rcases hres with ⟨_,st',e⟩|⟨rfl,rfl,st',e⟩
 ·exact ⟨_,st',e,fun c ec ok n kp v r=>cont v c.H c.S (mk c ok v r)⟩
 ·exact ⟨_,st',e,fun c ec ok n kp=>cont .non c.H c.S (mk c ok .non rfl)⟩
structure Ld (ck:Ck) (K:PySem.W.Frag) (mg:Str→Option Value) (fn:Fn):Prop where
 ex:∃ (qual:Str) (st:Stmt) (f:Addr) (fd:FuncData) (N ps:List Str),Fun K fn.name qual st f fd∧mg fn.name=some (.ref f)∧Binds K fd ps []∧aG N ps (ae st)∧N.length=fn.ns∧ps.length=fn.np∧bc ck fn.body N (ae st) (ao st)=true
theorem wj {Pg:List Fn} (hnd:(Pg.map (·.name)).Nodup) {fn:Fn} (h:fn∈Pg):Pg.find? (fun g=>decide (g.name=fn.name))=some fn:=by
 induction Pg with
 |nil=>cases h
 |cons g Pg ih =>
  rw [List.map_cons,List.nodup_cons] at hnd
  rcases List.mem_cons.mp h with rfl|h
  ·simp
  ·rw [List.find?_cons]
   have:decide (g.name=fn.name)=false:=by
    apply decide_eq_false
    intro z
    exact hnd.1 (z ▸ List.mem_map_of_mem h)
   rw [this]
   exact ih hnd.2 h
theorem tV {Pg:List Fn} (hnd:(Pg.map (·.name)).Nodup) {fn:Fn} (h:fn∈Pg):sem Pg (d+1) fn.name=bX (sem Pg d) fn:=by
 funext us
 show (match Pg.find? fun g=>decide (g.name=fn.name) with|some fn=>bX (sem Pg d) fn us|none=>none)=_
 rw [wj hnd h]
theorem wm {Pg:List Fn} (hnd:(Pg.map (·.name)).Nodup) (hck:ck.fns=Pg.map (·.name)) (blt:∀ x∈bo,mg x=none) (gls:∀ p∈ck.gl,∃ val v,mg p.1=some val∧RelV v val∧∀ (C:Ct) S H,Rep C S H p.2 v)
  (ld:∀ fn∈Pg,Ld ck K mg fn):∀ d,∀ fn∈Pg,yS P w K mg base d (sem Pg d fn.name) fn.name:=by
 intro d
 induction d with
 |zero =>
  intro fn hfn
  obtain ⟨qual,st,f,fd,N,ps,F,hm,hb,S,hN,hps,hc⟩:=(ld fn hfn).ex
  exact ⟨fn.np,f,fd,ps,⟨fun vs H Q E h=>h.1.trans hps.symm,fun A outer s H args us vs Q E _ _ _ _ h=>by obtain ⟨_,us,k,u,e,_⟩:=h;cases e⟩,hm,F.kp,hb,fun us k u e=>by cases e⟩
 |succ d ih =>
  intro fn hfn
  obtain ⟨qual,st,f,fd,N,ps,F,hm,hb,S,hN,hps,hc⟩:=(ld fn hfn).ex
  rw [tV hnd hfn]
  refine ⟨fn.np,f,fd,ps,xb F S hN hps hc blt (fun g hg=>?_) gls,hm,F.kp,hb,fun us k u e=>?_⟩
  ·rw [hck] at hg
   obtain ⟨fn',h1,rfl⟩:=List.mem_map.mp hg
   exact ih fn' h1
  ·obtain ⟨h1,h2⟩:=lL e
   refine ⟨?_,h1⟩
   rcases h2 with ⟨z,_⟩|⟨z,_⟩
   ·exact z
   ·exact .inr z
end
noncomputable def rA (ns:List Int):U:=.lst (ns.map .int)
theorem kg {C:Ct}{S:Addr→Prop}{H:Hp}:∀ (ns:List Int),ah C S H (ns.map .int) (ns.map V.int)
 |[]=>rfl
 |n::ns=>⟨_,_,rfl,rfl,kg ns⟩
theorem pq {C:Ct}{H:Hp}{a:Addr}{ns:List Int} (h:SqL C.K H a (ns.map V.int)):Rep C (Dom H) H (rA ns) (.ref a):=by
 refine ⟨a,_,rfl,?_,kg ns⟩
 rcases h with (h|⟨o,h⟩)|h
 ·exact .inl ⟨⟨_,h⟩,.inl h⟩
 ·exact .inl ⟨⟨_,h⟩,.inr ⟨o,h⟩⟩
 ·exact .inr h
theorem walk {l:PySem.W.OpenLaw}{q:Program}{loose:List Str}{XP:(Str→Option Value)→Heap→Prop}{YP:World→Heap→Prop}{d:DefRec}{K:Params→PySem.W.Frag}{Pg:List Fn}{ck:Ck}{dp:Nat}{x:Str}
  (hn:l.most=some 63) (hdf:d.params.defaults=[]) (hr:fC (dp+1) callerA) (hY:∀ (w:World) (h:Heap),YP w h→(K w.params).In h)
  (hnd:(Pg.map (·.name)).Nodup) (hck:ck.fns=Pg.map (·.name)) {fn:Fn} (hfn:fn∈Pg) (hname:fn.name=d.name)
  (F:∀ (w:World) (mg:Str→Option Value) (fa:Addr) (h:Heap),(K w.params).In h→h.Ns mainGlobals mg→mg d.name=some (.ref fa) →
   (∀ y∈bo,mg y=none)∧(∀ p∈ck.gl,∃ val v,mg p.1=some val∧RelV v val∧∀ (C:Ct) S H,Rep C S H p.2 v)∧(∀ g∈Pg,Ld ck (K w.params) mg g) ∧
   ∃ (qual:Str) (st:Stmt) (fd:FuncData) (N:List Str),Fun (K w.params) fn.name qual st fa fd∧aG N [x] (ae st)∧N.length=fn.ns∧1=fn.np∧bc ck fn.body N (ae st) (ao st)=true∧∀ (s:Shared) (u:Value),BindsTo s fd ⟨[u],[]⟩ [(x,u)])
  (T:∀ ns:List Int,ns.length≤63→sem Pg (dp+1) fn.name [rA ns]=some (.ok (.loc,.bl true))) :
  PySem.W.WalkO q loose XP YP l.row.toRowW d [] (fun f vs=>PySem.call f vs) :=
 L2.u9 (n:=63) (k:=dp+1) (x:=x) (CX:=fun _=>CX0) (sp:=fun w=>spT l.prog w (K w.params) (bX (sem Pg dp) fn) fn.np) hn (by decide) hdf hr hY
  (fun w mg fa h KX G hmg=>by
   obtain ⟨blt,gls,ld,qual,st,fd,N,F1,S,hN,hps,hc,hb⟩:=F w mg fa h KX G hmg
   refine ⟨fd,hb,fun base _ _=>xb F1 S hN hps hc blt (fun g hg=>?_) gls⟩
   rw [hck] at hg
   obtain ⟨fn',h1,rfl⟩:=List.mem_map.mp hg
   exact wm hnd hck blt gls ld dp fn' h1)
  (fun w H a ns hl _ hS=>by
   have t:=T ns hl
   rw [tV hnd hfn] at t
   have hnp:fn.np=1:=(lL t).1.symm
   exact ⟨hnp.symm,[rA ns],.loc,.bl true,t,.inr rfl,⟨_,_,rfl,pq hS,rfl⟩,fun v H' S' b=>b.loc rfl⟩)
  fun _ _ _ _ _ z=>z
end TM
namespace W01
open PySem L2
noncomputable def bV (l:List Nat):Prop:=dN l=true∨∃ a b k,l=a++47::b∧dN a=true∧2≤k∧k≤99∧(qS k).cps.toList=b
theorem len_list (x:Str):x.length=x.cps.toList.length:=by simp [Str.length]
theorem kh {k:Int} (h0:0≤k) (h1:k≤99):(qS k).length≤2:=by
 obtain ⟨m,rfl⟩:=Int.eq_ofNat_of_zero_le h0
 have hm:m<100:=by omega
 clear h0 h1
 revert m
 decide +kernel
theorem bV.len {l:List Nat} (h:bV l):1≤l.length∧l.length≤11:=by
 rcases h with h|⟨a,b,k,rfl,h,h2,h9,hb⟩
 ·have:=(b_ l).mp h
  omega
 ·have:=(b_ a).mp h
  have hl:=kh (k:=k) (by omega) h9
  rw [len_list,hb] at hl
  simp
  omega
theorem bV.Bh {x:Str} (h:bV x.cps.toList):∃ y r,Txt.split x wU=y::r∧dN y.cps.toList=true:=by
 rcases h with h|⟨a,b,k,e,h,_⟩
 ·exact ⟨x,[],oz (mL h),h⟩
 ·obtain ⟨r,e'⟩:=sy e (mL h) (by decide)
  exact ⟨_,r,e',by simpa using h⟩
theorem dR:∀ (ps:List Str) (acc:Array Nat),(ps.foldl (fun acc p=>acc++Str.empty.cps++p.cps) acc).toList=acc.toList++(ps.map fun p=>p.cps.toList).flatten
 |[],acc=>by simp
 |p::ps,acc=>by
  rw [List.foldl_cons,dR ps]
  have:Str.empty.cps=#[]:=rfl
  simp [this]
theorem join_list (ts:List Str):(Txt.join Str.empty ts).cps.toList=(ts.map fun p=>p.cps.toList).flatten:=by
 cases ts with
 |nil=>rfl
 |cons t ts =>
  show (ts.foldl (fun acc p=>acc++Str.empty.cps++p.cps) t.cps).toList=_
  rw [dR]
  simp
noncomputable def one (c:Nat):Str:=⟨#[c]⟩
theorem join_ones (cs:List Nat):(Txt.join Str.empty (cs.map one)).cps.toList=cs:=by
 rw [join_list,List.map_map]
 induction cs with
 |nil=>rfl
 |cons c cs ih=>rw [List.map_cons,List.flatten_cons,ih];rfl
theorem ng (cs:List Nat) (h:cs.length≤100):JoinOk Str.empty (cs.map one)=true:=by
 unfold JoinOk
 have e:=PySem.StrLaws.joinTotal Str.empty (cs.map one)
 have e0:Str.empty.length=0:=rfl
 have es:((cs.map one).map (·.length)).sum=cs.length:=by
  rw [List.map_map]
  clear h e
  induction cs with
  |nil=>rfl
  |cons c cs ih=>rw [List.map_cons,List.sum_cons,ih];show 1+cs.length=cs.length+1;omega
 rw [e,e0,es]
 have hm:cs.length+(cs.map one).length * 0≤100:=by omega
 revert hm
 generalize cs.length+(cs.map one).length * 0=m
 revert m
 decide
theorem yW (x:Str) (j:Nat):(PySem.StrLaws.sliceText x none (some (j:Int))).cps.toList=x.cps.toList.take j:=by
 by_cases h:j≤x.cps.toList.length
 ·rw [PySem.StrLaws.sliceText_to (x:=x) ⟨by omega,by omega⟩]
  simp
 ·have e:PySem.StrLaws.sliceText x none (some (j:Int))=PySem.StrLaws.sliceText x none (some (x.length:Int)):=by
   unfold PySem.StrLaws.sliceText
   have hl:=len_list x
   have:PySem.Builtin.Str.strSliceIndices none (some (j:Int)) 1 x.length=PySem.Builtin.Str.strSliceIndices none (some (x.length:Int)) 1 x.length:=by
    have h1:¬ ((j:Int)<0):=by omega
    have h2:¬ ((x.length:Int)<0):=by omega
    have e1:min (j:Int) (x.length:Int)=x.length:=by omega
    simp [PySem.Builtin.Str.strSliceIndices,h1,h2,e1]
   rw [this]
  have hl:=len_list x
  rw [e,PySem.StrLaws.sliceText_to (x:=x) ⟨by omega,by omega⟩,List.drop_zero,List.take_of_length_le (l:=x.cps.toList) (i:=j) (by omega)]
  show (x.cps.toList.take ((x.length:Int) - 0).toNat).toArray.toList=_
  rw [List.take_of_length_le (by omega)]
theorem rB {a b:List Nat} (ha:dN a=true) (hb:∀ c∈b,low c=true):dN ((a++b).take 8)=true:=by
 have h:=(b_ a).mp ha
 refine (b_ _).mpr ⟨by simp;omega,by simp;omega,fun c hc=>?_⟩
 have hc':=List.mem_of_mem_take hc
 rcases List.mem_append.mp hc' with m|m
 ·exact h.2.2 c m
 ·have:=hb c m
  simp [low] at this
  omega
theorem gR {b:List Nat} (hb:∀ c∈b,low c=true) (h1:1≤b.length) (h8:b.length≤8):dN b=true :=
 (b_ b).mpr ⟨h1,h8,fun c hc=>by have:=hb c hc;simp [low] at this;omega⟩
noncomputable def small:Str:="abcdefghijklmnopqrstuvwxyz"
theorem pv:small.cps.toList=(List.range 26).map (97+·):=by decide +kernel
theorem jg {k:Int} (h0:0≤k) (h1:k<26):atI small.cps.toList k=some (97+k.toNat):=by
 obtain ⟨j,rfl⟩:=Int.eq_ofNat_of_zero_le h0
 refine cq ?_
 rw [pv,List.getElem?_map,List.getElem?_range (by omega)]
 rfl
theorem pw {j:Nat} (h:j<26):low (97+j)=true:=by simp [low];omega
noncomputable def kl (k:Nat):Str:=⟨#[97+k / 26,97+k % 26]⟩
theorem pz {k:Nat} (h:k<40):dN (kl k).cps.toList=true:=by
 refine gR (fun c hc=>?_) (by show 1≤2;decide) (by show 2≤8;decide)
 have hc':c=97+k / 26∨c=97+k % 26:=by simpa [kl] using hc
 rcases hc' with rfl|rfl
 ·exact pw (by omega)
 ·exact pw (by omega)
theorem jh {α:Type} [DecidableEq α]:∀ {l m:List α},l.Nodup→(∀ x∈l,x∈m)→l.length≤m.length
 |[],_,_,_=>Nat.zero_le _
 |x::l,m,hn,h=>by
  obtain ⟨h1,h2⟩:=List.nodup_cons.mp hn
  have hx:=h x List.mem_cons_self
  have ih:=jh (l:=l) (m:=m.erase x) h2 fun y hy=>(List.mem_erase_of_ne (by rintro rfl;exact h1 hy)).mpr (h y (List.mem_cons_of_mem _ hy))
  rw [List.length_erase_of_mem hx] at ih
  have:0<m.length:=List.length_pos_of_mem hx
  rw [List.length_cons]
  omega
noncomputable def bF:List Str:=(List.range 40).map kl
theorem lM:bF.Nodup:=by
 decide +kernel
theorem pA (names:List Str) (h:names.length<40):∃ x∈bF,x∉names:=by
 apply Classical.byContradiction
 intro hno
 have:∀ x∈bF,x∈names:=fun x hx=>Classical.byContradiction fun hn=>hno ⟨x,hx,hn⟩
 have:=jh lM this
 simp [bF] at this
 omega
end W01
namespace TM
open PySem L2
section
variable {α β : Type} {Γ : Tab} {st st1 st2 st3 st4 : ag}
noncomputable def Run (m:M α) (st:ag) (a:α) (st':ag):Prop:=m st=some (.ok a,st')
theorem aa {m:M α}{f:α→M β}{a:α}{b:β} (h1:Run m st a st1) (h2:Run (f a) st1 b st2):Run (m >>= f) st b st2:=by
 show M.bind m f st=_
 unfold M.bind
 rw [show m st=_ from h1]
 exact h2
theorem aJ {a:α}:Run (pure a:M α) st a st:=rfl
theorem cP {o:Option α}{a:α} (h:o=some a):Run (M.ofO o) st a st:=by subst h;rfl
theorem aX {rs:List (Kd×U)} (h:bj rs st):Run (au rs) st () st:=by show au rs st=_;unfold au;rw [if_pos h]
noncomputable def kv (i:Nat) (k:Kd):Kd:=if k.root=true then .bor i else k
theorem gf {i:Nat}{k:Kd}{u:U} (h:st[i]?=some (some (k,u))) (hk:k≠.ownD:=by intro z;cases z):Run (cT i) st (kv i k,u) st:=by
 show cT i st=_
 unfold cT
 rw [h]
 cases k <;> first|rfl|exact absurd rfl hk
theorem ak {i:Nat}{u:U} (h:st[i]?=some (some (.loc,u))):Run (ev Γ (.var i)) st (.loc,u) st:=gf h
theorem aK {i:Nat}{u:U} (h:st[i]?=some (some (.any,u))):Run (ev Γ (.var i)) st (.any,u) st:=gf h
theorem aL {i:Nat}{u:U} (h:st[i]?=some (some (.own,u))):Run (ev Γ (.var i)) st (.bor i,u) st:=gf h
theorem aY {u:U}:Run (ev Γ (.cst u)) st (.loc,u) st:=rfl
theorem gS {op:Bop}{a b:E}{x y r:Kd×U} (h1:Run (ev Γ a) st x st1) (h2:Run (ev Γ b) st1 y st2) (h3:bj [x,y] st2) (h4:opU op x y=some r):Run (ev Γ (.bin op a b)) st r st2 :=
 aa h1 (aa h2 (aa (aX h3) (cP h4)))
theorem nh {op:Cop}{a b:E}{x y:Kd×U}{c:Bool} (h1:Run (ev Γ a) st x st1) (h2:Run (ev Γ b) st1 y st2) (h3:bj [x,y] st2) (h4:bh op x.2 y.2=some c):Run (ev Γ (.cmp op a b)) st (.loc,.bl c) st2 :=
 aa h1 (aa h2 (aa (aX h3) (aa (cP h4) aJ)))
theorem cQ {a b:E}{x y r:Kd×U} (h1:Run (ev Γ a) st x st1) (h2:Run (ev Γ b) st1 y st2) (h3:bj [x,y] st2) (h4:fR x y.2=some r):Run (ev Γ (.idx a b)) st r st2 :=
 aa h1 (aa h2 (aa (aX h3) (cP h4)))
theorem Al:Run (evO Γ []) st none st:=rfl
theorem Am {e:E}{k:Kd}{i:Int} (h:Run (ev Γ e) st (k,.int i) st1):Run (evO Γ [e]) st (some i) st1:=aa h rfl
theorem An {a:E}{lo hi:List E}{x r:Kd×U}{l h:Option Int} (h1:Run (ev Γ a) st x st1) (h2:Run (evO Γ lo) st1 l st2) (h3:Run (evO Γ hi) st2 h st3) (h4:bj [x] st3) (h5:oO x l h=some r):Run (ev Γ (.slc a lo hi)) st r st3 :=
 aa h1 (aa h2 (aa h3 (aa (aX h4) (cP h5))))
theorem aw:Run (bE Γ []) st [] st:=rfl
theorem ar {e:E}{es:List E}{r:Kd×U}{rs:List (Kd×U)} (h1:Run (ev Γ e) st r st1) (h2:Run (bE Γ es) st1 rs st2):Run (bE Γ (e::es)) st (r::rs) st2:=aa h1 (aa h2 aJ)
theorem ji {f:Bf}{es:List E}{rs:List (Kd×U)}{r:Kd×U} (h1:Run (bE Γ es) st rs st1) (h2:bj rs st1) (h3:biU f rs=some r):Run (ev Γ (.bi f es)) st r st1:=aa h1 (aa (aX h2) (cP h3))
theorem xc {f:B2}{es:List E}{rs:List (Kd×U)}{r:Kd×U} (h1:Run (bE Γ es) st rs st1) (h2:bj rs st1) (h3:oP f rs=some r):Run (ev Γ (.bi2 f es)) st r st1:=aa h1 (aa (aX h2) (cP h3))
theorem tW {m:Mf}{a:E}{es:List E}{x:Kd×U}{rs:List (Kd×U)}{r:Kd×U} (h0:Run (ev Γ a) st x st1) (h1:Run (bE Γ es) st1 rs st2) (h2:bj (x::rs) st2) (h3:hU m x.2 rs=some r):Run (ev Γ (.mth m a es)) st r st2:=aa h0 (aa h1 (aa (aX h2) (cP h3)))
theorem wo {f:Str}{us:List U}{r:Kd×U} (h:Γ f us=some (.ok r)):Run (iU Γ f us) st r st:=by show iU Γ f us st=_;unfold iU;rw [h]
theorem da {f:Str}{es:List E}{rs:List (Kd×U)}{r:Kd×U} (h1:Run (bE Γ es) st rs st1) (h2:bj rs st1) (h3:Γ f (rs.map (·.2))=some (.ok r)):Run (ev Γ (.call f es)) st r st1:=aa h1 (aa (aX h2) (wo h3))
theorem ni {es:List E}{rs:List (Kd×U)}{us:List U} (h1:Run (bE Γ es) st rs st1) (h2:bj rs st1) (h3:Run (cv rs) st1 us st2) (h4:us.length≤sizeLine):Run (ev Γ (.tup es)) st (.loc,.tup us) st2:=by
 refine aa h1 (aa (aX h2) (aa h3 ?_))
 rw [if_pos h4]
 exact aJ
theorem cy {es:List E}{rs:List (Kd×U)}{us:List U} (h1:Run (bE Γ es) st rs st1) (h2:bj rs st1) (h3:Run (cv rs) st1 us st2) (h4:us.length≤sizeLine):Run (ev Γ (.lst es)) st (.own,.lst us) st2:=by
 refine aa h1 (aa (aX h2) (aa h3 ?_))
 rw [if_pos h4]
 exact aJ
theorem lN {r:Bool}:Run (ev Γ (.dnew r)) st (.own,if r=true then .rdc [] else .dic [] []) st:=rfl
theorem tX {u:U}:Run (lift (.own,u)) st u st:=rfl
theorem bC {u:U}:Run (lift (.loc,u)) st u st:=rfl
theorem nj {u:U} (h:imm u=true):Run (lift (.any,u)) st u st:=by
 show (if imm u=true then (pure u:M U) else M.fail) st=_
 rw [if_pos h];rfl
theorem aT:Run (cv []) st [] st:=rfl
theorem bA {r:Kd×U}{rs:List (Kd×U)}{u:U}{us:List U} (h1:Run (lift r) st u st1) (h2:Run (cv rs) st1 us st2):Run (cv (r::rs)) st (u::us) st2:=aa h1 (aa h2 aJ)
theorem bZ {op:Cop}{a b:E}{x y:Kd×U}{c:Bool} (h1:Run (ev Γ a) st x st1) (h2:Run (ev Γ b) st1 y st2) (h3:bj [x,y] st2) (h4:bh op x.2 y.2=some c):Run (tst Γ (.cmp op a b)) st c st2:=aa h1 (aa h2 (aa (aX h3) (cP h4)))
theorem qu {a:E}{c:Bool} (h:Run (tst Γ a) st c st1):Run (tst Γ (.not a)) st (!c) st1:=aa h aJ
theorem nq {es:List E}{c:Bool} (h:Run (aS Γ es) st c st1):Run (tst Γ (.and es)) st c st1:=h
theorem Ao {es:List E}{c:Bool} (h:Run (gO Γ es) st c st1):Run (tst Γ (.or es)) st c st1:=h
theorem nu:Run (aS Γ []) st true st:=rfl
theorem fk {e:E}{c:Bool} (h:Run (tst Γ e) st c st1):Run (aS Γ [e]) st c st1:=h
theorem pB {e e2:E}{es:List E}{c:Bool} (h:Run (tst Γ e) st true st1) (h2:Run (aS Γ (e2::es)) st1 c st2):Run (aS Γ (e::e2::es)) st c st2:=aa h h2
theorem tY {e e2:E}{es:List E} (h:Run (tst Γ e) st false st1):Run (aS Γ (e::e2::es)) st false st1:=aa h aJ
theorem xf {e:E}{c:Bool} (h:Run (tst Γ e) st c st1):Run (gO Γ [e]) st c st1:=h
theorem km {e e2:E}{es:List E}{c:Bool} (h:Run (tst Γ e) st false st1) (h2:Run (gO Γ (e2::es)) st1 c st2):Run (gO Γ (e::e2::es)) st c st2:=aa h h2
theorem br {i:Nat}{u:U}:Run (dU i (.own,u)) st () (st.set i (some (.own,u))):=rfl
theorem aZ {i:Nat}{u:U}:Run (dU i (.loc,u)) st () (st.set i (some (.loc,u))):=rfl
theorem jj {i:Nat}{u:U}:Run (dU i (.any,u)) st () (st.set i (some (.any,u))):=rfl
theorem Ap {i:Nat}{e:E}{r:Kd×U} (h1:Run (ev Γ e) st r st1) (h2:Run (dU i r) st1 () st2):Run (exec Γ (.set i e)) st .nx st2:=aa h1 (aa h2 aJ)
theorem Aq {i:Nat}{e:E}{k:Kd}{r:Kd×U}{u:U}{us:List U} (h0:∃ k' us',st[i]?=some (some (k',.lst us'))∧k'≠.ownD) (h1:Run (ev Γ e) st r st1) (h2:Run (lift r) st1 u st2) (h3:st2[i]?=some (some (k,.lst us))) (hk:k.root=true) (hl:us.length<sizeLine) :
  Run (exec Γ (.app i e)) st .nx (st2.set i (some (k,.lst (us++[u])))):=by
 obtain ⟨k',us',h0,hn⟩:=h0
 refine aa (gf h0 hn) (aa (a:=()) (st1:=st) rfl (aa h1 (aa h2 (aa (a:=()) ?_ aJ))))
 show modS i (sX u) st2=_
 unfold modS
 rw [h3]
 simp only [hk,if_true]
 have e:sX u (.lst us)=some (.lst (us++[u])):=by show (if us.length<sizeLine then _ else _)=_;rw [if_pos hl]
 rw [e]
theorem Ar {e:E}{r:Kd×U}{f:Fl} (h1:Run (ev Γ e) st r st1) (h2:Run (retS r) st1 f st2):Run (exec Γ (.ret e)) st f st2:=aa h1 h2
theorem nv {u:U}:Run (retS (.own,u)) st (.rt .own u) st:=rfl
theorem ny {u:U}:Run (retS (.loc,u)) st (.rt .loc u) st:=rfl
theorem As {u:U} (h:imm u=true):Run (retS (.any,u)) st (.rt .loc u) st:=by
 show (if imm u=true then (pure (Fl.rt .loc u):M Fl) else M.fail) st=_
 rw [if_pos h];rfl
theorem kn {j:Nat}{u u0:U} (h:st[j]?=some (some (.own,u))):Run (retS (.bor j,u0)) st (.rt .own u) (st.set j none):=by
 show (match st[j]? with|some (some (.own,u))=>some (Ex.ok (Fl.rt .own u),st.set j none)|_=>none)=_
 rw [h]
theorem lO {c:E}{a b:List S}{f:Fl} (h1:Run (tst Γ c) st true st1) (h2:Run (execs Γ a) st1 f st2):Run (exec Γ (.ite c a b)) st f st2:=aa h1 h2
theorem pC {c:E}{a b:List S}{f:Fl} (h1:Run (tst Γ c) st false st1) (h2:Run (execs Γ b) st1 f st2):Run (exec Γ (.ite c a b)) st f st2:=aa h1 h2
theorem aF:Run (execs Γ []) st .nx st:=rfl
theorem dW {s:S}{ss:List S}{f:Fl} (h1:Run (exec Γ s) st .nx st1) (h2:Run (execs Γ ss) st1 f st2):Run (execs Γ (s::ss)) st f st2:=aa h1 h2
theorem wq {s:S}{ss:List S}{k:Kd}{u:U} (h1:Run (exec Γ s) st (.rt k u) st1):Run (execs Γ (s::ss)) st (.rt k u) st1:=aa h1 aJ
theorem aD {i:Nat}{e:E}{ss:List S}{r:Kd×U}{f:Fl} (h1:Run (ev Γ e) st r st1) (h2:Run (dU i r) st1 () st2) (h3:Run (execs Γ ss) st2 f st3):Run (execs Γ (.set i e::ss)) st f st3:=dW (Ap h1 h2) h3
theorem gg {i:Nat}{e:E}{ss:List S}{k k':Kd}{r:Kd×U}{u:U}{us us':List U}{f:Fl} (h0:st[i]?=some (some (k',.lst us'))) (h1:Run (ev Γ e) st r st1) (h2:Run (lift r) st1 u st2) (h3:st2[i]?=some (some (k,.lst us))) (hk:k.root=true) (hl:us.length<sizeLine)
  (h4:Run (execs Γ ss) (st2.set i (some (k,.lst (us++[u])))) f st3) (hn:k'≠.ownD:=by intro z;cases z):Run (execs Γ (.app i e::ss)) st f st3:=dW (Aq ⟨_,_,h0,hn⟩ h1 h2 h3 hk hl) h4
theorem dS {e:E}{ss:List S}{r:Kd×U}{k:Kd}{u:U} (h1:Run (ev Γ e) st r st1) (h2:Run (retS r) st1 (.rt k u) st2):Run (execs Γ (.ret e::ss)) st (.rt k u) st2:=wq (Ar h1 h2)
theorem eh {c:E}{a b ss:List S}{f:Fl} (h1:Run (tst Γ c) st true st1) (h2:Run (execs Γ a) st1 .nx st2) (h3:Run (execs Γ ss) st2 f st3):Run (execs Γ (.ite c a b::ss)) st f st3:=dW (lO h1 h2) h3
theorem cj {c:E}{a b ss:List S}{f:Fl} (h1:Run (tst Γ c) st false st1) (h2:Run (execs Γ b) st1 .nx st2) (h3:Run (execs Γ ss) st2 f st3):Run (execs Γ (.ite c a b::ss)) st f st3:=dW (pC h1 h2) h3
theorem yX {c:E}{a b ss:List S}{k:Kd}{u:U} (h1:Run (tst Γ c) st true st1) (h2:Run (execs Γ a) st1 (.rt k u) st2):Run (execs Γ (.ite c a b::ss)) st (.rt k u) st2:=wq (lO h1 h2)
theorem Au {t:Bool}{is:List Nat}{ik:Ik}{src:List E}{body:List S}{rs xs:List (Kd×U)}{f:Fl} (h1:Run (bE Γ src) st rs st1) (h2:bj rs st1) (h3:itU ik rs=some xs) (h4:qa rs is body=true) (h5:Run (forM t is (execs Γ body) rs xs) st1 f st2) :
  Run (exec Γ (.for_ t is ik src body)) st f st2:=by
 refine aa h1 (aa (aX h2) (aa (cP h3) ?_))
 rw [if_pos h4]
 exact h5
theorem cR {t:Bool}{is:List Nat}{ik:Ik}{src:List E}{body ss:List S}{rs xs:List (Kd×U)}{f:Fl} (h1:Run (bE Γ src) st rs st1) (h2:bj rs st1) (h3:itU ik rs=some xs) (h4:qa rs is body=true) (h5:Run (forM t is (execs Γ body) rs xs) st1 .nx st2) (h6:Run (execs Γ ss) st2 f st3) :
  Run (execs Γ (.for_ t is ik src body::ss)) st f st3:=dW (Au h1 h2 h3 h4 h5) h6
theorem xg {t:Bool}{is:List Nat}{body:M Fl}{rs:List (Kd×U)} (h:bj rs st):Run (forM t is body rs []) st .nx st:=aa (aX h) aJ
theorem Av {t:Bool}{is:List Nat}{body:M Fl}{rs xs:List (Kd×U)}{x:Kd×U}{f:Fl} (h:bj rs st) (h1:Run (cE t is x) st () st1) (h2:Run body st1 .nx st2) (h3:Run (forM t is body rs xs) st2 f st3):Run (forM t is body rs (x::xs)) st f st3:=aa (aX h) (aa h1 (aa h2 h3))
theorem nz {t:Bool}{is:List Nat}{body:M Fl}{rs:List (Kd×U)} (I:List (Kd×U)→ag→Prop) (hs:∀ xs st,I xs st→bj rs st) (step:∀ x xs st,I (x::xs) st→∃ st1 st2,Run (cE t is x) st () st1∧Run body st1 .nx st2∧I xs st2) :
  ∀ (xs:List (Kd×U)) (st:ag),I xs st→∃ st',Run (forM t is body rs xs) st .nx st'∧I [] st'
 |[],st,h=>⟨st,xg (hs _ _ h),h⟩
 |x::xs,st,h=>by
  obtain ⟨s1,s2,h1,h2,h3⟩:=step x xs st h
  obtain ⟨s3,h4,h5⟩:=nz I hs step xs s2 h3
  exact ⟨s3,Av (hs _ _ h) h1 h2 h4,h5⟩
theorem dJ {i:Nat}{r:Kd×U} (h:Run (dU i r) st () st1):Run (cE false [i] r) st () st1:=h
theorem aU {fn:Fn}{us:List U}{k:Kd}{u:U}{st0:ag} (hn:us.length=fn.np) (hk:k=.own∨k=.loc) (hs:start us fn.ns=st0) (h:Run (execs Γ fn.body) st0 (.rt k u) st):bX Γ fn us=some (.ok (k,u)):=by
 subst hs
 unfold bX
 rw [if_pos hn,show execs Γ fn.body (start us fn.ns)=_ from h]
 rcases hk with rfl|rfl <;> rfl
theorem qv {k:Nat}{t:Bool}{cond:M Bool}{elt:M (Kd×U)}{src:List (Kd×U)}{acc:List U} (h:bj src st):Run (bB k t cond elt src [] acc) st acc st:=aa (aX h) aJ
theorem lP {k:Nat}{t:Bool}{cond:M Bool}{elt:M (Kd×U)}{src xs:List (Kd×U)}{x r:Kd×U}{acc us:List U}{u:U}{s1 s2 s3 s4:ag} (h:bj src st) (h1:Run (cE t (List.range k) x) (List.replicate k none++st) () s1) (h2:Run cond s1 true s2) (h3:Run elt s2 r s3) (h4:Run (lift r) s3 u s4)
  (hl:acc.length<sizeLine) (h5:Run (bB k t cond elt src xs (acc++[u])) (s4.drop k) us st2):Run (bB k t cond elt src (x::xs) acc) st us st2:=by
 refine aa (aX h) (aa (a:=some u) (st1:=s4.drop k) ?_ ?_)
 ·show inScope k _ st=_
  unfold inScope
  have hh:Run (cE t (List.range k) x >>= fun _=>cond >>= fun b=>if b=true then (elt >>= fun r=>lift r >>= fun u=>pure (some u)) else pure none) (List.replicate k none++st) (some u) s4 :=
   aa h1 (aa h2 (show Run (elt >>= fun r=>lift r >>= fun u=>pure (some u)) s2 (some u) s4 from aa h3 (aa (f:=fun u=>pure (some u)) h4 rfl)))
  rw [show _=_ from hh]
 ·show Run (if acc.length<sizeLine then bB k t cond elt src xs (acc++[u]) else M.fail) _ _ _
  rw [if_pos hl]
  exact h5
theorem tZ {k:Nat}{t:Bool}{cond:M Bool}{elt:M (Kd×U)}{src xs:List (Kd×U)}{x:Kd×U}{acc us:List U}{s1 s2:ag} (h:bj src st) (h1:Run (cE t (List.range k) x) (List.replicate k none++st) () s1) (h2:Run cond s1 false s2)
  (h5:Run (bB k t cond elt src xs acc) (s2.drop k) us st2):Run (bB k t cond elt src (x::xs) acc) st us st2:=by
 refine aa (aX h) (aa (a:=none) (st1:=s2.drop k) ?_ h5)
 show inScope k _ st=_
 unfold inScope
 have hh:Run (cE t (List.range k) x >>= fun _=>cond >>= fun b=>if b=true then (elt >>= fun r=>lift r >>= fun u=>pure (some u)) else pure none) (List.replicate k none++st) none s2 :=
  aa h1 (aa h2 (show Run (pure none:M (Option U)) s2 none s2 from rfl))
 rw [show _=_ from hh]
theorem ei {k:Nat}{t:Bool}{ik:Ik}{src cond:List E}{e:E}{rs xs:List (Kd×U)}{us:List U} (h1:Run (bE Γ src) st rs st1) (h2:bj rs st1) (h3:itU ik rs=some xs) (h4:Run (bB k t (aS Γ cond) (ev Γ e) rs xs []) st1 us st2):Run (ev Γ (.comp k t ik src cond e)) st (.own,.lst us) st2 :=
 aa h1 (aa (aX h2) (aa (cP h3) (aa h4 aJ)))
theorem t5 {cond:M Bool}{elt:M (Kd×U)}{src:List (Kd×U)} (h:bj src st) (g:Kd×U→U) (kd:Kd×U→Kd):∀ (xs:List (Kd×U)) (acc:List U),acc.length+xs.length≤sizeLine →
  (∀ x∈xs,x.1=.loc∨x.1=.any)→(∀ x∈xs,Run cond (some x::st) true (some x::st)∧Run elt (some x::st) (kd x,g x) (some x::st)∧Run (lift (kd x,g x)) (some x::st) (g x) (some x::st))→Run (bB 1 false cond elt src xs acc) st (acc++xs.map g) st
 |[],acc,_,_,_=>by rw [List.map_nil,List.append_nil];exact qv h
 |x::xs,acc,hl,hk,hx=>by
  obtain ⟨h1,h2,h3⟩:=hx x (by simp)
  rw [List.length_cons] at hl
  refine lP (s1:=some x::st) (s2:=some x::st) (s3:=some x::st) (s4:=some x::st) h ?_ h1 h2 h3 (by omega) ?_
  ·obtain ⟨k,u⟩:=x
   rcases hk _ (List.mem_cons_self ..) with z|z <;> (cases z;rfl)
  ·have:=t5 h g kd xs (acc++[g x]) (by simp;omega) (fun y hy=>hk y (by simp [hy])) fun y hy=>hx y (by simp [hy])
   rw [List.map_cons]
   simpa using this
theorem jk {cond:M Bool}{elt:M (Kd×U)}{src:List (Kd×U)} (h:bj src st) (p:Kd×U→Bool) (g:Kd×U→U) (kd:Kd×U→Kd):∀ (xs:List (Kd×U)) (acc:List U),acc.length+xs.length≤sizeLine →
  (∀ x∈xs,x.1=.loc∨x.1=.any)→(∀ x∈xs,Run cond (some x::st) (p x) (some x::st)∧Run elt (some x::st) (kd x,g x) (some x::st)∧Run (lift (kd x,g x)) (some x::st) (g x) (some x::st))→Run (bB 1 false cond elt src xs acc) st (acc++(xs.filter p).map g) st
 |[],acc,_,_,_=>by rw [List.filter_nil,List.map_nil,List.append_nil];exact qv h
 |x::xs,acc,hl,hk,hx=>by
  obtain ⟨h1,h2,h3⟩:=hx x (by simp)
  rw [List.length_cons] at hl
  have ht:Run (cE false (List.range 1) x) (List.replicate 1 none++st) () (some x::st):=by
   obtain ⟨k,u⟩:=x
   rcases hk _ (List.mem_cons_self ..) with z|z <;> (cases z;rfl)
  cases hp:p x with
  |true =>
   rw [hp] at h1
   refine lP (s1:=some x::st) (s2:=some x::st) (s3:=some x::st) (s4:=some x::st) h ht h1 h2 h3 (by omega) ?_
   have:=jk h p g kd xs (acc++[g x]) (by simp;omega) (fun y hy=>hk y (by simp [hy])) fun y hy=>hx y (by simp [hy])
   rw [List.filter_cons,if_pos hp,List.map_cons]
   simpa using this
  |false =>
   rw [hp] at h1
   refine tZ (s1:=some x::st) (s2:=some x::st) h ht h1 ?_
   have:=jk h p g kd xs acc (by omega) (fun y hy=>hk y (by simp [hy])) fun y hy=>hx y (by simp [hy])
   rw [List.filter_cons,if_neg (by simp [hp])]
   exact this
end
end TM
namespace TM
open PySem L2
theorem cA {k k':Kd}{i j:Int} (h:0<j):opU .mod (k,.int i) (k',.int j)=some (.loc,.int (i % j)):=by show (vt i j).map _=_;rw [vt,if_pos h];rfl
theorem t6 {k k':Kd}{i j:Int} (h:0<j∧j<1073741824):opU .fdv (k,.int i) (k',.int j)=some (.loc,.int (i / j)):=by show (vq i j).map _=_;rw [vq,if_pos h];rfl
theorem kJ {k k':Kd}{i j:Int} (h:(-(2 ^ 64)<i∧i<2 ^ 64)∨(-(2 ^ 64)<j∧j<2 ^ 64)):opU .mul (k,.int i) (k',.int j)=some (.loc,.int (i * j)):=by show (vp i j).map _=_;rw [vp,if_pos h];rfl
theorem kK {k k':Kd}{i j:Int} (h:0≤j∧j≤1000000∧i.natAbs<2 ^ 64):opU .pow (k,.int i) (k',.int j)=some (.loc,.int (i ^ j.toNat)):=by show (vv i j).map _=_;rw [vv,if_pos h];rfl
theorem iw {k k':Kd}{i j:Int}:opU .add (k,.int i) (k',.int j)=some (.loc,.int (i+j)):=rfl
theorem aP {k:Kd}{xs:List U}{i:Int}{u:U} (h:atI xs i=some u):fR (k,.lst xs) (.int i)=some (kE k,u):=by show (atI xs i).map _=_;rw [h];rfl
theorem kO {k:Kd}{xs:List U}{i:Int}{u:U} (h:atI xs i=some u):fR (k,.tup xs) (.int i)=some (kE k,u):=by show (atI xs i).map _=_;rw [h];rfl
theorem qw:Kd.own≠Kd.ownD:=by decide
local macro_rules
 |`(tactic| sizeOf_list_dec)=>`(tactic| first|exact aF|apply aD|apply gg|apply dS|exact aY|exact ak rfl|exact aK rfl|exact aL rfl|apply gS|apply nh|apply cQ|apply ji|apply da|apply tW|apply bZ|exact aw|apply ar|apply ni|apply cy|exact aT|apply bA|exact bC|exact tX|(first|exact trivial|exact ⟨⟨_,rfl,rfl⟩,trivial⟩|exact ⟨⟨_,rfl,rfl⟩,⟨_,rfl,rfl⟩,trivial⟩)|exact iw|exact oj|exact cA (by first|omega|decide)|exact t6 (by first|omega|decide)|exact kJ (by first|omega|decide)|exact kK (by decide)|exact aZ|exact br|exact jj|exact ny|exact nv|exact kn rfl|exact Nat.zero_le _|exact rfl|exact qw)
noncomputable def pD (c k:Int):Int:=((c % 10 ^ 15+1) * 48271+k * k * 16807+k * 7919) % 2147483647 * 69621 % 2147483629
noncomputable def rC : Fn := ⟨"_law_mix", 2, 3,
   [.set 2 (.bin .add (.bin .add (.bin .mul (.bin .add (.bin .mod (.var 0) (.bin .pow (.cst (.int 10)) (.cst (.int 15)))) (.cst (.int 1))) (.cst (.int 48271))) (.bin .mul (.bin .mul (.var 1) (.var 1)) (.cst (.int 16807)))) (.bin .mul (.var 1) (.cst (.int 7919)))),
    .ret (.bin .mod (.bin .mul (.bin .mod (.var 2) (.cst (.int 2147483647))) (.cst (.int 69621))) (.cst (.int 2147483629)))]⟩
theorem wt {Γ:Tab}{c k:Int} (h0:0≤k) (h1:k<2 ^ 63):bX Γ rC [.int c,.int k]=some (.ok (.loc,.int (pD c k))):=by
 apply aU (st0:=[some (.loc,.int c),some (.loc,.int k),none]) rfl (.inr rfl) rfl
 repeat' sizeOf_list_dec
noncomputable def qx : Fn := ⟨"_law_cell", 2, 3,
   [.ite (.cmp .lt (.var 1) (.bi .len [(.var 0)]))
      [.ret (.idx (.var 0) (.var 1))]
      [],
    .set 2 (.cst (.int 0)),
    .ite (.cmp .gt (.bi .len [(.var 0)]) (.cst (.int 0)))
      [.set 2 (.idx (.var 0) (.bin .mod (.var 1) (.bi .len [(.var 0)])))]
      [],
    .ret (.bin .add (.bin .mul (.cst (.int 2)) (.call "_law_mix" [(.var 2), (.var 1)])) (.cst (.int 1)))]⟩
noncomputable def t7 (Γ:Tab):Prop:=∀ c k:Int,0≤k→k<2 ^ 63→Γ "_law_mix" [.int c,.int k]=some (.ok (.loc,.int (pD c k)))
theorem t8 {i j:Int}{c:Bool} (h:decide (i<j)=c):bh .lt (.int i) (.int j)=some c:=by subst h;rfl
theorem ko {i j:Int}{c:Bool} (h:decide (j<i)=c):bh .gt (.int i) (.int j)=some c:=by subst h;rfl
theorem gB {i j:Int}{c:Bool} (h:(i==j)=c):bh .eq (.int i) (.int j)=some c:=by subst h;rfl
theorem wu {k:Kd}{xs:List U}:biU .len [(k,.lst xs)]=some (.loc,.int (xs.length:Nat)):=rfl
theorem lQ {k:Kd}{xs:List U}:biU .len [(k,.tup xs)]=some (.loc,.int (xs.length:Nat)):=rfl
noncomputable def xh (ns:List Int) (k:Nat):Int:=if k<ns.length then (ns[k]?).getD 0 else 2 * pD ((ns[k % ns.length]?).getD 0) k+1
theorem t9 {Γ:Tab} (hΓ:t7 Γ) {ns:List Int}{k:Nat} (hk:k<2 ^ 62):bX Γ qx [.lst (ns.map .int),.int k]=some (.ok (.loc,.int (xh ns k))):=by
 have hm:∀ c,Γ "_law_mix" [.int c,.int k]=some (.ok (.loc,.int (pD c k))):=fun c=>hΓ c k (by omega) (by omega)
 unfold xh
 by_cases h:k<ns.length
 ·rw [if_pos h]
  have ha:atI (ns.map U.int) (k:Int)=some (.int ((ns[k]?).getD 0)):=cq (by simp [h])
  apply aU (st0:=[some (.any,.lst (ns.map .int)),some (.loc,.int k),none]) rfl (.inr rfl) rfl
  apply yX
  all_goals repeat' (first|exact t8 (by simp [h])|exact aP ha|exact As rfl|sizeOf_list_dec)
 ·rw [if_neg h]
  have hlt:bh .lt (.int k) (.int ((ns.map U.int).length:Nat))=some false:=t8 (by simp;omega)
  by_cases hz:0<ns.length
  ·have hi:k % ns.length<ns.length:=Nat.mod_lt _ hz
   have ha:atI (ns.map U.int) ((k:Int) % ((ns.map U.int).length:Nat))=some (.int ((ns[k % ns.length]?).getD 0)):=by
    rw [List.length_map,show (k:Int) % (ns.length:Nat)=((k % ns.length:Nat):Int) by omega]
    exact cq (by simp [hi])
   have hp:(0:Int)<((ns.map U.int).length:Nat):=by simp;omega
   apply aU (st0:=[some (.any,.lst (ns.map .int)),some (.loc,.int k),none]) rfl (.inr rfl) rfl
   apply cj
   all_goals repeat' (first|exact hlt|sizeOf_list_dec)
   apply eh
   all_goals repeat' (first|exact ko (by simp;omega)|exact cA hp|exact aP ha|exact hm _|sizeOf_list_dec)
  ·have e:ns=[]:=List.eq_nil_of_length_eq_zero (by omega)
   subst e
   apply aU (st0:=[some (.any,.lst ([].map .int)),some (.loc,.int k),none]) rfl (.inr rfl) rfl
   apply cj
   all_goals repeat' (first|exact hlt|sizeOf_list_dec)
   apply cj
   all_goals repeat' (first|exact hm _|sizeOf_list_dec)
noncomputable def lR : Fn := ⟨"_law_drawn", 2, 5,
   [.set 2 (.lst []),
    .set 3 (.bin .fdv (.var 0) (.cst (.int 2))),
    .for_ false [4] .rng1 [(.var 1)]
      [.ite (.cmp .eq (.bin .mod (.var 0) (.cst (.int 2))) (.cst (.int 0)))
        [.app 2 (.bin .mod (.var 3) (.cst (.int 64))),
        .set 3 (.bin .fdv (.var 3) (.cst (.int 64)))]
        [.app 2 (.bin .mod (.bin .fdv (.call "_law_mix" [(.var 0), (.var 4)]) (.cst (.int 7))) (.cst (.int 4096)))]],
    .ret (.var 2)]⟩
theorem nA (x:Kd×U):itU .rng1 [x]=q_ x:=rfl
theorem jl {k:Kd}{n:Nat} (h:n<2 ^ 62):itU .rng1 [(k,.int (n:Nat))]=some ((List.range n).map fun i:Nat=>(Kd.loc,U.int (0+(i:Int)))):=by
 rw [nA,q_,if_pos (by omega),Int.toNat_natCast]
noncomputable def dn (n:Nat) (xs:List (Kd×U)):Prop:=∃ i,i≤n∧xs=((List.range n).drop i).map fun i:Nat=>(Kd.loc,U.int (0+(i:Int)))
theorem dn.cons {n:Nat}{x:Kd×U}{xs:List (Kd×U)} (h:dn n (x::xs)):∃ i:Nat,i<n∧x=(.loc,.int (i:Nat))∧dn n xs∧i+xs.length+1=n:=by
 obtain ⟨i,hi,e⟩:=h
 by_cases hin:i<n
 ·rw [List.drop_eq_getElem_cons (by simpa using hin),List.map_cons] at e
  cases e
  refine ⟨i,hin,by simp,⟨i+1,hin,rfl⟩,by simp;omega⟩
 ·rw [List.drop_eq_nil_of_le (by simp;omega)] at e
  cases e
theorem dn.all (n:Nat):dn n ((List.range n).map fun i:Nat=>(Kd.loc,U.int (0+(i:Int)))):=⟨0,Nat.zero_le _,rfl⟩
theorem rD {Γ:Tab} (hΓ:t7 Γ) {c:Int}{n:Nat} (hn:n<1000):∃ ds:List Int,ds.length=n∧(∀ d∈ds,0≤d)∧bX Γ lR [.int c,.int n]=some (.ok (.own,.lst (ds.map .int))):=by
 have hsz:(1000:Nat)≤sizeLine:=by decide
 let I:List (Kd×U)→ag→Prop:=fun xs st=>∃ (ds:List Int) (us:List U) (left:Int) (o:Option (Kd×U)),st=[some (.loc,.int c),some (.loc,.int n),some (.own,.lst us),some (.loc,.int left),o]∧us=ds.map .int∧(∀ d∈ds,0≤d)∧ds.length+xs.length=n∧dn n xs
 have loop:=nz (t:=false) (is:=[4]) (body:=execs Γ [.ite (.cmp .eq (.bin .mod (.var 0) (.cst (.int 2))) (.cst (.int 0)))
    [.app 2 (.bin .mod (.var 3) (.cst (.int 64))),
    .set 3 (.bin .fdv (.var 3) (.cst (.int 64)))]
    [.app 2 (.bin .mod (.bin .fdv (.call "_law_mix" [(.var 0),(.var 4)]) (.cst (.int 7))) (.cst (.int 4096)))]]) (rs:=[(.loc,.int n)]) I (fun _ _ _=>trivial) (fun x xs st hIx=>by
  obtain ⟨ds,us,left,o,e,e2,h0,hl,hr⟩:=hIx
  subst e
  have hul:us.length=ds.length:=by rw [e2];simp
  obtain ⟨i,hi,rfl,hr',hlen⟩:=hr.cons
  have hm:Γ "_law_mix" [.int c,.int i]=some (.ok (.loc,.int (pD c i))):=hΓ c i (by omega) (by omega)
  rw [List.length_cons] at hl
  by_cases hc:c % 2=0
  ·refine ⟨[some (.loc,.int c),some (.loc,.int n),some (.own,.lst us),some (.loc,.int left),some (.loc,.int i)],[some (.loc,.int c),some (.loc,.int n),some (.own,.lst (us++[.int (left % 64)])),some (.loc,.int (left / 64)),some (.loc,.int i)],aZ,?_,⟨ds++[left % 64],_,left / 64,_,rfl,by simp [e2],?_,by simp;omega,hr'⟩⟩
   ·apply eh
    all_goals repeat' (first|exact gB (by simp [hc])|exact (by rw [hul];omega)|sizeOf_list_dec)
   ·intro d hd
    rcases List.mem_append.mp hd with z|z
    ·exact h0 d z
    ·rw [List.mem_singleton.mp z];omega
  ·refine ⟨[some (.loc,.int c),some (.loc,.int n),some (.own,.lst us),some (.loc,.int left),some (.loc,.int i)],[some (.loc,.int c),some (.loc,.int n),some (.own,.lst (us++[.int (pD c i / 7 % 4096)])),some (.loc,.int left),some (.loc,.int i)],aZ,?_,⟨ds++[pD c i / 7 % 4096],_,left,_,rfl,by simp [e2],?_,by simp;omega,hr'⟩⟩
   ·apply cj
    all_goals repeat' (first|exact gB (by simp [hc])|exact hm|exact (by rw [hul];omega)|sizeOf_list_dec)
   ·intro d hd
    rcases List.mem_append.mp hd with z|z
    ·exact h0 d z
    ·rw [List.mem_singleton.mp z];omega)
 obtain ⟨st',hrun,ds,us,left,o,e,e2,h0,hl,_⟩:=loop ((List.range n).map fun i:Nat=>(Kd.loc,U.int (0+(i:Int)))) [some (.loc,.int c),some (.loc,.int n),some (.own,.lst []),some (.loc,.int (c / 2)),none] ⟨[],[],c / 2,none,rfl,rfl,by simp,by simp,dn.all n⟩
 subst e e2
 refine ⟨ds,by simpa using hl,h0,?_⟩
 apply aU (st0:=[some (.loc,.int c),some (.loc,.int n),none,none,none]) rfl (.inl rfl) rfl
 repeat' sizeOf_list_dec
 have hit:=jl (k:=.loc) (n:=n) (by omega)
 refine' cR (rs:=[(.loc,.int n)]) (st1:=[some (.loc,.int c),some (.loc,.int n),some (.own,.lst []),some (.loc,.int (c / 2)),none]) _ trivial hit rfl hrun _
 all_goals repeat' sizeOf_list_dec
end TM
local macro_rules
 |`(tactic| sizeOf_list_dec)=>`(tactic| first|exact TM.aF|apply TM.aD|apply TM.gg|apply TM.dS|exact TM.aY|exact TM.ak rfl|exact TM.aK rfl|exact TM.aL rfl|apply TM.gS|apply TM.nh|apply TM.cQ|apply TM.ji|apply TM.da|apply TM.tW|apply TM.bZ|exact TM.aw|apply TM.ar|apply TM.ni|apply TM.cy|exact TM.aT|apply TM.bA|exact TM.bC|exact TM.tX|(first|exact trivial|exact ⟨⟨_,rfl,rfl⟩,trivial⟩|exact ⟨⟨_,rfl,rfl⟩,⟨_,rfl,rfl⟩,trivial⟩)|exact TM.iw|exact TM.oj|exact TM.cA (by first|omega|decide)|exact TM.t6 (by first|omega|decide)|exact TM.kJ (by first|omega|decide)|exact TM.kK (by decide)|exact TM.aZ|exact TM.br|exact TM.jj|exact TM.ny|exact TM.nv|exact TM.kn rfl|exact Nat.zero_le _|exact rfl|exact TM.qw)
namespace TM
open PySem L2 W01
theorem qy {k:Kd}{z:Int} (h0:0≤z) (h:z<2 ^ 62):itU .rng1 [(k,.int z)]=some ((List.range z.toNat).map fun i:Nat=>(Kd.loc,U.int (0+(i:Int)))):=by
 rw [nA,q_,if_pos (by omega)]
theorem iB {k:Kd}{x:Str}{i:Int}{c:Nat} (hx:x.length≤sizeLine) (h:atI x.cps.toList i=some c):fR (k,.str x) (.int i)=some (.loc,.str (W01.one c)):=by
 simp only [fR]
 rw [if_pos hx,h]
 rfl
theorem jm:small.length≤sizeLine:=by decide
theorem bS {ds:List Int}{i:Nat} (h:i<ds.length):atI (ds.map U.int) (i:Int)=some (.int ((ds[i]?).getD 0)):=cq (by simp [h])
theorem cm:∀ (ss:List Str),strsOf (ss.map U.str)=some ss
 |[]=>rfl
 |s::ss=>by show (strsOf (ss.map U.str)).map (s::·)=_;rw [cm ss];rfl
noncomputable def lS (md : E) : Fn := ⟨"_law_name", 2, 6,
   [.set 2 (.cst (.str "abcdefghijklmnopqrstuvwxyz")),
    .set 3 (.mth .join (.cst (.str "")) [(.comp 1 false .rng1 [(.bin .add (.cst (.int 1)) (.bin .mod (.idx (.var 0) (.cst (.int 0))) (.cst (.int 8))))] [] (.idx (.var 3) (.bin .mod (.idx (.var 1) (.bin .add (.cst (.int 4)) (.var 0))) (.cst (.int 26)))))]),
    .ite (.cmp .gt (.bi .len [(.var 1)]) (.cst (.int 0)))
      [.set 4 (.idx (.mth .split (.idx (.var 1) (.bin .mod (.idx (.var 0) (.cst (.int 1))) (.bi .len [(.var 1)]))) [(.cst (.str "/"))]) (.cst (.int 0))),
      .ite (.cmp .eq (.bin .mod (.idx (.var 0) (.cst (.int 2))) (.cst (.int 4))) (.cst (.int 1)))
        [.set 3 (.slc (.bin .add (.var 4) (.var 3)) [] [(.cst (.int 8))])]
        [],
      .ite (.cmp .eq (.bin .mod (.idx (.var 0) (.cst (.int 2))) (.cst (.int 4))) (.cst (.int 2)))
        [.set 3 (.bin .add (.bin .add (.var 4) (.cst (.str "/"))) (.bi .str [(.bin .add (.cst (.int 2)) (.bin .mod (.idx (.var 0) (.cst (.int 3))) md))]))]
        []]
      [],
    .set 5 (.bin .add (.lst [(.var 3)]) (.comp 1 false .rng1 [(.cst (.int 40))] [] (.bin .add (.idx (.var 3) (.bin .fdv (.var 0) (.cst (.int 26)))) (.idx (.var 3) (.bin .mod (.var 0) (.cst (.int 26))))))),
    .ret (.idx (.comp 1 false .seq [(.var 5)] [(.cmp .notin (.var 0) (.var 2))] (.var 0)) (.cst (.int 0)))]⟩
noncomputable def wx (md:E):Prop:=∀ (Γ:Tab) (ds:List Int),ds.length=12→(∀ d∈ds,0≤d)→∃ m:Int,0<m∧m≤98∧∀ o1 o2 o3 o4 o5,Run (ev Γ md) [some (.any,.lst (ds.map .int)),o1,o2,o3,o4,o5] (.loc,.int m) [some (.any,.lst (ds.map .int)),o1,o2,o3,o4,o5]
noncomputable abbrev Aw:E:=.cst (.int 98)
theorem wy:wx Aw:=fun _ _ _ _=>⟨98,by decide,by decide,fun _ _ _ _ _=>aY⟩
section
variable {Γ : Tab} {ds : List Int}
noncomputable def dd (ds:List Int) (i:Nat):Int:=(ds[i]?).getD 0
theorem dq (h0:∀ d∈ds,0≤d) (i:Nat):0≤dd ds i:=by
 unfold dd
 cases e:ds[i]? with
 |none=>simp
 |some d=>exact h0 d (List.mem_of_getElem? e)
theorem lT (hd:ds.length=12) (h0:∀ d∈ds,0≤d) {o1 o3 o4 o5:Option (Kd×U)}:∃ cs:List Nat,(∀ c∈cs,low c=true)∧1≤cs.length∧cs.length≤8 ∧
  Run (ev Γ (.comp 1 false .rng1 [(.bin .add (.cst (.int 1)) (.bin .mod (.idx (.var 0) (.cst (.int 0))) (.cst (.int 8))))] [] (.idx (.var 3) (.bin .mod (.idx (.var 1) (.bin .add (.cst (.int 4)) (.var 0))) (.cst (.int 26))))))
   [some (.any,.lst (ds.map .int)),o1,some (.loc,.str small),o3,o4,o5] (.own,.lst ((cs.map W01.one).map .str)) [some (.any,.lst (ds.map .int)),o1,some (.loc,.str small),o3,o4,o5]:=by
 have hz:=dq h0 0
 let n:=(1+dd ds 0 % 8).toNat
 have hn:n≤8∧1≤n:=by show (1+dd ds 0 % 8).toNat≤8∧1≤(1+dd ds 0 % 8).toNat;omega
 let f:Nat→Nat:=fun i=>97+(dd ds (4+i) % 26).toNat
 refine ⟨(List.range n).map f,?_,by simp;exact hn.2,by simp;exact hn.1,?_⟩
 ·intro c hc
  obtain ⟨i,_,rfl⟩:=List.mem_map.mp hc
  have:=dq h0 (4+i)
  exact pw (by omega)
 ·have hx:Run (bB 1 false (aS Γ []) (ev Γ (.idx (.var 3) (.bin .mod (.idx (.var 1) (.bin .add (.cst (.int 4)) (.var 0))) (.cst (.int 26))))) [(.loc,.int (1+dd ds 0 % 8))] ((List.range n).map fun i:Nat=>(Kd.loc,U.int (0+(i:Int)))) [])
    [some (.any,.lst (ds.map .int)),o1,some (.loc,.str small),o3,o4,o5] ([]++((List.range n).map fun i:Nat=>(Kd.loc,U.int (0+(i:Int)))).map fun x=>match x.2 with|.int j=>.str (W01.one (97+(dd ds (4+j.toNat) % 26).toNat))|u=>u) [some (.any,.lst (ds.map .int)),o1,some (.loc,.str small),o3,o4,o5]:=by
   have h8:(8:Nat)≤sizeLine:=by decide
   refine t5 (by exact trivial) _ (fun _=>.loc) _ _ (by simp;omega) (fun x hx=>?_) (fun x hx=>?_)
   ·obtain ⟨i,_,rfl⟩:=List.mem_map.mp hx;exact .inl rfl
   ·obtain ⟨i,hi,rfl⟩:=List.mem_map.mp hx
    have hi':i<n:=by simpa using hi
    have ha:atI (ds.map U.int) (4+(0+(i:Int)))=some (.int (dd ds (4+i))):=by
     rw [show (4+(0+(i:Int)))=((4+i:Nat):Int) by omega]
     exact bS (by omega)
    have hnn:=dq h0 (4+i)
    have hs:=jg (k:=dd ds (4+i) % 26) (by omega) (by omega)
    refine ⟨nu,?_,bC⟩
    simp only [Int.zero_add,Int.toNat_natCast]
    rw [Int.zero_add] at ha
    repeat' (first|exact aP ha|exact iB jm hs|sizeOf_list_dec)
  have e:((List.range n).map f).map W01.one=(List.range n).map fun i=>W01.one (97+(dd ds (4+i) % 26).toNat):=by rw [List.map_map];rfl
  rw [e]
  have e2:([]++((List.range n).map fun i:Nat=>(Kd.loc,U.int (0+(i:Int)))).map fun x=>match x.2 with|.int j=>U.str (W01.one (97+(dd ds (4+j.toNat) % 26).toNat))|u=>u)=((List.range n).map fun i=>W01.one (97+(dd ds (4+i) % 26).toNat)).map U.str:=by
   rw [List.nil_append,List.map_map,List.map_map]
   apply List.map_congr_left
   intro i _
   simp
  rw [e2] at hx
  refine ei (rs:=[(.loc,.int (1+dd ds 0 % 8))]) ?_ trivial (qy (by omega) (by omega)) hx
  repeat' (first|exact aP (bS (i:=0) (by omega))|sizeOf_list_dec)
theorem ib {k k':Kd}{x y:Str} (h:x.length+y.length≤sizeLine):opU .add (k,.str x) (k',.str y)=some (.loc,.str (x++y)):=by
 simp only [opU,sT]
 rw [if_pos h]
theorem eM:∀ (ss:List Str) (n:Nat),bM n (ss.map U.str)=true
 |[],n=>by simp [bM]
 |s::ss,n=>by simp only [List.map_cons,bM,eM ss n,Bool.and_true];cases n <;> rfl
theorem nB (x:Str):∀ (ss:List Str),((ss.map U.str).any fun y=>aV y (.str x))=decide (x∈ss)
 |[]=>by simp
 |s::ss=>by
  rw [List.map_cons,List.any_cons,nB x ss]
  have:aV (.str s) (.str x)=decide (x=s):=by
   simp only [aV]
   by_cases h:x=s
   ·subst h;simp
   ·have h':s≠x:=fun z=>h z.symm
    simp [h,h']
  rw [this,Bool.eq_iff_iff]
  simp
theorem wz (x:Str) (ss:List Str):inU (.str x) (ss.map U.str)=some (decide (x∈ss)):=by
 unfold inU
 rw [if_pos ⟨by rfl,eM ss 50⟩,nB]
theorem jn {x:Str}{ss:List Str}:bh .notin (.str x) (.lst (ss.map U.str))=some (decide (x∉ss)):=by
 show (inU (.str x) (ss.map U.str)).map (!·)=_
 rw [wz]
 simp
theorem nE {o0 o1 o3 o4 o5:Option (Kd×U)}:Run (ev Γ (.comp 1 false .rng1 [(.cst (.int 40))] [] (.bin .add (.idx (.var 3) (.bin .fdv (.var 0) (.cst (.int 26)))) (.idx (.var 3) (.bin .mod (.var 0) (.cst (.int 26)))))))
   [o0,o1,some (.loc,.str small),o3,o4,o5] (.own,.lst (bF.map .str)) [o0,o1,some (.loc,.str small),o3,o4,o5]:=by
 have h8:(100:Nat)≤sizeLine:=by decide
 have hx:Run (bB 1 false (aS Γ []) (ev Γ (.bin .add (.idx (.var 3) (.bin .fdv (.var 0) (.cst (.int 26)))) (.idx (.var 3) (.bin .mod (.var 0) (.cst (.int 26)))))) [(.loc,.int 40)] ((List.range 40).map fun i:Nat=>(Kd.loc,U.int (0+(i:Int)))) [])
   [o0,o1,some (.loc,.str small),o3,o4,o5] ([]++((List.range 40).map fun i:Nat=>(Kd.loc,U.int (0+(i:Int)))).map fun x=>match x.2 with|.int j=>.str (kl j.toNat)|u=>u) [o0,o1,some (.loc,.str small),o3,o4,o5]:=by
  refine t5 (by exact trivial) _ (fun _=>.loc) _ _ (by simp;omega) (fun x hx=>?_) (fun x hx=>?_)
  ·obtain ⟨i,_,rfl⟩:=List.mem_map.mp hx;exact .inl rfl
  ·obtain ⟨i,hi,rfl⟩:=List.mem_map.mp hx
   have hi':i<40:=by simpa using hi
   refine ⟨nu,?_,bC⟩
   simp only [Int.zero_add,Int.toNat_natCast]
   have h1:=jg (k:=(i:Int) / 26) (by omega) (by omega)
   have h2:=jg (k:=(i:Int) % 26) (by omega) (by omega)
   have e1:((i:Int) / 26).toNat=i / 26:=by omega
   have e2:((i:Int) % 26).toNat=i % 26:=by omega
   rw [e1] at h1
   rw [e2] at h2
   have ad:opU .add (.loc,.str (W01.one (97+i / 26))) (.loc,.str (W01.one (97+i % 26)))=some (.loc,.str (kl i)):=by
    have:=ib (k:=.loc) (k':=.loc) (x:=W01.one (97+i / 26)) (y:=W01.one (97+i % 26)) (by show 1+1≤sizeLine;omega)
    rw [this];rfl
   repeat' (first|exact iB jm h1|exact iB jm h2|exact ad|sizeOf_list_dec)
 have e2:([]++((List.range 40).map fun i:Nat=>(Kd.loc,U.int (0+(i:Int)))).map fun x=>match x.2 with|.int j=>U.str (kl j.toNat)|u=>u)=bF.map U.str:=by
  rw [List.nil_append,List.map_map,bF,List.map_map]
  apply List.map_congr_left
  intro i _
  simp
 rw [e2] at hx
 exact ei (rs:=[(.loc,.int 40)]) (by repeat' sizeOf_list_dec) trivial (qy (by omega) (by omega)) hx
theorem rE {names ts:List Str} (hl:ts.length≤1000) {o0 o2 o3 o4:Option (Kd×U)}:Run (ev Γ (.comp 1 false .seq [(.var 5)] [(.cmp .notin (.var 0) (.var 2))] (.var 0)))
   [o0,some (.any,.lst (names.map .str)),o2,o3,o4,some (.own,.lst (ts.map .str))] (.own,.lst ((ts.filter fun x=>decide (x∉names)).map .str)) [o0,some (.any,.lst (names.map .str)),o2,o3,o4,some (.own,.lst (ts.map .str))]:=by
 have h8:(1000:Nat)≤sizeLine:=by decide
 have hx:=jk (cond:=aS Γ [(.cmp .notin (.var 0) (.var 2))]) (elt:=ev Γ (.var 0)) (src:=[(.bor 5,.lst (ts.map .str))]) (st:=[o0,some (.any,.lst (names.map .str)),o2,o3,o4,some (.own,.lst (ts.map .str))]) ⟨⟨.own,rfl,rfl⟩,trivial⟩
  (fun x=>match x.2 with|.str y=>decide (y∉names)|_=>false) (fun x=>x.2) (fun _=>.loc) ((ts.map U.str).map fun u=>(kE (.bor 5),u)) [] (by simp;omega) (fun x hx=>by obtain ⟨u,_,rfl⟩:=List.mem_map.mp hx;exact .inl rfl) (fun x hx=>by
   obtain ⟨u,hu,rfl⟩:=List.mem_map.mp hx
   obtain ⟨y,_,rfl⟩:=List.mem_map.mp hu
   refine ⟨fk ?_,ak rfl,bC⟩
   repeat' (first|exact jn|sizeOf_list_dec))
 have e:([]++(((ts.map U.str).map fun u=>(kE (.bor 5),u)).filter fun x=>match x.2 with|.str y=>decide (y∉names)|_=>false).map fun x=>x.2)=(ts.filter fun x=>decide (x∉names)).map U.str:=by
  rw [List.nil_append,List.filter_map,List.filter_map,List.map_map,List.map_map]
  rfl
 rw [e] at hx
 exact ei (rs:=[(.bor 5,.lst (ts.map .str))]) (by repeat' sizeOf_list_dec) ⟨⟨.own,rfl,rfl⟩,trivial⟩ rfl hx
end
end TM
namespace TM
open PySem L2 W01
section
variable {Γ : Tab} {ds : List Int}
theorem rF {names:List Str} (hn:names.length<40) {x0:Str} (hx0:bV x0.cps.toList) {o0 o4:Option (Kd×U)}:∃ x st',bV x.cps.toList∧x∉names ∧
  Run (execs Γ [.set 5 (.bin .add (.lst [(.var 3)]) (.comp 1 false .rng1 [(.cst (.int 40))] [] (.bin .add (.idx (.var 3) (.bin .fdv (.var 0) (.cst (.int 26)))) (.idx (.var 3) (.bin .mod (.var 0) (.cst (.int 26))))))),
  .ret (.idx (.comp 1 false .seq [(.var 5)] [(.cmp .notin (.var 0) (.var 2))] (.var 0)) (.cst (.int 0)))]) [o0,some (.any,.lst (names.map .str)),some (.loc,.str small),some (.loc,.str x0),o4,none] (.rt .loc (.str x)) st':=by
 have h8:(1000:Nat)≤sizeLine:=by decide
 obtain ⟨y,hy,hyn⟩:=pA names hn
 have hne:(x0::bF).filter (fun x=>decide (x∉names))≠[]:=fun z=>by
  have:y∈(x0::bF).filter (fun x=>decide (x∉names)):=List.mem_filter.mpr ⟨List.mem_cons_of_mem _ hy,by simpa using hyn⟩
  rw [z] at this;cases this
 cases e:(x0::bF).filter (fun x=>decide (x∉names)) with
 |nil=>exact absurd e hne
 |cons x rest =>
  have hx:x∈(x0::bF).filter (fun x=>decide (x∉names)):=by rw [e];simp
  obtain ⟨hx1,hx2⟩:=List.mem_filter.mp hx
  have fr:=rE (Γ:=Γ) (names:=names) (ts:=x0::bF) (by simp [bF]) (o0:=o0) (o2:=some (.loc,.str small)) (o3:=some (.loc,.str x0)) (o4:=o4)
  rw [e] at fr
  have ad:opU .add (.own,.lst [.str x0]) (.own,.lst (bF.map U.str))=some (.own,.lst ((x0::bF).map U.str)):=by
   simp only [opU,sT]
   rw [if_pos ⟨by simp [bF];omega,rfl,rfl⟩]
   rfl
  refine ⟨x,[o0,some (.any,.lst (names.map .str)),some (.loc,.str small),some (.loc,.str x0),o4,some (.own,.lst ((x0::bF).map .str))],?_,by simpa using hx2,?_⟩
  ·rcases List.mem_cons.mp hx1 with rfl|h
   ·exact hx0
   ·obtain ⟨k,hk,rfl⟩:=List.mem_map.mp h
    exact .inl (pz (by simpa using hk))
  ·refine aD (st2:=[o0,some (.any,.lst (names.map .str)),some (.loc,.str small),some (.loc,.str x0),o4,some (.own,.lst ((x0::bF).map .str))]) (gS (x:=(.own,.lst [.str x0])) (cy (ar (ak rfl) aw) (by (first|exact trivial|exact ⟨⟨_,rfl,rfl⟩,trivial⟩|exact ⟨⟨_,rfl,rfl⟩,⟨_,rfl,rfl⟩,trivial⟩)) (bA bC aT) (by show 1≤sizeLine;omega)) nE trivial ad) br ?_
   refine dS (cQ fr aY trivial (aP (by show atI _ ((0:Nat):Int)=_;exact cq rfl))) ny
theorem t_ {md:E} (hmd:wx md) (hd:ds.length=12) (h0:∀ d∈ds,0≤d) {names:List Str} (hn:names.length<40) (hw:∀ x∈names,bV x.cps.toList) :
  ∃ x,bV x.cps.toList∧x∉names∧bX Γ (lS md) [.lst (ds.map .int),.lst (names.map .str)]=some (.ok (.loc,.str x)):=by
 obtain ⟨m,hm0,hm9,hmr⟩:=hmd Γ ds hd h0
 have h8:(1000:Nat)≤sizeLine:=by decide
 obtain ⟨cs,hlow,hc1,hc8,hcomp⟩:=lT (Γ:=Γ) hd h0 (o1:=some (.any,.lst (names.map .str))) (o3:=none) (o4:=none) (o5:=none)
 have hjoin:hU .join (.str "") [(.own,.lst ((cs.map W01.one).map U.str))]=some (.loc,.str (Txt.join Str.empty (cs.map W01.one))):=by
  show (strsOf ((cs.map W01.one).map U.str)).bind _=_
  rw [cm]
  show (if JoinOk Str.empty (cs.map W01.one)=true then _ else _)=_
  rw [if_pos (ng cs (by omega))]
  rfl
 let x0:Str:=Txt.join Str.empty (cs.map W01.one)
 have hx0:x0.cps.toList=cs:=join_ones cs
 have hs0:dN x0.cps.toList=true:=by rw [hx0];exact gR hlow hc1 hc8
 have hlen0:x0.length≤8:=by rw [len_list,hx0];exact hc8
 have head:∀ {f:Fl} {st':ag} (ss:List S),Run (execs Γ ss) [some (.any,.lst (ds.map .int)),some (.any,.lst (names.map .str)),some (.loc,.str small),some (.loc,.str x0),none,none] f st' →
   Run (execs Γ (.set 2 (.cst (.str "abcdefghijklmnopqrstuvwxyz"))::.set 3 (.mth .join (.cst (.str "")) [(.comp 1 false .rng1 [(.bin .add (.cst (.int 1)) (.bin .mod (.idx (.var 0) (.cst (.int 0))) (.cst (.int 8))))] [] (.idx (.var 3) (.bin .mod (.idx (.var 1) (.bin .add (.cst (.int 4)) (.var 0))) (.cst (.int 26)))))])::ss))
    [some (.any,.lst (ds.map .int)),some (.any,.lst (names.map .str)),none,none,none,none] f st':=fun ss h=>aD (r:=(.loc,.str small)) aY aZ (aD (tW aY (ar hcomp aw) (by (first|exact trivial|exact ⟨⟨_,rfl,rfl⟩,trivial⟩|exact ⟨⟨_,rfl,rfl⟩,⟨_,rfl,rfl⟩,trivial⟩)) hjoin) aZ h)
 have mid:∀ (x1:Str) (o4:Option (Kd×U)),bV x1.cps.toList→∃ x st',bV x.cps.toList∧x∉names∧Run (execs Γ [.set 5 (.bin .add (.lst [(.var 3)]) (.comp 1 false .rng1 [(.cst (.int 40))] [] (.bin .add (.idx (.var 3) (.bin .fdv (.var 0) (.cst (.int 26)))) (.idx (.var 3) (.bin .mod (.var 0) (.cst (.int 26))))))),
  .ret (.idx (.comp 1 false .seq [(.var 5)] [(.cmp .notin (.var 0) (.var 2))] (.var 0)) (.cst (.int 0)))]) [some (.any,.lst (ds.map .int)),some (.any,.lst (names.map .str)),some (.loc,.str small),some (.loc,.str x1),o4,none] (.rt .loc (.str x)) st':=fun x1 o4 h1=>rF hn h1
 by_cases hz:0<names.length
 ·
  have hi:(dd ds 1).toNat % names.length<names.length:=Nat.mod_lt _ hz
  let nm:=names[(dd ds 1).toNat % names.length]'hi
  have hnm:bV nm.cps.toList:=hw _ (List.getElem_mem hi)
  obtain ⟨y,r,hsp,hst⟩:=hnm.Bh
  have hyl:y.length≤8:=by rw [len_list];exact ((b_ _).mp hst).2.1
  have hnl:nm.length≤11:=by rw [len_list];exact hnm.len.2
  have hd1:=dq h0 1
  have hat:atI (names.map U.str) (dd ds 1 % ((names.map U.str).length:Nat))=some (.str nm):=by
   rw [List.length_map,show dd ds 1 % (names.length:Nat)=(((dd ds 1).toNat % names.length:Nat):Int) by rw [Int.natCast_emod,Int.toNat_of_nonneg hd1]]
   exact cq (by simp [hi];rfl)
  have hsplit:hU .split (.str nm) [(.loc,.str "/")]=some (.own,.lst ((y::r).map U.str)):=by
   show (if (Str.length "/"==0)=false∧nm.length+2≤sizeLine then some (Kd.own,U.lst ((Txt.split nm "/").map .str)) else none)=_
   rw [if_pos ⟨by decide,by omega⟩,show ("/":Str)=wU from rfl,hsp]
  have hp:(0:Int)<((names.map U.str).length:Nat):=by simp;omega
  have hix:fR (.own,.lst ((y::r).map U.str)) (.int 0)=some (.loc,.str y):=aP (by show atI _ ((0:Nat):Int)=_;exact cq rfl)
  have hd2:=dq h0 2
  have hd3:=dq h0 3
  have i1:atI (ds.map U.int) 1=some (.int (dd ds 1)):=bS (i:=1) (by omega)
  have i2:atI (ds.map U.int) 2=some (.int (dd ds 2)):=bS (i:=2) (by omega)
  have i3:atI (ds.map U.int) 3=some (.int (dd ds 3)):=bS (i:=3) (by omega)
  have go:∀ x1:Str,bV x1.cps.toList→Run (execs Γ [.ite (.cmp .eq (.bin .mod (.idx (.var 0) (.cst (.int 2))) (.cst (.int 4))) (.cst (.int 1)))
    [.set 3 (.slc (.bin .add (.var 4) (.var 3)) [] [(.cst (.int 8))])]
    [],
   .ite (.cmp .eq (.bin .mod (.idx (.var 0) (.cst (.int 2))) (.cst (.int 4))) (.cst (.int 2)))
    [.set 3 (.bin .add (.bin .add (.var 4) (.cst (.str "/"))) (.bi .str [(.bin .add (.cst (.int 2)) (.bin .mod (.idx (.var 0) (.cst (.int 3))) md))]))]
    []]) [some (.any,.lst (ds.map .int)),some (.any,.lst (names.map .str)),some (.loc,.str small),some (.loc,.str x0),some (.loc,.str y),none] .nx [some (.any,.lst (ds.map .int)),some (.any,.lst (names.map .str)),some (.loc,.str small),some (.loc,.str x1),some (.loc,.str y),none] →
    ∃ x,bV x.cps.toList∧x∉names∧bX Γ (lS md) [.lst (ds.map .int),.lst (names.map .str)]=some (.ok (.loc,.str x)):=fun x1 h1 hr=>by
   obtain ⟨x,st',a1,a2,a3⟩:=mid x1 (some (.loc,.str y)) h1
   refine ⟨x,a1,a2,aU (st0:=[some (.any,.lst (ds.map .int)),some (.any,.lst (names.map .str)),none,none,none,none]) rfl (.inr rfl) rfl (head _ (eh (st1:=[some (.any,.lst (ds.map .int)),some (.any,.lst (names.map .str)),some (.loc,.str small),some (.loc,.str x0),none,none]) ?_ (aD (r:=(.loc,.str y)) (st1:=[some (.any,.lst (ds.map .int)),some (.any,.lst (names.map .str)),some (.loc,.str small),some (.loc,.str x0),none,none]) ?_ aZ hr) a3))⟩
   ·repeat' (first|exact ko (by simp;omega)|sizeOf_list_dec)
   ·repeat' (first|exact cA hp|exact aP hat|exact aP i1|exact hsplit|exact hix|sizeOf_list_dec)
  have t1:∀ {c:Bool} {o3 o4:Option (Kd×U)},(dd ds 2 % 4==1)=c→Run (tst Γ (.cmp .eq (.bin .mod (.idx (.var 0) (.cst (.int 2))) (.cst (.int 4))) (.cst (.int 1)))) [some (.any,.lst (ds.map .int)),some (.any,.lst (names.map .str)),some (.loc,.str small),o3,o4,none] c [some (.any,.lst (ds.map .int)),some (.any,.lst (names.map .str)),some (.loc,.str small),o3,o4,none]:=fun hc=>by
   repeat' (first|exact aP i2|exact gB hc|sizeOf_list_dec)
  have t2:∀ {c:Bool} {o3 o4:Option (Kd×U)},(dd ds 2 % 4==2)=c→Run (tst Γ (.cmp .eq (.bin .mod (.idx (.var 0) (.cst (.int 2))) (.cst (.int 4))) (.cst (.int 2)))) [some (.any,.lst (ds.map .int)),some (.any,.lst (names.map .str)),some (.loc,.str small),o3,o4,none] c [some (.any,.lst (ds.map .int)),some (.any,.lst (names.map .str)),some (.loc,.str small),o3,o4,none]:=fun hc=>by
   repeat' (first|exact aP i2|exact gB hc|sizeOf_list_dec)
  by_cases hw1:dd ds 2 % 4=1
  ·have hyx:y.length+x0.length≤sizeLine:=by omega
   have hsl:oO (.loc,.str (y++x0)) none (some 8)=some (.loc,.str (PySem.StrLaws.sliceText (y++x0) none (some 8))):=by
    simp only [oO]
    rw [if_pos (by rw [len_list];show (y.cps++x0.cps).toList.length≤_;rw [Array.toList_append,List.length_append,←len_list,←len_list];omega)]
   refine go (PySem.StrLaws.sliceText (y++x0) none (some 8)) (.inl ?_) ?_
   ·have:=yW (y++x0) 8
    rw [show ((8:Nat):Int)=8 from rfl] at this
    rw [this]
    show dN ((y.cps++x0.cps).toList.take 8)=true
    rw [Array.toList_append]
    exact rB hst (by rw [hx0];exact hlow)
   ·refine eh (t1 (by simp [hw1])) (aD (An (gS (ak rfl) (ak rfl) trivial (ib hyx)) Al (Am aY) trivial hsl) aZ aF) (cj (t2 (by simp [hw1])) aF aF)
  ·by_cases hw2:dd ds 2 % 4=2
   ·have hm1:=Int.emod_nonneg (dd ds 3) (show m≠0 by omega)
    have hm2:=Int.emod_lt_of_pos (dd ds 3) hm0
    have hk0:0≤2+dd ds 3 % m:=by omega
    have hk9:2+dd ds 3 % m≤99:=by omega
    have hnl2:=kh hk0 hk9
    have hstr:biU .str [(.loc,.int (2+dd ds 3 % m))]=some (.loc,.str (qS (2+dd ds 3 % m))):=by
     simp only [biU,gw,vB]
     rw [if_pos (by
      have:(2+dd ds 3 % m).natAbs<2 ^ 7:=by omega
      have h2:(2+dd ds 3 % m).natAbs≠0:=by omega
      have:=(Nat.log2_lt h2).mpr this
      omega)]
     rfl
    have hsl1:(y++("/":Str)).length=y.length+1:=by rw [len_list,len_list];show (y.cps++_).toList.length=_;rw [Array.toList_append,List.length_append];rfl
    have hnum:Run (ev Γ (.bin .add (.cst (.int 2)) (.bin .mod (.idx (.var 0) (.cst (.int 3))) md))) [some (.any,.lst (ds.map .int)),some (.any,.lst (names.map .str)),some (.loc,.str small),some (.loc,.str x0),some (.loc,.str y),none] (.loc,.int (2+dd ds 3 % m)) [some (.any,.lst (ds.map .int)),some (.any,.lst (names.map .str)),some (.loc,.str small),some (.loc,.str x0),some (.loc,.str y),none]:=gS aY (gS (cQ (aK rfl) aY trivial (aP i3)) (hmr _ _ _ _ _) trivial (cA hm0)) trivial iw
    refine go (y++"/"++qS (2+dd ds 3 % m)) (.inr ⟨y.cps.toList,(qS (2+dd ds 3 % m)).cps.toList,2+dd ds 3 % m,?_,hst,by omega,hk9,rfl⟩) ?_
    ·show ((y.cps++#[47])++(qS _).cps).toList=_
     simp
    ·refine cj (t1 (by simp [hw2])) aF (eh (t2 (by simp [hw2])) (aD (gS (gS (ak rfl) aY trivial (ib (by show y.length+1≤sizeLine;omega))) (ji (ar hnum aw) trivial hstr) trivial (ib (by rw [hsl1];omega))) aZ aF) aF)
   ·refine go x0 (.inl hs0) ?_
    exact cj (t1 (by simp [hw1])) aF (cj (t2 (by simp [hw2])) aF aF)
 ·obtain ⟨x,st',a1,a2,a3⟩:=mid x0 none (.inl hs0)
  refine ⟨x,a1,a2,aU (st0:=[some (.any,.lst (ds.map .int)),some (.any,.lst (names.map .str)),none,none,none,none]) rfl (.inr rfl) rfl (head _ (cj (st1:=[some (.any,.lst (ds.map .int)),some (.any,.lst (names.map .str)),some (.loc,.str small),some (.loc,.str x0),none,none]) ?_ aF a3))⟩
  repeat' (first|exact ko (decide_eq_false (by simp only [List.length_map];omega))|sizeOf_list_dec)
end
end TM
namespace TM
open PySem L2 W01
noncomputable def jo (Γ:Tab):Prop:=∀ (ns:List Int) (k:Nat),k<2 ^ 62→∃ z,Γ "_law_cell" [.lst (ns.map .int),.int (k:Nat)]=some (.ok (.loc,.int z))
noncomputable def gh (Γ:Tab):Prop:=∀ (c:Int) (n:Nat),n<1000→∃ ds:List Int,ds.length=n∧(∀ d∈ds,0≤d)∧Γ "_law_drawn" [.int c,.int (n:Nat)]=some (.ok (.own,.lst (ds.map .int)))
noncomputable def ua (Γ:Tab):Prop:=∀ (ds:List Int) (names:List Str),ds.length=12→(∀ d∈ds,0≤d)→names.length<40→(∀ x∈names,bV x.cps.toList)→∃ x,bV x.cps.toList∧x∉names∧Γ "_law_name" [.lst (ds.map .int),.lst (names.map .str)]=some (.ok (.loc,.str x))
noncomputable def fNames : Fn := ⟨"_law_names", 3, 5,
   [.set 3 (.lst []),
    .for_ false [4] .rng1 [(.var 2)]
      [.app 3 (.call "_law_name" [(.call "_law_drawn" [(.call "_law_cell" [(.var 0), (.bin .add (.var 1) (.var 4))]), (.cst (.int 12))]), (.var 3)])],
    .ret (.var 3)]⟩
theorem rG {Γ : Tab} (hc : jo Γ) (hd : gh Γ) (hn : ua Γ) {ns : List Int} {b m : Nat} (hb : b < 1000) (hm : m < 40) :
    ∃ names : List Str, names.length = m ∧ names.Nodup ∧ (∀ x ∈ names, bV x.cps.toList) ∧ bX Γ fNames [.lst (ns.map .int), .int (b : Nat), .int (m : Nat)] = some (.ok (.own, .lst (names.map .str))) := by
  have hsz : (1000 : Nat) ≤ sizeLine := by decide
  let I : List (Kd × U) → ag → Prop := fun xs st => ∃ (names : List Str) (us : List U) (o : Option (Kd × U)), st = [some (.any, .lst (ns.map .int)), some (.loc, .int (b : Nat)), some (.loc, .int (m : Nat)), some (.own, .lst us), o] ∧ us = names.map .str ∧ names.Nodup ∧ (∀ x ∈ names, bV x.cps.toList) ∧ names.length + xs.length = m ∧ dn m xs
  have loop := nz (t := false) (is := [4]) (body := execs Γ [.app 3 (.call "_law_name" [(.call "_law_drawn" [(.call "_law_cell" [(.var 0), (.bin .add (.var 1) (.var 4))]), (.cst (.int 12))]), (.var 3)])]) (rs := [(.loc, .int (m : Nat))]) I (fun _ _ _ => trivial) (fun x xs st hIx => by
    obtain ⟨names, us, o, e, e2, hnd, hw, hl, hr⟩ := hIx
    subst e
    obtain ⟨i, hi, rfl, hr', hlen⟩ := hr.cons
    rw [List.length_cons] at hl
    obtain ⟨z, hz⟩ := hc ns (b + i) (by omega)
    rw [Int.natCast_add] at hz
    obtain ⟨ds, d1, d2, d3⟩ := hd z 12 (by omega)
    obtain ⟨x, x1, x2, x3⟩ := hn ds names d1 d2 (by omega) hw
    rw [← e2] at x3
    refine ⟨[some (.any, .lst (ns.map .int)), some (.loc, .int (b : Nat)), some (.loc, .int (m : Nat)), some (.own, .lst us), some (.loc, .int (i : Nat))], [some (.any, .lst (ns.map .int)), some (.loc, .int (b : Nat)), some (.loc, .int (m : Nat)), some (.own, .lst (us ++ [.str x])), some (.loc, .int (i : Nat))], aZ, ?_, ⟨names ++ [x], _, _, rfl, by simp [e2], ?_, ?_, by simp; omega, hr'⟩⟩
    · repeat' (first | exact hz | exact d3 | exact x3 | exact (by rw [e2, List.length_map]; omega) | sizeOf_list_dec)
    · rw [List.nodup_append]
      exact ⟨hnd, by simp, fun y hy w hw' => by have : w = x := by simpa using hw'
                                                subst this; rintro rfl; exact x2 hy⟩
    · intro y hy
      rcases List.mem_append.mp hy with h | h
      · exact hw y h
      · rw [List.mem_singleton.mp h]; exact x1)
  obtain ⟨st', hrun, names, us, o, e, e2, hnd, hw, hl, _⟩ := loop ((List.range m).map fun i : Nat => (Kd.loc, U.int (0 + (i : Int)))) [some (.any, .lst (ns.map .int)), some (.loc, .int (b : Nat)), some (.loc, .int (m : Nat)), some (.own, .lst []), none] ⟨[], [], none, rfl, rfl, by simp, by simp, by simp, dn.all m⟩
  subst e e2
  refine ⟨names, by simpa using hl, hnd, hw, ?_⟩
  apply aU (st0 := [some (.any, .lst (ns.map .int)), some (.loc, .int (b : Nat)), some (.loc, .int (m : Nat)), none, none]) rfl (.inl rfl) rfl
  repeat' sizeOf_list_dec
  have hit := jl (k := .loc) (n := m) (by omega)
  refine' cR (rs := [(.loc, .int (m : Nat))]) (st1 := [some (.any, .lst (ns.map .int)), some (.loc, .int (b : Nat)), some (.loc, .int (m : Nat)), some (.own, .lst []), none]) _ trivial hit rfl hrun _
  all_goals repeat' sizeOf_list_dec
noncomputable def gT : Fn := ⟨"_law_told", 2, 6,
   [.set 2 (.bi .len [(.var 1)]),
    .ite (.and [(.cmp .gt (.bin .mod (.idx (.var 0) (.cst (.int 2))) (.cst (.int 3))) (.cst (.int 0))), (.cmp .gt (.bin .mod (.idx (.var 0) (.cst (.int 0))) (.bi .len [(.var 1)])) (.cst (.int 0)))])
      [.set 2 (.bin .mod (.idx (.var 0) (.cst (.int 0))) (.bi .len [(.var 1)]))]
      [],
    .set 3 (.lst []),
    .for_ false [4] .rng1 [(.idx (.lst [(.cst (.int 0)), (.cst (.int 0)), (.cst (.int 1)), (.cst (.int 1)), (.cst (.int 1)), (.cst (.int 2)), (.cst (.int 2)), (.cst (.int 2)), (.cst (.int 3)), (.cst (.int 8))]) (.bin .mod (.idx (.var 0) (.cst (.int 1))) (.cst (.int 10))))]
      [.set 5 (.idx (.var 1) (.bin .mod (.idx (.var 0) (.bin .add (.cst (.int 3)) (.var 4))) (.var 2))),
      .ite (.cmp .notin (.var 5) (.var 3))
        [.app 3 (.var 5)]
        []],
    .ret (.bi .tuple [(.var 3)])]⟩
end TM
namespace TM
open PySem L2 W01
theorem Bi:∀ j:Nat,j<10→∃ q:Nat,q≤8∧atI [U.int 0,.int 0,.int 1,.int 1,.int 1,.int 2,.int 2,.int 2,.int 3,.int 8] (j:Int)=some (.int (q:Nat))
 |0,_=>⟨0,by omega,rfl⟩|1,_=>⟨0,by omega,rfl⟩|2,_=>⟨1,by omega,rfl⟩|3,_=>⟨1,by omega,rfl⟩|4,_=>⟨1,by omega,rfl⟩
 |5,_=>⟨2,by omega,rfl⟩|6,_=>⟨2,by omega,rfl⟩|7,_=>⟨2,by omega,rfl⟩|8,_=>⟨3,by omega,rfl⟩|9,_=>⟨8,by omega,rfl⟩
 |n+10,h=>absurd h (by omega)
theorem yY {α:Type}{xs:List α}{z t:Int} (hz:0≤z) (ht:0<t) (hl:t≤xs.length):∃ x∈xs,atI xs (z % t)=some x:=by
 have h1:=Int.emod_nonneg z (by omega:t≠0)
 have h2:=Int.emod_lt_of_pos z ht
 obtain ⟨j,hj⟩:=Int.eq_ofNat_of_zero_le h1
 have hjl:j<xs.length:=by omega
 refine ⟨xs[j]'hjl,List.getElem_mem hjl,?_⟩
 rw [hj]
 exact cq (by simp [hjl])
theorem qz {xs:List Str}{z t:Int} (hz:0≤z) (ht:0<t) (hl:t≤xs.length):∃ x∈xs,atI (xs.map U.str) (z % t)=some (.str x):=by
 obtain ⟨u,hu,e⟩:=yY (xs:=xs.map U.str) hz ht (by simpa using hl)
 obtain ⟨x,hx,rfl⟩:=List.mem_map.mp hu
 exact ⟨x,hx,e⟩
theorem ub {Γ : Tab} {ds : List Int} {names : List Str} (hd : 11 ≤ ds.length) (h0 : ∀ d ∈ ds, 0 ≤ d) (hn : 0 < names.length) :
    ∃ told : List Str, told.length ≤ 8 ∧ told.Nodup ∧ (∀ x ∈ told, x ∈ names) ∧ bX Γ gT [.lst (ds.map .int), .lst (names.map .str)] = some (.ok (.loc, .tup (told.map .str))) := by
  have hsz : (1000 : Nat) ≤ sizeLine := by decide
  have i0 : atI (ds.map U.int) 0 = some (.int (dd ds 0)) := bS (i := 0) (by omega)
  have i1 : atI (ds.map U.int) 1 = some (.int (dd ds 1)) := bS (i := 1) (by omega)
  have i2 : atI (ds.map U.int) 2 = some (.int (dd ds 2)) := bS (i := 2) (by omega)
  have n0 := dq h0 0
  have n1 := dq h0 1
  have n2 := dq h0 2
  have hp : (0 : Int) < ((names.map U.str).length : Nat) := by simp; omega
  have hL : ((names.map U.str).length : Int) = names.length := by simp
  have hm0 := Int.emod_lt_of_pos (dd ds 0) hp
  have hm1 := Int.emod_nonneg (dd ds 0) (by omega : ((names.map U.str).length : Int) ≠ 0)
  let B := fun (t : Int) (us : List U) (o4 o5 : Option (Kd × U)) => ([some (.any, .lst (ds.map .int)), some (.any, .lst (names.map .str)), some (.loc, .int t), some (.own, .lst us), o4, o5] : ag)
  have hj : (dd ds 1 % 10).toNat < 10 := by omega
  obtain ⟨q, hq, hat⟩ := Bi _ hj
  rw [Int.toNat_of_nonneg (by omega)] at hat
  have main : ∀ t : Int, 0 < t → t ≤ names.length → ∃ told : List Str, told.length ≤ 8 ∧ told.Nodup ∧ (∀ x ∈ told, x ∈ names) ∧ ∃ st', Run (execs Γ (gT.body.drop 2)) [some (.any, .lst (ds.map .int)), some (.any, .lst (names.map .str)), some (.loc, .int t), none, none, none] (.rt .loc (.tup (told.map .str))) st' := fun t ht htl => by
    let I : List (Kd × U) → ag → Prop := fun xs st => ∃ (told : List Str) (us : List U) (o4 o5 : Option (Kd × U)), st = B t us o4 o5 ∧ us = told.map .str ∧ told.Nodup ∧ (∀ x ∈ told, x ∈ names) ∧ told.length + xs.length ≤ q ∧ dn q xs
    have loop := nz (t := false) (is := [4]) (body := execs Γ [.set 5 (.idx (.var 1) (.bin .mod (.idx (.var 0) (.bin .add (.cst (.int 3)) (.var 4))) (.var 2))),
      .ite (.cmp .notin (.var 5) (.var 3))
        [.app 3 (.var 5)]
        []]) (rs := [(.loc, .int (q : Nat))]) I (fun _ _ _ => trivial) (fun x xs st hIx => by
      obtain ⟨told, us, o4, o5, e, e2, hnd, hw, hl, hr⟩ := hIx
      subst e
      obtain ⟨i, hi, rfl, hr', hlen⟩ := hr.cons
      rw [List.length_cons] at hl
      have ik : atI (ds.map U.int) (3 + (i : Int)) = some (.int (dd ds (3 + i))) := by
        rw [show (3 + (i : Int)) = ((3 + i : Nat) : Int) by omega]
        exact bS (by omega)
      obtain ⟨x, hx, hxa⟩ := qz (xs := names) (dq h0 (3 + i)) ht htl
      have hni : bh .notin (.str x) (.lst us) = some (decide (x ∉ told)) := by rw [e2]; exact jn
      by_cases hin : x ∈ told
      · refine ⟨B t us (some (.loc, .int (i : Nat))) o5, B t us (some (.loc, .int (i : Nat))) (some (.any, .str x)), aZ, ?_, ⟨told, us, _, _, rfl, e2, hnd, hw, by omega, hr'⟩⟩
        refine aD (r := (.any, .str x)) (st1 := B t us (some (.loc, .int (i : Nat))) o5) ?_ jj (cj (st1 := B t us (some (.loc, .int (i : Nat))) (some (.any, .str x))) ?_ aF aF)
        · repeat' (first | exact aP ik | exact cA ht | exact aP hxa | sizeOf_list_dec)
        · have : bh .notin (.str x) (.lst us) = some false := by rw [hni]; simp [hin]
          repeat' (first | exact this | sizeOf_list_dec)
      · refine ⟨B t us (some (.loc, .int (i : Nat))) o5, B t (us ++ [.str x]) (some (.loc, .int (i : Nat))) (some (.any, .str x)), aZ, ?_, ⟨told ++ [x], _, _, _, rfl, by simp [e2], ?_, ?_, by simp; omega, hr'⟩⟩
        · refine aD (r := (.any, .str x)) (st1 := B t us (some (.loc, .int (i : Nat))) o5) ?_ jj (eh (st1 := B t us (some (.loc, .int (i : Nat))) (some (.any, .str x))) (st2 := B t (us ++ [.str x]) (some (.loc, .int (i : Nat))) (some (.any, .str x))) ?_ ?_ aF)
          · repeat' (first | exact aP ik | exact cA ht | exact aP hxa | sizeOf_list_dec)
          · have : bh .notin (.str x) (.lst us) = some true := by rw [hni]; simp [hin]
            repeat' (first | exact this | sizeOf_list_dec)
          · repeat' (first | exact nj rfl | exact (by rw [e2, List.length_map]; omega) | sizeOf_list_dec)
        · rw [List.nodup_append]
          exact ⟨hnd, by simp, fun y hy w hw' => by have : w = x := by simpa using hw'
                                                    subst this; rintro rfl; exact hin hy⟩
        · intro y hy
          rcases List.mem_append.mp hy with h | h
          · exact hw y h
          · rw [List.mem_singleton.mp h]; exact hx)
    obtain ⟨st', hrun, told, us, o4, o5, e, e2, hnd, hw, hl, _⟩ := loop ((List.range q).map fun i : Nat => (Kd.loc, U.int (0 + (i : Int)))) (B t [] none none) ⟨[], [], none, none, rfl, rfl, by simp, by simp, by simp, dn.all q⟩
    subst e e2
    refine ⟨told, by simp at hl; omega, hnd, hw, ?_⟩
    have hit := jl (k := .loc) (n := q) (by omega)
    refine ⟨B t (told.map .str) o4 o5, aD (r := (.own, .lst [])) (cy aw trivial aT (Nat.zero_le _)) br (cR (rs := [(.loc, .int (q : Nat))]) (st1 := B t [] none none) ?_ trivial hit rfl hrun ?_)⟩
    · refine ar (cQ (x := (.own, .lst [U.int 0, .int 0, .int 1, .int 1, .int 1, .int 2, .int 2, .int 2, .int 3, .int 8])) (y := (.loc, .int (dd ds 1 % 10))) (st1 := B t [] none none) ?_ ?_ trivial (aP hat)) aw
      · repeat' (first | exact (by decide : (10 : Nat) ≤ sizeLine) | sizeOf_list_dec)
      · repeat' (first | exact aP i1 | sizeOf_list_dec)
    · repeat' sizeOf_list_dec
  have fin : ∀ t : Int, 0 < t → t ≤ names.length → (∀ {f : Fl} {st' : ag}, Run (execs Γ (gT.body.drop 2)) [some (.any, .lst (ds.map .int)), some (.any, .lst (names.map .str)), some (.loc, .int t), none, none, none] f st' → Run (execs Γ gT.body) [some (.any, .lst (ds.map .int)), some (.any, .lst (names.map .str)), none, none, none, none] f st') →
      ∃ told : List Str, told.length ≤ 8 ∧ told.Nodup ∧ (∀ x ∈ told, x ∈ names) ∧ bX Γ gT [.lst (ds.map .int), .lst (names.map .str)] = some (.ok (.loc, .tup (told.map .str))) := fun t ht htl hh => by
    obtain ⟨told, a1, a2, a3, st', a4⟩ := main t ht htl
    exact ⟨told, a1, a2, a3, aU (st0 := [some (.any, .lst (ds.map .int)), some (.any, .lst (names.map .str)), none, none, none, none]) rfl (.inr rfl) rfl (hh a4)⟩
  let S0 : ag := [some (.any, .lst (ds.map .int)), some (.any, .lst (names.map .str)), some (.loc, .int ((names.map U.str).length : Nat)), none, none, none]
  have q1 : ∀ {c : Bool}, decide (0 < dd ds 2 % 3) = c → Run (tst Γ (.cmp .gt (.bin .mod (.idx (.var 0) (.cst (.int 2))) (.cst (.int 3))) (.cst (.int 0)))) S0 c S0 := fun h => by repeat' (first | exact aP i2 | exact ko h | sizeOf_list_dec)
  have q2 : ∀ {c : Bool}, decide (0 < dd ds 0 % ((names.map U.str).length : Nat)) = c → Run (tst Γ (.cmp .gt (.bin .mod (.idx (.var 0) (.cst (.int 0))) (.bi .len [(.var 1)])) (.cst (.int 0)))) S0 c S0 := fun h => by repeat' (first | exact aP i0 | exact cA hp | exact ko h | sizeOf_list_dec)
  have s2 : Run (ev Γ (.bi .len [(.var 1)])) [some (.any, .lst (ds.map .int)), some (.any, .lst (names.map .str)), none, none, none, none] (.loc, .int ((names.map U.str).length : Nat)) [some (.any, .lst (ds.map .int)), some (.any, .lst (names.map .str)), none, none, none, none] := by repeat' sizeOf_list_dec
  have s3 : Run (ev Γ (.bin .mod (.idx (.var 0) (.cst (.int 0))) (.bi .len [(.var 1)]))) S0 (.loc, .int (dd ds 0 % ((names.map U.str).length : Nat))) S0 := by repeat' (first | exact aP i0 | exact cA hp | sizeOf_list_dec)
  by_cases c1 : 0 < dd ds 2 % 3
  · by_cases c2 : 0 < dd ds 0 % ((names.map U.str).length : Nat)
    · exact fin (dd ds 0 % ((names.map U.str).length : Nat)) c2 (by omega) fun h => aD s2 aZ (eh (nq (pB (q1 (decide_eq_true c1)) (fk (q2 (decide_eq_true c2))))) (aD s3 aZ aF) h)
    · exact fin ((names.map U.str).length : Nat) hp (by omega) fun h => aD s2 aZ (cj (nq (pB (q1 (decide_eq_true c1)) (fk (q2 (decide_eq_false c2))))) aF h)
  · exact fin ((names.map U.str).length : Nat) hp (by omega) fun h => aD s2 aZ (cj (nq (tY (q1 (decide_eq_false c1)))) aF h)
end TM
namespace TM
open PySem L2 W01
theorem qA {Γ:Tab}{st st1 st2 st3 st4:ag}{i:Nat}{ke ve:E}{ss:List S}{rv rk:Kd×U}{k k':Kd}{uv uk u' u0 u1:U}{f:Fl} (h1:Run (ev Γ ve) st rv st1) (h2:st1[i]?=some (some (k',u'))) (h3:Run (ev Γ ke) st1 rk st2) (h4:Run (cv [rv,rk]) st2 [uv,uk] st3) (h5:st3[i]?=some (some (k,u0))) (hk:k.root=true) (h6:cZ uk uv u0=some u1)
  (h7:Run (execs Γ ss) (st3.set i (some (k,u1))) f st4) (hn:k'≠.ownD:=by intro z;cases z):Run (execs Γ (.put i ke ve::ss)) st f st4:=by
 refine dW (aa h1 (aa (gf h2 hn) (aa h3 (aa h4 (aa (a:=()) (st1:=st3.set i (some (k,u1))) ?_ aJ))))) h7
 show modS i (p_ [uv,uk]) st3=_
 unfold modS
 rw [h5]
 simp only [hk,if_true]
 show (match cZ uk uv u0 with|some u'=>_|none=>none)=_
 rw [h6]
noncomputable abbrev Row:=Str×List Str
noncomputable def rwU (r:Row):U:=.tup [.str r.1,.tup (r.2.map .str)]
noncomputable def keyOf (r:Row):Row:=(r.1,aO r.2)
theorem kq (r:Row):rowOf (rwU r)=some r:=by
 show (strsOf (r.2.map U.str)).map _=_
 rw [cm]
 rfl
theorem sorted_strs {k:Kd}{ss:List Str} (h:ss.length<64):biU .sorted [(k,.tup (ss.map .str))]=some (.own,.lst ((aO ss).map .str)):=by
 show (strsOf (ss.map U.str)).bind _=_
 rw [cm]
 show (if ss.length<64 then _ else _)=_
 rw [if_pos h]
noncomputable def uc : Fn := ⟨"_law_book", 4, 10,
   [.set 4 (.lst []),
    .set 5 (.dnew true),
    .for_ false [6] .rng1 [(.var 3)]
      [.set 7 (.call "_law_drawn" [(.call "_law_cell" [(.var 0), (.bin .add (.var 1) (.var 6))]), (.cst (.int 11))]),
      .set 8 (.tup [(.idx (.var 2) (.bin .mod (.idx (.var 7) (.cst (.int 0))) (.bi .len [(.var 2)]))), (.call "_law_told" [(.var 7), (.var 2)])]),
      .set 9 (.tup [(.idx (.var 8) (.cst (.int 0))), (.bi .tuple [(.bi .sorted [(.idx (.var 8) (.cst (.int 1)))])])]),
      .ite (.cmp .notin (.var 9) (.var 5))
        [.put 5 (.var 9) (.cst (.bl true)),
        .app 4 (.var 8)]
        []],
    .ret (.bi .tuple [(.var 4)])]⟩
noncomputable def ud (Γ:Tab):Prop:=∀ (ds:List Int) (names:List Str),11≤ds.length→(∀ d∈ds,0≤d)→0<names.length →
 ∃ told:List Str,told.length≤8∧told.Nodup∧(∀ x∈told,x∈names)∧Γ "_law_told" [.lst (ds.map .int),.lst (names.map .str)]=some (.ok (.loc,.tup (told.map .str)))
structure kr (names:List Str) (r:Row):Prop where
 word:r.1∈names
 few:r.2.length≤8
 once:r.2.Nodup
 told:∀ x∈r.2,x∈names
theorem ue {Γ : Tab} (hc : jo Γ) (hd : gh Γ) (ht : ud Γ) {ns : List Int} {names : List Str} {b m : Nat} (hn : 0 < names.length) (hb : b < 1000) (hm : m < 1000) :
    ∃ rows : List Row, rows.length ≤ m ∧ (rows.map keyOf).Nodup ∧ (∀ r ∈ rows, kr names r) ∧ bX Γ uc [.lst (ns.map .int), .int (b : Nat), .lst (names.map .str), .int (m : Nat)] = some (.ok (.loc, .tup (rows.map rwU))) := by
  have hsz : (1000 : Nat) ≤ sizeLine := by decide
  let B := fun (us : List U) (ks : List dw) (o6 o7 o8 o9 : Option (Kd × U)) => ([some (.any, .lst (ns.map .int)), some (.loc, .int (b : Nat)), some (.any, .lst (names.map .str)), some (.loc, .int (m : Nat)), some (.own, .lst us), some (.own, .rdc ks), o6, o7, o8, o9] : ag)
  let I : List (Kd × U) → ag → Prop := fun xs st => ∃ (rows : List Row) (us : List U) (ks : List dw) (o6 o7 o8 o9 : Option (Kd × U)), st = B us ks o6 o7 o8 o9 ∧ us = rows.map rwU ∧ ks = rows.map keyOf ∧ ks.Nodup ∧ (∀ r ∈ rows, kr names r) ∧ rows.length + xs.length ≤ m ∧ dn m xs
  have hp : (0 : Int) < ((names.map U.str).length : Nat) := by simp; omega
  have loop := nz (t := false) (is := [6]) (body := execs Γ [.set 7 (.call "_law_drawn" [(.call "_law_cell" [(.var 0), (.bin .add (.var 1) (.var 6))]), (.cst (.int 11))]),
      .set 8 (.tup [(.idx (.var 2) (.bin .mod (.idx (.var 7) (.cst (.int 0))) (.bi .len [(.var 2)]))), (.call "_law_told" [(.var 7), (.var 2)])]),
      .set 9 (.tup [(.idx (.var 8) (.cst (.int 0))), (.bi .tuple [(.bi .sorted [(.idx (.var 8) (.cst (.int 1)))])])]),
      .ite (.cmp .notin (.var 9) (.var 5))
        [.put 5 (.var 9) (.cst (.bl true)),
        .app 4 (.var 8)]
        []]) (rs := [(.loc, .int (m : Nat))]) I (fun _ _ _ => trivial) (fun x xs st hIx => by
    obtain ⟨rows, us, ks, o6, o7, o8, o9, e, e2, e3, hnd, hw, hl, hr⟩ := hIx
    subst e
    obtain ⟨i, hi, rfl, hr', hlen⟩ := hr.cons
    rw [List.length_cons] at hl
    obtain ⟨z, hz⟩ := hc ns (b + i) (by omega)
    rw [Int.natCast_add] at hz
    obtain ⟨ds, d1, d2, d3⟩ := hd z 11 (by omega)
    obtain ⟨told, t1, t2, t3, t4⟩ := ht ds names (by omega) d2 hn
    have i0 : atI (ds.map U.int) 0 = some (.int (dd ds 0)) := bS (i := 0) (by omega)
    obtain ⟨nm, hnm, hna⟩ := qz (xs := names) (t := ((names.map U.str).length : Nat)) (dq d2 0) hp (by simp)
    have hrow : kr names (nm, told) := ⟨hnm, t1, t2, t3⟩
    have j0 : fR (.loc, rwU (nm, told)) (.int 0) = some (.loc, .str nm) := rfl
    have j1 : fR (.loc, rwU (nm, told)) (.int 1) = some (.loc, .tup (told.map .str)) := rfl
    have srt := sorted_strs (k := .loc) (ss := told) (by omega)
    let i6 : Option (Kd × U) := some (.loc, .int (i : Nat))
    let i7 : Option (Kd × U) := some (.own, .lst (ds.map .int))
    let i8 : Option (Kd × U) := some (.loc, rwU (nm, told))
    let i9 : Option (Kd × U) := some (.loc, rwU (keyOf (nm, told)))
    have g7 : Run (ev Γ (.call "_law_drawn" [(.call "_law_cell" [(.var 0), (.bin .add (.var 1) (.var 6))]), (.cst (.int 11))])) (B us ks i6 o7 o8 o9) (.own, .lst (ds.map .int)) (B us ks i6 o7 o8 o9) := by repeat' (first | exact hz | exact d3 | sizeOf_list_dec)
    have g8 : Run (ev Γ (.tup [(.idx (.var 2) (.bin .mod (.idx (.var 7) (.cst (.int 0))) (.bi .len [(.var 2)]))), (.call "_law_told" [(.var 7), (.var 2)])])) (B us ks i6 i7 o8 o9) (.loc, rwU (nm, told)) (B us ks i6 i7 o8 o9) := by
      repeat' (first | exact aP i0 | exact cA hp | exact aP hna | exact t4 | exact nj rfl | exact (by decide : (2 : Nat) ≤ sizeLine) | sizeOf_list_dec)
    have g9 : Run (ev Γ (.tup [(.idx (.var 8) (.cst (.int 0))), (.bi .tuple [(.bi .sorted [(.idx (.var 8) (.cst (.int 1)))])])])) (B us ks i6 i7 i8 o9) (.loc, rwU (keyOf (nm, told))) (B us ks i6 i7 i8 o9) := by
      repeat' (first | exact j0 | exact j1 | exact srt | exact (by decide : (2 : Nat) ≤ sizeLine) | sizeOf_list_dec)
    have hni : bh .notin (rwU (keyOf (nm, told))) (.rdc ks) = some (decide (keyOf (nm, told) ∉ ks)) := by
      show (((rowOf (rwU (keyOf (nm, told)))).map fun r => decide (r ∈ ks))).map (!·) = _
      rw [kq]
      simp
    by_cases hin : keyOf (nm, told) ∈ ks
    · refine ⟨B us ks i6 o7 o8 o9, B us ks i6 i7 i8 i9, aZ, aD g7 br (aD g8 aZ (aD g9 aZ (cj ?_ aF aF))), ⟨rows, us, ks, _, _, _, _, rfl, e2, e3, hnd, hw, by omega, hr'⟩⟩
      have : bh .notin (rwU (keyOf (nm, told))) (.rdc ks) = some false := by rw [hni]; simp [hin]
      exact bZ (ak rfl) (aL rfl) ⟨⟨.own, rfl, rfl⟩, trivial⟩ this
    · refine ⟨B us ks i6 o7 o8 o9, B (us ++ [rwU (nm, told)]) (ks ++ [keyOf (nm, told)]) i6 i7 i8 i9, aZ, aD g7 br (aD g8 aZ (aD g9 aZ (eh (st1 := B us ks i6 i7 i8 i9) (st2 := B (us ++ [rwU (nm, told)]) (ks ++ [keyOf (nm, told)]) i6 i7 i8 i9) ?_ ?_ aF))), ⟨rows ++ [(nm, told)], _, _, _, _, _, _, rfl, by simp [e2], by simp [e3], ?_, ?_, by simp; omega, hr'⟩⟩
      · have : bh .notin (rwU (keyOf (nm, told))) (.rdc ks) = some true := by rw [hni]; simp [hin]
        exact bZ (ak rfl) (aL rfl) ⟨⟨.own, rfl, rfl⟩, trivial⟩ this
      · have hput : cZ (rwU (keyOf (nm, told))) (.bl true) (.rdc ks) = some (.rdc (ks ++ [keyOf (nm, told)])) := by
          show (match rowOf (rwU (keyOf (nm, told))), U.bl true with | some r, .bl true => if r ∉ ks ∧ ks.length ≤ 1000 then some (U.rdc (ks ++ [r])) else none | _, _ => none) = _
          rw [kq]
          show (if keyOf (nm, told) ∉ ks ∧ ks.length ≤ 1000 then _ else _) = _
          rw [if_pos ⟨hin, by rw [e3, List.length_map]; omega⟩]
        exact qA (st1 := B us ks i6 i7 i8 i9) (st2 := B us ks i6 i7 i8 i9) (st3 := B us ks i6 i7 i8 i9) (k := .own) (k' := .own) aY rfl (ak rfl) (bA bC (bA bC aT)) rfl rfl hput
          (gg (st1 := B us (ks ++ [keyOf (nm, told)]) i6 i7 i8 i9) (st2 := B us (ks ++ [keyOf (nm, told)]) i6 i7 i8 i9) (k := .own) (k' := .own) (us := us) (us' := us) rfl (ak rfl) bC rfl rfl (by rw [e2, List.length_map]; omega) aF)
      · rw [List.nodup_append]
        exact ⟨hnd, by simp, fun y hy w hw' => by have : w = keyOf (nm, told) := by simpa using hw'
                                                  subst this; rintro rfl; exact hin hy⟩
      · intro y hy
        rcases List.mem_append.mp hy with h | h
        · exact hw y h
        · rw [List.mem_singleton.mp h]; exact hrow)
  obtain ⟨st', hrun, rows, us, ks, o6, o7, o8, o9, e, e2, e3, hnd, hw, hl, _⟩ := loop ((List.range m).map fun i : Nat => (Kd.loc, U.int (0 + (i : Int)))) (B [] [] none none none none) ⟨[], [], [], none, none, none, none, rfl, rfl, rfl, by simp, by simp, by simp, dn.all m⟩
  subst e e2 e3
  refine ⟨rows, by simpa using hl, hnd, hw, ?_⟩
  have hit := jl (k := .loc) (n := m) (by omega)
  exact aU (st0 := [some (.any, .lst (ns.map .int)), some (.loc, .int (b : Nat)), some (.any, .lst (names.map .str)), some (.loc, .int (m : Nat)), none, none, none, none, none, none]) rfl (.inr rfl) rfl
    (aD (r := (.own, .lst [])) (cy aw trivial aT (Nat.zero_le _)) br (aD (r := (.own, .rdc [])) lN br (cR (rs := [(.loc, .int (m : Nat))]) (st1 := B [] [] none none none none) (ar (ak rfl) aw) trivial hit rfl hrun
      (dS (ji (ar (aL rfl) aw) ⟨⟨.own, rfl, rfl⟩, trivial⟩ rfl) ny))))
end TM
namespace TM
open PySem L2 W01
noncomputable def lU (Γ:Tab):Prop:=∀ (ns:List Int) (b m:Nat),b<1000→m<40→∃ names:List Str,names.length=m∧names.Nodup∧(∀ x∈names,bV x.cps.toList)∧Γ "_law_names" [.lst (ns.map .int),.int (b:Nat),.int (m:Nat)]=some (.ok (.own,.lst (names.map .str)))
noncomputable def uf (Γ:Tab):Prop:=∀ (ns:List Int) (names:List Str) (b m:Nat),0<names.length→b<1000→m<1000 →
 ∃ rows:List Row,rows.length≤m∧(rows.map keyOf).Nodup∧(∀ r∈rows,kr names r)∧Γ "_law_book" [.lst (ns.map .int),.int (b:Nat),.lst (names.map .str),.int (m:Nat)]=some (.ok (.loc,.tup (rows.map rwU)))
noncomputable def ug : Fn := ⟨"_law_made", 1, 3,
   [.set 1 (.call "_law_drawn" [(.call "_law_cell" [(.var 0), (.cst (.int 0))]), (.cst (.int 4))]),
    .set 2 (.call "_law_names" [(.var 0), (.cst (.int 1)), (.bin .add (.cst (.int 1)) (.bin .mod (.idx (.var 1) (.cst (.int 0))) (.cst (.int 14))))]),
    .ret (.call "_law_book" [(.var 0), (.cst (.int 20)), (.var 2), (.bin .mod (.idx (.var 1) (.cst (.int 1))) (.cst (.int 41)))])]⟩
theorem uh {Γ:Tab} (hc:jo Γ) (hd:gh Γ) (hn:lU Γ) (hb:uf Γ) (ns:List Int):∃ (names:List Str) (rows:List Row),0<names.length∧names.length≤14∧names.Nodup∧(∀ x∈names,bV x.cps.toList) ∧
  rows.length≤40∧(rows.map keyOf).Nodup∧(∀ r∈rows,kr names r)∧bX Γ ug [.lst (ns.map .int)]=some (.ok (.loc,.tup (rows.map rwU))):=by
 obtain ⟨z,hz⟩:=hc ns 0 (by omega)
 obtain ⟨ds,d1,d2,d3⟩:=hd z 4 (by omega)
 have i0:atI (ds.map U.int) 0=some (.int (dd ds 0)):=bS (i:=0) (by omega)
 have i1:atI (ds.map U.int) 1=some (.int (dd ds 1)):=bS (i:=1) (by omega)
 have n0:=dq d2 0
 have n1:=dq d2 1
 obtain ⟨names,a1,a2,a3,a4⟩:=hn ns 1 (1+dd ds 0 % 14).toNat (by omega) (by omega)
 rw [Int.toNat_of_nonneg (by omega)] at a4
 obtain ⟨rows,b1,b2,b3,b4⟩:=hb ns names 20 (dd ds 1 % 41).toNat (by omega) (by omega) (by omega)
 rw [Int.toNat_of_nonneg (by omega)] at b4
 refine ⟨names,rows,by omega,by omega,a2,a3,by omega,b2,b3,?_⟩
 apply aU (st0:=[some (.any,.lst (ns.map .int)),none,none]) rfl (.inr rfl) rfl
 repeat' (first|exact hz|exact d3|exact aP i0|exact aP i1|exact a4|exact b4|sizeOf_list_dec)
section
variable {Pg : List Fn} {d : Nat}
noncomputable def Has (Pg:List Fn) (f:Str) (fn:Fn):Prop:=(Pg.find? fun g=>decide (g.name=f))=some fn
theorem aR {fn:Fn}{f:Str} (h:Has Pg f fn) (us:List U):sem Pg (d+1) f us=bX (sem Pg d) fn us:=by
 show (match Pg.find? fun g=>decide (g.name=f) with|some fn=>bX (sem Pg d) fn us|none=>none)=_
 rw [show _=some fn from h]
theorem xi (h:Has Pg "_law_mix" rC):t7 (sem Pg (d+1)):=fun c k h0 h1=>by rw [aR h];exact wt h0 h1
theorem jq (h:Has Pg "_law_mix" rC) (h2:Has Pg "_law_cell" qx):jo (sem Pg (d+2)):=fun ns k hk=>⟨_,by rw [aR h2];exact t9 (xi h) hk⟩
theorem drawnOk (h:Has Pg "_law_mix" rC) (h2:Has Pg "_law_drawn" lR):gh (sem Pg (d+2)):=fun c n hn=>by
 obtain ⟨ds,a,b,e⟩:=rD (xi (d:=d) h) (c:=c) hn
 exact ⟨ds,a,b,by rw [aR h2];exact e⟩
theorem yZ {md:E} (hmd:wx md) (h:Has Pg "_law_name" (lS md)):ua (sem Pg (d+1)):=fun ds names a b c e=>by
 obtain ⟨x,p,q,r⟩:=t_ (Γ:=sem Pg d) hmd a b c e
 exact ⟨x,p,q,by rw [aR h];exact r⟩
theorem y0 (h:Has Pg "_law_told" gT):ud (sem Pg (d+1)):=fun ds names a b c=>by
 obtain ⟨x,p,q,r,s⟩:=ub (Γ:=sem Pg d) a b c
 exact ⟨x,p,q,r,by rw [aR h];exact s⟩
structure b7 (md:E) (Pg:List Fn):Prop where
 mix:Has Pg "_law_mix" rC
 cell:Has Pg "_law_cell" qx
 drawn:Has Pg "_law_drawn" lR
 name:Has Pg "_law_name" (lS md)
 names:Has Pg "_law_names" fNames
 told:Has Pg "_law_told" gT
 book:Has Pg "_law_book" uc
theorem b7.jq {md:E} (M:b7 md Pg):jo (sem Pg (d+2)):=TM.jq M.mix M.cell
theorem b7.drawnOk {md:E} (M:b7 md Pg):gh (sem Pg (d+2)):=TM.drawnOk M.mix M.drawn
theorem b7.ui {md:E} (hmd:wx md) (M:b7 md Pg):lU (sem Pg (d+3)):=fun ns b m hb hm=>by
 obtain ⟨names,p,q,r,s⟩:=rG (Γ:=sem Pg (d+2)) M.jq M.drawnOk (TM.yZ hmd M.name) (ns:=ns) hb hm
 exact ⟨names,p,q,r,by rw [aR M.names];exact s⟩
noncomputable abbrev uj (Pg:List Fn):Prop:=b7 Aw Pg
theorem b7.namesOk (M:uj Pg):lU (sem Pg (d+3)):=b7.ui wy M
theorem b7.y4 {md:E} (M:b7 md Pg):uf (sem Pg (d+3)):=fun ns names b m hn hb hm=>by
 obtain ⟨rows,p,q,r,s⟩:=ue (Γ:=sem Pg (d+2)) M.jq M.drawnOk (TM.y0 M.told) (ns:=ns) hn hb hm
 exact ⟨rows,p,q,r,by rw [aR M.book];exact s⟩
end
end TM
namespace TM
open PySem L2 W01
section
variable {Γ : Tab} {st st1 st2 st3 st4 : ag}
theorem ku {a ss:List S}{f:Fl} (h:Run (execs Γ (a++ss)) st f st2):(∃ s1,Run (execs Γ a) st .nx s1∧Run (execs Γ ss) s1 f st2)∨(Run (execs Γ a) st f st2∧f≠.nx):=by
 induction a generalizing st with
 |nil=>exact .inl ⟨st,aF,h⟩
 |cons s a ih =>
  have h':M.bind (exec Γ s) (fun f=>match f with|.nx=>execs Γ (a++ss)|f=>pure f) st=some (.ok f,st2):=h
  unfold M.bind at h'
  cases e:exec Γ s st with
  |none=>rw [e] at h';cases h'
  |some p =>
   obtain ⟨x,s1⟩:=p
   rw [e] at h'
   cases x with
   |exc c=>cases h'
   |ok g =>
    cases g with
    |nx =>
     rcases ih h' with ⟨s2,h1,h2⟩|⟨h1,h2⟩
     ·exact .inl ⟨s2,dW e h1,h2⟩
     ·exact .inr ⟨dW e h1,h2⟩
    |rt k u=>cases h';exact .inr ⟨wq e,fun z=>nomatch z⟩
    |bk=>cases h';exact .inr ⟨aa (show Run (exec Γ s) st Fl.bk _ from e) aJ,fun z=>nomatch z⟩
    |ct=>cases h';exact .inr ⟨aa (show Run (exec Γ s) st Fl.ct _ from e) aJ,fun z=>nomatch z⟩
theorem Ax {s:S}{ss:List S}{f:Fl} (h1:Run (exec Γ s) st f st1) (hf:f≠.nx):Run (execs Γ (s::ss)) st f st1:=by
 cases f with
 |nx=>exact absurd rfl hf
 |rt k u=>exact wq h1
 |bk=>exact aa h1 aJ
 |ct=>exact aa h1 aJ
theorem eR {c:E}{a b ss:List S}{p:Bool}{f:Fl} (h1:Run (tst Γ c) st p st1) (hT:p=true→Run (execs Γ (a++ss)) st1 f st2) (hF:p=false→Run (execs Γ (b++ss)) st1 f st2):Run (execs Γ (.ite c a b::ss)) st f st2:=by
 cases p with
 |true =>
  rcases ku (hT rfl) with ⟨s1,h2,h3⟩|⟨h2,h3⟩
  ·exact dW (lO h1 h2) h3
  ·exact Ax (lO h1 h2) h3
 |false =>
  rcases ku (hF rfl) with ⟨s1,h2,h3⟩|⟨h2,h3⟩
  ·exact dW (pC h1 h2) h3
  ·exact Ax (pC h1 h2) h3
theorem um {e e2:E}{es:List E}{p q:Bool} (h:Run (tst Γ e) st p st) (h2:p=true→Run (aS Γ (e2::es)) st q st):Run (aS Γ (e::e2::es)) st (p&&q) st:=by
 cases p with
 |true=>exact pB h (h2 rfl)
 |false=>exact tY h
theorem lV {α:Type}{cond:M Bool}{elt:M (Kd×U)}{src:List (Kd×U)} (h:bj src st) (k:Kd) (hk:k=.loc∨k=.any) (enc g:α→U) (kd:Kd) (hc:∀ y,Run cond (some (k,enc y)::st) true (some (k,enc y)::st)):∀ (ys:List α) (acc:List U),acc.length+ys.length≤sizeLine →
  (∀ y∈ys,Run elt (some (k,enc y)::st) (kd,g y) (some (k,enc y)::st)∧Run (lift (kd,g y)) (some (k,enc y)::st) (g y) (some (k,enc y)::st))→Run (bB 1 false cond elt src (ys.map fun y=>(k,enc y)) acc) st (acc++ys.map g) st
 |[],acc,_,_=>by rw [List.map_nil,List.map_nil,List.append_nil];exact qv h
 |y::ys,acc,hl,hx=>by
  obtain ⟨h2,h3⟩:=hx y (by simp)
  rw [List.length_cons] at hl
  refine lP (s1:=some (k,enc y)::st) (s2:=some (k,enc y)::st) (s3:=some (k,enc y)::st) (s4:=some (k,enc y)::st) h ?_ (hc y) h2 h3 (by omega) ?_
  ·rcases hk with rfl|rfl
   ·exact dJ aZ
   ·exact dJ jj
  ·have:=lV h k hk enc g kd hc ys (acc++[g y]) (by simp;omega) fun z hz=>hx z (by simp [hz])
   rw [List.map_cons]
   simpa using this
theorem cC {α:Type}{t:Bool}{is:List Nat}{body:M Fl}{rs:List (Kd×U)} (it:α→Kd×U) (I:List α→List α→ag→Prop) (hs:∀ d r st,I d r st→bj rs st)
  (step:∀ d y r st,I d (y::r) st→∃ st1 st2,Run (cE t is (it y)) st () st1∧Run body st1 .nx st2∧I (d++[y]) r st2):∀ (r d:List α) (st:ag),I d r st→∃ st',Run (forM t is body rs (r.map it)) st .nx st'∧I (d++r) [] st'
 |[],d,st,h=>⟨st,xg (hs _ _ _ h),by rw [List.append_nil];exact h⟩
 |y::r,d,st,h=>by
  obtain ⟨s1,s2,h1,h2,h3⟩:=step d y r st h
  obtain ⟨s3,h4,h5⟩:=cC it I hs step r (d++[y]) s2 h3
  exact ⟨s3,Av (hs _ _ _ h) h1 h2 h4,by simpa using h5⟩
theorem uo {f:Bf}{es:List E}{k:Kd}{b:Bool} (h:Run (ev Γ (.bi f es)) st (k,.bl b) st1):Run (tst Γ (.bi f es)) st b st1:=by
 have h':(bE Γ es >>= fun rs=>au rs >>= fun _=>M.ofO (biU f rs)) st=some (.ok (k,.bl b),st1):=h
 obtain ⟨rs,s1,e1,e2,s2,e3,r,s3,e4,e5⟩:∃ rs s1,bE Γ es st=some (.ok rs,s1)∧∃ (a:Unit) (s2:ag),au rs s1=some (.ok a,s2)∧∃ r s3,M.ofO (biU f rs) s2=some (.ok r,s3)∧(r,s3)=((k,U.bl b),st1):=by
  have w:W (bE Γ es >>= fun rs=>au rs >>= fun _=>M.ofO (biU f rs)) st fun r s=>(r,s)=((k,U.bl b),st1):=⟨_,_,h',rfl⟩
  rw [ab] at w
  obtain ⟨rs,s1,e1,w⟩:=w
  rw [ab] at w
  obtain ⟨a,s2,e2,w⟩:=w
  obtain ⟨r,s3,e3,w⟩:=w
  exact ⟨rs,s1,e1,a,s2,e2,r,s3,e3,w⟩
 cases e5
 exact aa e1 (aa (a:=e2) e3 (aa e4 (cP rfl)))
theorem uq {i:Nat}{e:E}{ss:List S}{k k':Kd}{r:Kd×U}{us us' zs:List U}{f:Fl} (h0:st[i]?=some (some (k',.lst us'))) (h1:Run (ev Γ e) st r st1) (h3:st1[i]?=some (some (k,.lst us))) (hk:k.root=true) (hr:jF r (.lst us)=some (.lst zs))
  (h4:Run (execs Γ ss) (st1.set i (some (k,.lst zs))) f st3) (hn:k'≠.ownD:=by intro z;cases z):Run (execs Γ (.ext i e::ss)) st f st3:=by
 refine dW (aa (gf h0 hn) (aa (a:=()) (st1:=st) rfl (aa h1 (aa (a:=()) (st1:=st1.set i (some (k,.lst zs))) ?_ aJ)))) h4
 show modS i (jF r) st1=_
 unfold modS
 rw [h3]
 simp only [hk,if_true]
 rw [hr]
end
theorem lW {k:Kd}{xs ys:List U} (h:xs.length+ys.length≤sizeLine) (hs:lr k ys=true):jF (k,.lst ys) (.lst xs)=some (.lst (xs++ys)):=by
 show (if xs.length+ys.length≤sizeLine∧lr k ys=true then _ else _)=_
 rw [if_pos ⟨h,hs⟩]
end TM
namespace TM
open PySem L2 W01
theorem kA:∀ ss:List Str,fQ (ss.map U.str)=true
 |[]=>by simp [fQ]
 |s::ss=>by simp [fQ,imm,kA ss]
theorem wA (r:Row):imm (rwU r)=true:=by simp [rwU,imm,fQ,kA]
theorem cn:∀ rs:List Row,fQ (rs.map rwU)=true
 |[]=>by simp [fQ]
 |r::rs=>by simp [fQ,wA,cn rs]
theorem pE (ss:List Str) (n:Nat):eqD (n+1) (.lst (ss.map U.str))=true:=by simp [eqD,eM]
theorem wB {a b:Str}:bh .eq (.str a) (.str b)=some (decide (a=b)):=by
 simp only [bh]
 rw [if_pos ⟨rfl,rfl⟩]
 simp only [aV]
 by_cases h:a=b
 ·subst h;simp
 ·simp [h]
end TM
namespace TM
open PySem L2 W01
theorem nF {k:Kd}{acc:List Str} (h:acc.length<4000) (h2:(aE acc).length<64):oP .sset [(k,.lst (acc.map .str))]=some (.own,.lst ((aO (aE acc)).map .str)):=by
 have e:mZ (.lst (acc.map U.str))=some (aE acc):=by
  show (strsOf (acc.map U.str)).bind _=_
  rw [cm]
  show (if acc.length+1<scanBound then _ else _)=_
  rw [if_pos (by show acc.length+1<4096;omega)]
 show (mZ (.lst (acc.map U.str))).bind _=_
 rw [e]
 show (if (aE acc).length<64 then _ else _)=_
 rw [if_pos h2]
theorem nG (l:List Str):(aO (aE l)).Nodup:=(cc _).nodup_iff.mpr (fL l)
theorem ur (l:List Str) (x:Str):x∈aO (aE l)↔x∈l:=by rw [(cc _).mem_iff,iJ]
theorem uu {l names:List Str} (h:∀ x∈l,x∈names):(aE l).length≤names.length:=jh (fL l) fun x hx=>h x ((iJ l x).mp hx)
section
variable {Γ : Tab}
end
structure Bk (names:List Str) (rows:List Row) (n:Nat):Prop where
 pos:0<names.length
 few:names.length≤14
 once:names.Nodup
 word:∀ x∈names,bV x.cps.toList
 len:rows.length≤n
 keys:(rows.map keyOf).Nodup
 ok:∀ r∈rows,kr names r
end TM
namespace TM
open PySem L2 W01
section
variable {Γ : Tab} {st st1 st2 : ag}
theorem qB {a:E}{T:Ty5}{x:Kd×U}{b:Bool} (h1:Run (ev Γ a) st x st1) (h2:oQ x.2 T=some b):Run (tst Γ (.isi a T)) st b st1:=aa h1 (cP h2)
end
theorem wC {ks:List Str}{us:List U}{x:Str}{u:U} (h:ks.length<1000):cZ (.str x) u (.dic ks us)=some (.dic (dput ks us x u).1 (dput ks us x u).2):=by
 have hsz:(1000:Nat)≤sizeLine:=by decide
 show (if ks.length<sizeLine then _ else _)=_
 rw [if_pos (by omega)]
end TM
namespace Od
section
variable {W : Type} [DecidableEq W] {rows : List (W × List W)}
noncomputable def jr (rows:List (W×List W)) (C:W→Prop):Prop:=∀ r∈rows,(∀ x∈r.2,C x)→C r.1
noncomputable def Snd (rows:List (W×List W)) (K:List W):Prop:=∀ C:W→Prop,jr rows C→∀ x∈K,C x
theorem same {K L:List W} (hK:K.Nodup) (hL:L.Nodup) (sK:Snd rows K) (sL:Snd rows L) (cK:jr rows (·∈K)) (cL:jr rows (·∈L)):K.Perm L :=
 (List.perm_ext_iff_of_nodup hK hL).mpr fun x=>⟨fun h=>sK _ cL x h,fun h=>sL _ cK x h⟩
noncomputable def told (rows:List (W×List W)) (p:Nat):List W:=match rows[p]? with
 |some r=>r.2
 |none=>[]
theorem ic {p:Nat}{r:W×List W} (h:rows[p]?=some r):told rows p=r.2:=by unfold told;rw [h]
noncomputable def pF (K l:List W):Nat:=(l.filter fun x=>decide (x∉K)).length
noncomputable def cnt (rows:List (W×List W)) (K:List W) (p:Nat):Nat:=pF K (told rows p)
theorem rH {K l:List W}:pF K l=0↔∀ x∈l,x∈K:=by
 unfold pF
 rw [List.length_eq_zero_iff,List.filter_eq_nil_iff]
 constructor
 ·intro h x hx
  have:=h x hx
  simpa using this
 ·intro h x hx
  simpa using h x hx
theorem nI {K:List W}{w:W} (hw:w∉K):∀ {l:List W},l.Nodup→pF (K++[w]) l+(if w∈l then 1 else 0)=pF K l
 |[],_=>rfl
 |x::l,h=>by
  obtain ⟨h1,h2⟩:=List.nodup_cons.mp h
  have ih:=nI hw h2
  unfold pF at ih ⊢
  by_cases e:x=w
  ·subst e
   have a1:decide (x∉K++[x])≠true:=by simp
   have a2:decide (x∉K)=true:=decide_eq_true hw
   rw [List.filter_cons_of_neg (p:=fun y=>decide (y∉K++[x])) a1,List.filter_cons_of_pos (p:=fun y=>decide (y∉K)) a2,List.length_cons,if_pos (List.mem_cons_self ..)]
   rw [if_neg h1] at ih
   omega
  ·have e':w≠x:=fun z=>e z.symm
   have e1:(if w∈x::l then 1 else 0)=if w∈l then 1 else 0:=by simp [e']
   rw [e1]
   by_cases hx:x∈K
   ·have a1:decide (x∉K++[w])≠true:=by simp [hx]
    have a2:decide (x∉K)≠true:=by simp [hx]
    rw [List.filter_cons_of_neg (p:=fun y=>decide (y∉K++[w])) a1,List.filter_cons_of_neg (p:=fun y=>decide (y∉K)) a2]
    exact ih
   ·have a1:decide (x∉K++[w])=true:=by simp [hx,e]
    have a2:decide (x∉K)=true:=by simp [hx]
    rw [List.filter_cons_of_pos (p:=fun y=>decide (y∉K++[w])) a1,List.filter_cons_of_pos (p:=fun y=>decide (y∉K)) a2,List.length_cons,List.length_cons]
    omega
noncomputable def Once (rows:List (W×List W)):Prop:=∀ r∈rows,r.2.Nodup
theorem Once.told (h:Once rows) (p:Nat):(told rows p).Nodup:=by
 unfold Od.told
 split
 ·rename_i r e;exact h r (List.mem_of_getElem? e)
 ·exact .nil
theorem nJ {K:List W}{p:Nat}:cnt rows K p=0↔∀ x∈told rows p,x∈K:=rH
theorem lX (h:Once rows) {K:List W}{w:W} (hw:w∉K) (p:Nat):cnt rows (K++[w]) p+(if w∈told rows p then 1 else 0)=cnt rows K p:=nI hw (h.told p)
noncomputable def tel (rows:List (W×List W)) (n:Nat) (w:W):List Nat:=(List.range n).filter fun p=>decide (w∈told rows p)
theorem rJ (n:Nat) (w:W):(tel rows n w).Nodup:=List.Nodup.sublist List.filter_sublist List.nodup_range
theorem gk {n p:Nat}{w:W}:p∈tel rows n w↔p<n∧w∈told rows p:=by simp [tel]
noncomputable def ay (ps:List (W×Nat)) (w:W):List Nat:=(ps.filter fun p=>decide (p.1=w)).map (·.2)
theorem nK {n:Nat}{w:W}:∀ {l:List W},l.Nodup→ay (l.map fun x=>(x,n)) w=if w∈l then [n] else []
 |[],_=>rfl
 |x::l,h=>by
  obtain ⟨h1,h2⟩:=List.nodup_cons.mp h
  have ih:=nK (n:=n) (w:=w) h2
  unfold ay at ih ⊢
  rw [List.map_cons,List.filter_cons]
  by_cases e:x=w
  ·subst e
   rw [if_neg h1] at ih
   rw [if_pos (by simp),List.map_cons,ih,if_pos (by simp)]
  ·rw [if_neg (by simpa using e),ih]
   have e':w≠x:=fun z=>e z.symm
   simp [e']
theorem nL (a b:List (W×Nat)) (w:W):ay (a++b) w=ay a w++ay b w:=by simp [ay]
theorem rK (h:Once rows) {ps:List (W×Nat)}{n:Nat}{r:W×List W} (hr:rows[n]?=some r) (hp:∀ w,ay ps w=tel rows n w) (w:W):ay (ps++r.2.map fun x=>(x,n)) w=tel rows (n+1) w:=by
 rw [nL,hp w,nK (h r (List.mem_of_getElem? hr))]
 unfold tel
 rw [List.range_succ,List.filter_append]
 congr 1
 rw [List.filter_cons,List.filter_nil,ic hr]
 by_cases e:w∈r.2 <;> simp [e]
structure RI (rows:List (W×List W)) (K0 K:List W) (R:List Nat):Prop where
 rdy:∀ t∈R,t<rows.length∧cnt rows K t=0
 all:∀ t,t<rows.length→cnt rows K t=0→cnt rows K0 t=0∨t∈R
theorem RI.start (K:List W):RI rows K K []:=⟨by simp,fun t _ h=>.inl h⟩
theorem RI.step (h:Once rows) {K0 K:List W}{R:List Nat} (x:RI rows K0 K R) {w:W} (hw:w∉K):RI rows K0 (K++[w]) (R++(tel rows rows.length w).filter fun t=>decide (cnt rows K t=1)):=by
 refine ⟨fun t ht=>?_,fun t ht h0=>?_⟩
 ·have ha:=lX h hw t
  rcases List.mem_append.mp ht with ht|ht
  ·obtain ⟨q1,q2⟩:=x.rdy t ht
   exact ⟨q1,by omega⟩
  ·obtain ⟨q1,q2⟩:=List.mem_filter.mp ht
   obtain ⟨q3,q4⟩:=gk.mp q1
   rw [if_pos q4] at ha
   have:cnt rows K t=1:=by simpa using q2
   exact ⟨q3,by omega⟩
 ·have ha:=lX h hw t
  by_cases hm:w∈told rows t
  ·rw [if_pos hm] at ha
   exact .inr (List.mem_append.mpr (.inr (List.mem_filter.mpr ⟨gk.mpr ⟨ht,hm⟩,by simp;omega⟩)))
  ·rw [if_neg hm] at ha
   rcases x.all t ht (by omega) with z|z
   ·exact .inl z
   ·exact .inr (List.mem_append.mpr (.inl z))
structure NS (rows:List (W×List W)) (K:List W) (d:List Nat) (ps:List (W×Nat)):Prop where
 ok:∀ s∈ps,s.2∈d∧s.1∉K∧∃ r,rows[s.2]?=some r∧r.1=s.1
 once:(ps.map (·.1)).Nodup
 all:∀ p∈d,∀ r,rows[p]?=some r→r.1∈K∨r.1∈ps.map (·.1)
theorem NS.start (K:List W):NS rows K [] []:=⟨by simp,by simp,by simp⟩
theorem NS.skip {K:List W}{d:List Nat}{ps:List (W×Nat)} (x:NS rows K d ps) {p:Nat}{r:W×List W} (hr:rows[p]?=some r) (h:r.1∈K∨r.1∈ps.map (·.1)):NS rows K (d++[p]) ps :=
 ⟨fun s hs=>let ⟨a,b,c⟩:=x.ok s hs;⟨by simp [a],b,c⟩,x.once,fun q hq r' hr'=>by
  rcases List.mem_append.mp hq with hq|hq
  ·exact x.all q hq r' hr'
  ·have:q=p:=by simpa using hq
   subst this
   rw [hr] at hr';cases hr'
   exact h⟩
theorem NS.take {K:List W}{d:List Nat}{ps:List (W×Nat)} (x:NS rows K d ps) {p:Nat}{r:W×List W} (hr:rows[p]?=some r) (h1:r.1∉K) (h2:r.1∉ps.map (·.1)):NS rows K (d++[p]) (ps++[(r.1,p)]):=by
 refine ⟨fun s hs=>?_,?_,fun q hq r' hr'=>?_⟩
 ·rcases List.mem_append.mp hs with hs|hs
  ·obtain ⟨a,b,c⟩:=x.ok s hs
   exact ⟨by simp [a],b,c⟩
  ·have:s=(r.1,p):=by simpa using hs
   subst this
   exact ⟨by simp,h1,r,hr,rfl⟩
 ·rw [List.map_append,List.nodup_append]
  refine ⟨x.once,by simp,fun a ha b hb e=>?_⟩
  have:b=r.1:=by simpa using hb
  subst this
  exact h2 (e ▸ ha)
 ·rcases List.mem_append.mp hq with hq|hq
  ·rcases x.all q hq r' hr' with z|z
   ·exact .inl z
   ·exact .inr (by simp only [List.map_append,List.mem_append];exact .inl z)
  ·have:q=p:=by simpa using hq
   subst this
   rw [hr] at hr';cases hr'
   exact .inr (by simp)
theorem NS.perm {K:List W}{d:List Nat}{ps qs:List (W×Nat)} (x:NS rows K d ps) (h:qs.Perm ps):NS rows K d qs :=
 ⟨fun s hs=>x.ok s (h.mem_iff.mp hs),(h.map _).nodup_iff.mpr x.once,fun p hp r hr=>(x.all p hp r hr).imp id fun z=>(h.map _).mem_iff.mpr z⟩
noncomputable def vS (rows:List (W×List W)):List W→List (W×Nat)→Prop
 |_,[]=>True
 |K,s::ss=>(s.1∉K∧∃ r,rows[s.2]?=some r∧r.1=s.1∧∀ x∈r.2,x∈K)∧vS rows (K++[s.1]) ss
theorem uw:∀ {a b:List (W×Nat)}{K:List W},vS rows K a→vS rows (K++a.map (·.1)) b→vS rows K (a++b)
 |[],b,K,_,h=>by simpa using h
 |s::a,b,K,h1,h2=>⟨h1.1,uw h1.2 (by simpa using h2)⟩
theorem uA:∀ {ss:List (W×Nat)}{K:List W},(∀ s∈ss,s.1∉K∧∃ r,rows[s.2]?=some r∧r.1=s.1∧∀ x∈r.2,x∈K)→(ss.map (·.1)).Nodup→vS rows K ss
 |[],K,_,_=>trivial
 |s::ss,K,h,hn=>by
  have hn':s.1∉ss.map (·.1)∧(ss.map (·.1)).Nodup:=by
   rw [List.map_cons] at hn
   exact List.nodup_cons.mp hn
  refine ⟨h s (by simp),uA (fun t ht=>?_) hn'.2⟩
  obtain ⟨q1,r,q2,q3,q4⟩:=h t (by simp [ht])
  refine ⟨fun z=>?_,r,q2,q3,fun x hx=>by simp [q4 x hx]⟩
  rcases List.mem_append.mp z with z|z
  ·exact q1 z
  ·have:t.1=s.1:=by simpa using z
   exact hn'.1 (this ▸ List.mem_map.mpr ⟨t,ht,rfl⟩)
theorem gm:∀ {ss:List (W×Nat)}{K:List W},vS rows K ss→K.Nodup→(K++ss.map (·.1)).Nodup
 |[],K,_,h=>by simpa using h
 |s::ss,K,h,hn=>by
  have:(K++[s.1]).Nodup:=by
   rw [List.nodup_append]
   refine ⟨hn,by simp,fun a ha b hb e=>?_⟩
   have:b=s.1:=by simpa using hb
   subst this
   exact h.1.1 (e ▸ ha)
  have:=gm h.2 this
  simpa using this
theorem uB:∀ {ss:List (W×Nat)}{K:List W},vS rows K ss→Snd rows K→Snd rows (K++ss.map (·.1))
 |[],K,_,h=>by simpa using h
 |s::ss,K,h,hn=>by
  have h1:Snd rows (K++[s.1]):=fun C hC x hx=>by
   rcases List.mem_append.mp hx with hx|hx
   ·exact hn C hC x hx
   ·have:x=s.1:=by simpa using hx
    subst this
    obtain ⟨_,r,q1,q2,q3⟩:=h.1
    rw [←q2]
    exact hC r (List.mem_of_getElem? q1) fun y hy=>hn C hC y (q3 y hy)
  have:=uB h.2 h1
  simpa using this
theorem gn:∀ {ss:List (W×Nat)}{K:List W},vS rows K ss→∀ x∈ss.map (·.1),x∈rows.map (·.1)
 |[],K,_,x,hx=>by simp at hx
 |s::ss,K,h,x,hx=>by
  rw [List.map_cons] at hx
  rcases List.mem_cons.mp hx with rfl|hx
  ·obtain ⟨_,r,q1,q2,q3⟩:=h.1
   exact List.mem_map.mpr ⟨r,List.mem_of_getElem? q1,q2⟩
  ·exact gn h.2 x hx
structure LI (rows:List (W×List W)) (sts:List (W×Nat)) (R:List Nat):Prop where
 ok:vS rows [] sts
 rdy:∀ t∈R,t<rows.length∧cnt rows (sts.map (·.1)) t=0
 all:∀ t r,rows[t]?=some r→cnt rows (sts.map (·.1)) t=0→t∈R∨r.1∈sts.map (·.1)
theorem LI.step {sts st:List (W×Nat)}{R R':List Nat} (x:LI rows sts R) (n:NS rows (sts.map (·.1)) R st) (y:RI rows (sts.map (·.1)) (sts.map (·.1)++st.map (·.1)) R'):LI rows (sts++st) R':=by
 have em:(sts++st).map (·.1)=sts.map (·.1)++st.map (·.1):=List.map_append
 refine ⟨uw x.ok (uA (fun s hs=>?_) n.once),fun t ht=>by rw [em];exact y.rdy t ht,fun t r hr h0=>?_⟩
 ·obtain ⟨q1,q2,r,q3,q4⟩:=n.ok s hs
  have hz:=(x.rdy _ q1).2
  rw [nJ,ic q3] at hz
  exact ⟨by simpa using q2,r,q3,q4,by simpa using hz⟩
 ·rw [em] at h0 ⊢
  rcases y.all t (List.getElem?_eq_some_iff.mp hr).1 h0 with z|z
  ·rcases x.all t r hr z with z|z
   ·rcases n.all t z r hr with z|z
    ·exact .inr (List.mem_append.mpr (.inl z))
    ·exact .inr (List.mem_append.mpr (.inr z))
   ·exact .inr (List.mem_append.mpr (.inl z))
  ·exact .inl z
theorem LI.closed {sts:List (W×Nat)} (x:LI rows sts []):jr rows (·∈sts.map (·.1)):=fun r hr h=>by
 obtain ⟨t,ht⟩:=List.mem_iff_getElem?.mp hr
 rcases x.all t r ht (by rw [nJ,ic ht];exact h) with z|z
 ·cases z
 ·exact z
structure RO (rows:List (W×List W)) (K F:List W):Prop where
 k1:K.Nodup
 f1:F.Nodup
 dis:∀ x∈F,x∉K
 snd:Snd rows K
 frm:∀ w∈F,∃ r∈rows,r.1=w∧∀ x∈r.2,x∈K
 all:∀ r∈rows,(∀ x∈r.2,x∈K)→r.1∈K∨r.1∈F
 wds:∀ x∈K,x∈rows.map (·.1)
theorem RO.start {F:List W} (h1:F.Nodup) (h2:∀ x,x∈F↔∃ r∈rows,r.1=x∧r.2=[]):RO rows [] F :=
 ⟨.nil,h1,by simp,fun C hC x hx=>by simp at hx,fun w hw=>by
  obtain ⟨r,a,b,c⟩:=(h2 w).mp hw
  exact ⟨r,a,b,by simp [c]⟩,fun r hr h=>.inr ((h2 r.1).mpr ⟨r,hr,rfl,by
   cases e:r.2 with
   |nil=>rfl
   |cons a l=>have:=h a (by simp [e]);simp at this⟩),by simp⟩
theorem RO.kf {K F:List W} (x:RO rows K F):(K++F).Nodup∧(∀ w∈K++F,w∈rows.map (·.1)):=by
 refine ⟨?_,fun w hw=>?_⟩
 ·rw [List.nodup_append]
  exact ⟨x.k1,x.f1,fun a ha b hb e=>x.dis b hb (e ▸ ha)⟩
 ·rcases List.mem_append.mp hw with hw|hw
  ·exact x.wds w hw
  ·obtain ⟨r,a,b,_⟩:=x.frm w hw
   exact List.mem_map.mpr ⟨r,a,b⟩
theorem RO.step {K F F':List W} (x:RO rows K F) (h1:F'.Nodup) (h2:∀ w,w∈F'↔∃ r∈rows,r.1=w∧r.1∉K++F∧∀ y∈r.2,y∈K++F):RO rows (K++F) F':=by
 refine ⟨x.kf.1,h1,fun w hw=>?_,fun C hC w hw=>?_,fun w hw=>?_,fun r hr h=>?_,x.kf.2⟩
 ·obtain ⟨r,a,b,c,d⟩:=(h2 w).mp hw
  exact b ▸ c
 ·rcases List.mem_append.mp hw with hw|hw
  ·exact x.snd C hC w hw
  ·obtain ⟨r,a,b,c⟩:=x.frm w hw
   exact b ▸ hC r a fun y hy=>x.snd C hC y (c y hy)
 ·obtain ⟨r,a,b,c,d⟩:=(h2 w).mp hw
  exact ⟨r,a,b,d⟩
 ·by_cases hk:r.1∈K++F
  ·exact .inl hk
  ·exact .inr ((h2 _).mpr ⟨r,hr,rfl,hk,h⟩)
theorem RO.closed {K:List W} (x:RO rows K []):jr rows (·∈K):=fun r hr h=>(x.all r hr h).elim id fun z=>by cases z
theorem js {K L:List W} (h:K.Nodup) (s:∀ x∈K,x∈L):K.length≤L.length:=by
 induction K generalizing L with
 |nil=>simp
 |cons a K ih =>
  obtain ⟨h1,h2⟩:=List.nodup_cons.mp h
  have ha:a∈L:=s a (by simp)
  have:=ih (L:=L.erase a) h2 fun x hx=>by
   have hne:x≠a:=fun e=>h1 (e ▸ hx)
   exact (List.mem_erase_of_ne hne).mpr (s x (by simp [hx]))
  rw [List.length_erase_of_mem ha] at this
  have:0<L.length:=List.length_pos_of_mem ha
  rw [List.length_cons]
  omega
end
end Od
namespace TM
open PySem L2 W01
section
variable {Γ : Tab} {st st1 st2 st3 st4 st5 : ag}
theorem xj {j:Nat}{u u0:U} (h:st[j]?=some (some (.own,u))):Run (lift (.bor j,u0)) st u (st.set j (some (.loc,u))):=by
 show (match st[j]? with|some (some (.own,u))=>some (Ex.ok u,st.set j (some (.loc,u)))|_=>none)=_
 rw [h]
theorem xk {c:M Bool}{body:M Fl}{n:Nat} (h:Run c st false st1):Run (fj c body (n+1)) st .nx st1:=aa h aJ
theorem y6 {c:M Bool}{body:M Fl}{n:Nat}{f:Fl} (h:Run c st true st1) (h2:Run body st1 .nx st2) (h3:Run (fj c body n) st2 f st3):Run (fj c body (n+1)) st f st3:=aa h (aa h2 h3)
theorem xl {c:E}{body ss:List S}{f:Fl} (h:Run (fj (tst Γ c) (execs Γ body) fuel) st .nx st1) (h2:Run (execs Γ ss) st1 f st2):Run (execs Γ (.whl c body::ss)) st f st2:=dW h h2
theorem kB {i j:Nat}{k:Kd}{a b:U} (hk:k=.loc∨k=.any):Run (cE true [i,j] (k,.tup [a,b])) st () ((st.set i (some (k,a))).set j (some (k,b))):=by
 rcases hk with rfl|rfl <;> rfl
theorem y7 {i:Nat}{ss:List S}{f:Fl} (h:Run (execs Γ ss) (st.set i (some (.ownD,.dic [] []))) f st1):Run (execs Γ (.newD i::ss)) st f st1:=dW (aa (a:=()) (st1:=st.set i (some (.ownD,.dic [] []))) rfl aJ) h
theorem lY {i:Nat}{ks:List Str}{us:List U} (h:st[i]?=some (some (.ownD,.dic ks us))):Run (eO i) st (ks,us) st:=by
 show eO i st=_
 unfold eO
 rw [h]
theorem pG {k:Kd}{y:Str}:Run (fS (k,.str y)) st y st:=rfl
theorem wD {i:Nat}{y:Str}{ks:List Str}{us xs:List U} (h2:st[i]?=some (some (.ownD,.dic ks us))) (h4:y∉ks) (h5:ks.length<sizeLine):Run (iV i y (.own,.lst xs)) st () (st.set i (some (.ownD,.dic (ks++[y]) (us++[.lst xs])))):=by
 show iV i y (.own,.lst xs) st=_
 unfold iV
 dsimp only
 rw [h2]
 dsimp only
 rw [if_pos ⟨h4,h5⟩]
theorem wF {i:Nat}{y:Str}{u:U}{ks:List Str}{us xs:List U} (h0:st[i]?=some (some (.ownD,.dic ks us))) (h5:cN ks us y=some (.lst xs)) (h6:xs.length<sizeLine):Run (iW i y u) st () (st.set i (some (.ownD,.dic ks (hV ks us y (.lst (xs++[u])))))):=by
 show iW i y u st=_
 unfold iW
 rw [h0]
 dsimp only
 rw [h5]
 dsimp only
 rw [if_pos h6]
theorem Ay {neg:Bool}{a:E}{i:Nat}{k:Kd}{y:Str}{ks:List Str}{us:List U} (h1:Run (ev Γ a) st (k,.str y) st1) (h2:st1[i]?=some (some (.ownD,.dic ks us))):Run (tst Γ (.inD neg a i)) st (inB neg y ks) st1 :=
 aa h1 (aa pG (aa (lY h2) aJ))
theorem y8 {i:Nat}{ke ve:E}{k:Kd}{y:Str}{ks:List Str}{us xs:List U}{ss:List S}{f:Fl} (h1:Run (ev Γ ve) st (.own,.lst xs) st1) (h2:st1[i]?=some (some (.ownD,.dic ks us))) (h3:Run (ev Γ ke) st1 (k,.str y) st1) (h4:y∉ks) (h5:ks.length<sizeLine)
  (h6:Run (execs Γ ss) (st1.set i (some (.ownD,.dic (ks++[y]) (us++[.lst xs])))) f st3):Run (execs Γ (.putD i ke ve::ss)) st f st3:=by
 refine dW ?_ h6
 exact aa h1 (aa (lY h2) (aa h3 (aa pG (aa (wD h2 h4 h5) aJ))))
theorem y9 {i:Nat}{ke ve:E}{k:Kd}{y:Str}{ks:List Str}{us xs:List U}{r:Kd×U}{u:U}{ss:List S}{f:Fl} (h0:st[i]?=some (some (.ownD,.dic ks us))) (h1:Run (ev Γ ke) st (k,.str y) st) (h2:y∈ks) (h3:Run (ev Γ ve) st r st) (h4:Run (lift r) st u st) (h5:cN ks us y=some (.lst xs)) (h6:xs.length<sizeLine)
  (h7:Run (execs Γ ss) (st.set i (some (.ownD,.dic ks (hV ks us y (.lst (xs++[u])))))) f st3):Run (execs Γ (.appD i ke ve::ss)) st f st3:=by
 refine dW ?_ h7
 refine aa (lY h0) (aa h1 (aa pG (aa (lY h0) ?_)))
 rw [if_pos h2]
 exact aa h3 (aa h4 (aa (wF h0 h5 h6) aJ))
theorem Az {i:Nat}{u:U} (h:st[i]?=some (some (.ownD,u))):Run (ev Γ (.pub i)) st (.bor i,u) (st.set i (some (.own,u))):=by
 show sV i st=_
 unfold sV
 rw [h]
theorem y_ {i:Nat}{a b:E}{k:Kd}{y:Str}{ks:List Str}{us:List U}{z:Kd×U}{u:U}{r:Kd×U} (h0:st[i]?=some (some (.own,.dic ks us))) (h1:Run (ev Γ a) st (k,.str y) st) (h2:Run (ev Γ b) st z st) (h3:Run (lift z) st u st) (h4:(match cN ks us y with|some v=>(Kd.loc,v)|none=>(.loc,u))=r) :
  Run (ev Γ (.get2 i a b)) st r st:=by
 refine aa (gf h0) (aa (a:=()) (st1:=st) rfl (aa h1 (aa (a:=y) (st1:=st) rfl (aa h2 (aa h3 (aa (gf h0) (cP ?_)))))))
 subst h4
 rfl
theorem AA {i:Nat}{ke ve:E}{us:List U}{k1 k2:Kd}{j:Nat}{o w:Int}{ss:List S}{f:Fl} (h0:st[i]?=some (some (.own,.lst us))) (h1:Run (ev Γ ke) st (k1,.int (j:Nat)) st) (h2:us[j]?=some (.int o)) (h3:Run (ev Γ ve) st (k2,.int w) st)
  (h4:Run (execs Γ ss) (st.set i (some (.own,.lst (us.set j (.int (o - w)))))) f st3):Run (execs Γ (.aug true i ke ve::ss)) st f st3:=by
 have hl:m3 i st=some (.ok us,st):=by unfold m3;rw [h0];rfl
 have hj:j<us.length:=(List.getElem?_eq_some_iff.mp h2).1
 have hi:m4 us (j:Nat)=some o:=by
  unfold m4
  rw [if_pos (by omega),Int.toNat_natCast,h2]
 have hx:ixN us.length (j:Nat)=some j:=by
  unfold ixN
  rw [if_pos (by omega)]
  first|(rw [if_pos (by omega)];simp)|simp [hj]
 refine dW (aa (a:=us) (st1:=st) hl (aa h1 (aa (a:=(j:Int)) (st1:=st) rfl (aa (a:=us) (st1:=st) hl (aa (cP hi) (aa h3 (aa (a:=w) (st1:=st) rfl (aa (a:=()) (st1:=st.set i (some (.own,.lst (us.set j (.int (o - w)))))) ?_ aJ)))))))) h4
 show modS i (cZ (.int (j:Nat)) (.int (rh true o w))) st=_
 unfold modS
 rw [h0]
 simp only [Kd.root,if_true,cZ]
 rw [hx]
 rfl
theorem AB {i:Nat}{us:List U}{ss:List S}{f:Fl} (h0:st[i]?=some (some (.own,.lst us))) (h1:Run (execs Γ ss) (st.set i (some (.own,.lst us.reverse))) f st3):Run (execs Γ (.rvs i::ss)) st f st3:=by
 refine dW (aa (a:=()) (st1:=st.set i (some (.own,.lst us.reverse))) ?_ aJ) h1
 show modS i vE st=_
 unfold modS
 rw [h0]
 rfl
theorem AD {i:Nat}{u:U}{r:Kd×U} (h0:st[i]?=some (some (.own,u))) (h1:sU u=some r):Run (ev Γ (.sit i)) st r st:=aa (gf h0) (cP h1)
theorem za {is:List Nat}{e:E}{ss:List S}{r:Kd×U}{f:Fl} (h1:Run (ev Γ e) st r st1) (h2:Run (cE true is r) st1 () st2) (h3:Run (execs Γ ss) st2 f st3):Run (execs Γ (.setT is e::ss)) st f st3:=dW (aa h1 (aa h2 aJ)) h3
end
theorem jt (f:Str→U) (y:Str):∀ ks:List Str,cN ks (ks.map f) y=if y∈ks then some (f y) else none
 |[]=>rfl
 |k::ks=>by
  rw [List.map_cons]
  show (if k=y then some (f k) else cN ks (ks.map f) y)=_
  by_cases e:k=y
  ·subst e
   rw [if_pos rfl,if_pos (by simp)]
  ·rw [if_neg e,jt f y ks]
   have:(y∈k::ks)↔y∈ks:=by simp [Ne.symm e]
   by_cases h:y∈ks
   ·rw [if_pos h,if_pos (this.mpr h)]
   ·rw [if_neg h,if_neg fun z=>h (this.mp z)]
theorem nM (f:Str→U) (y:Str) (u:U):∀ ks:List Str,ks.Nodup→hV ks (ks.map f) y u=ks.map fun k=>if k=y then u else f k
 |[],_=>rfl
 |k::ks,h=>by
  obtain ⟨h1,h2⟩:=List.nodup_cons.mp h
  rw [List.map_cons,List.map_cons]
  show (if k=y then u::ks.map f else f k::hV ks (ks.map f) y u)=_
  by_cases e:k=y
  ·subst e
   rw [if_pos rfl,if_pos rfl]
   congr 1
   refine List.map_congr_left fun z hz=>?_
   have hzk:z≠k:=fun q=>h1 (by rw [←q];exact hz)
   rw [if_neg hzk]
  ·rw [if_neg e,if_neg e,nM f y u ks h2]
noncomputable def stN (s:Str×Nat):U:=.tup [.str s.1,.int (s.2:Nat)]
theorem kC {α:Type} (f:α→Int):∀ (ns:List α),intsOf (ns.map fun a=>U.int (f a))=some (ns.map f)
 |[]=>rfl
 |n::ns=>by show (intsOf (ns.map fun a=>U.int (f a))).map _=_;rw [kC f ns];rfl
theorem wG {ps:List (Str×Nat)} (h:ps.length<64) (hn:(ps.map (·.1)).Nodup):∃ qs:List (Str×Nat),qs.Perm ps∧sU (.dic (ps.map (·.1)) (ps.map fun p=>.int (p.2:Nat)))=some (.own,.lst (qs.map stN)):=by
 have hi:=kC (fun p:Str×Nat=>((p.2:Nat):Int)) ps
 have hz:(ps.map (·.1)).zip (ps.map fun p:Str×Nat=>((p.2:Nat):Int))=ps.map fun p=>(p.1,((p.2:Nat):Int)):=by
  rw [List.zip_map']
 let P:=gZ ((ps.map fun p=>(p.1,((p.2:Nat):Int))).map (·.1))
 have hP:P.Perm (List.range ps.length):=by
  have:=eG ((ps.map fun p=>(p.1,((p.2:Nat):Int))).map (·.1))
  simpa [P] using this
 refine ⟨P.map fun i=>ps.getD i (Str.empty,0),?_,?_⟩
 ·refine (hP.map _).trans ?_
  have:(List.range ps.length).map (fun i=>ps.getD i (Str.empty,0))=ps:=by
   apply List.ext_getElem
   ·simp
   ·intro i h1 h2
    simp [List.getD,h2]
  rw [this]
 ·show (intsOf (ps.map fun p=>U.int (p.2:Nat))).bind _=_
  rw [hi]
  show (if (ps.map (·.1)).length<64∧(ps.map (·.1)).Nodup∧(ps.map (·.1)).length=(ps.map fun p:Str×Nat=>((p.2:Nat):Int)).length then _ else _)=_
  rw [if_pos ⟨by simpa using h,hn,by simp⟩,hz]
  congr 3
  show (vC _).map rf=_
  show (P.map fun i=>(ps.map fun p=>(p.1,((p.2:Nat):Int))).getD i (Str.empty,0)).map rf=_
  rw [List.map_map,List.map_map]
  refine List.map_congr_left fun i hi'=>?_
  have hlt:i<ps.length:=List.mem_range.mp (hP.mem_iff.mp hi')
  simp [List.getD,hlt,rf,stN]
theorem AE {i j:Int}{c:Bool} (h:decide (j≤i)=c):bh .ge (.int i) (.int j)=some c:=by subst h;rfl
theorem zb {x:Str}{ks:List Str}{vs:List U}:bh .isin (.str x) (.dic ks vs)=some (decide (x∈ks)):=rfl
theorem gC {x:Str}{ks:List Str}{vs:List U}:bh .notin (.str x) (.dic ks vs)=some (!decide (x∈ks)):=rfl
theorem xm {x:Str}{ss:List Str}:bh .isin (.str x) (.lst (ss.map U.str))=some (decide (x∈ss)):=by
 have h:=@jn x ss
 have e:bh .notin (.str x) (.lst (ss.map U.str))=(bh .isin (.str x) (.lst (ss.map U.str))).map (!·):=rfl
 rw [e,Option.map_eq_some_iff] at h
 obtain ⟨b,h1,h2⟩:=h
 rw [h1]
 congr 1
 cases b <;> simp_all
theorem zc {a b:Str}:bh .ne (.str a) (.str b)=some (!decide (a=b)):=by
 have:bh .ne (.str a) (.str b)=(bh .eq (.str a) (.str b)).map (!·):=by
  simp only [bh]
  rw [if_pos ⟨rfl,rfl⟩,if_pos ⟨rfl,rfl⟩]
  rfl
 rw [this,wB]
 rfl
theorem wH {k:Kd} (bs:List Bool):biU .all [(k,.lst (bs.map .bl))]=some (.loc,.bl (bs.all id)):=by
 show (iT (bs.map U.bl)).map _=_
 have:∀ bs:List Bool,iT (bs.map U.bl)=some bs:=fun bs=>by
  induction bs with
  |nil=>rfl
  |cons b bs ih=>show (iT (bs.map U.bl)).map _=_;rw [ih];rfl
 rw [this]
 rfl
mutual
theorem kD:∀ (n:Nat) (u:U),eqD n u=true→aV u u=true
 |_,.non,_=>rfl
 |_,.bl b,_=>by simp [aV]
 |_,.int i,_=>by simp [aV]
 |_,.str x,_=>by simp [aV]
 |0,.tup xs,h=>by simp [eqD] at h
 |0,.lst xs,h=>by simp [eqD] at h
 |n+1,.tup xs,h=>by rw [aV];exact fm n xs (by simpa [eqD] using h)
 |n+1,.lst xs,h=>by rw [aV];exact fm n xs (by simpa [eqD] using h)
 |_,.dic _ _,h=>by simp [eqD] at h
 |_,.rdc _,h=>by simp [eqD] at h
theorem fm:∀ (n:Nat) (us:List U),bM n us=true→bQ us us=true
 |_,[],_=>rfl
 |n,u::us,h=>by
  have h':eqD n u=true∧bM n us=true:=by simpa [bM] using h
  rw [bQ,kD n u h'.1,fm n us h'.2]
  rfl
end
theorem rL {u:U} (h:eqD 50 u=true):bh .ne u u=some false:=by
 simp only [bh]
 rw [if_pos ⟨h,h⟩,kD 50 u h]
 rfl
section
variable {Γ : Tab}
theorem kF {st:ag}{src:E}{j:Nat}{told known:List Str}{k:Kd}{w:U} (hk:k=.loc∨k=.any) (hl:told.length≤1000) (hs:Run (ev Γ src) st (.loc,.tup (told.map .str)) st) (hj:st[j]?=some (some (k,w))∨st[j]?=some (some (.own,w))) (hw:∀ x:Str,bh .isin (.str x) w=some (decide (x∈known))) :
  Run (ev Γ (.bi .all [(.comp 1 false .seq [src] [] (.cmp .isin (.var 0) (.var (j+1))))])) st (.loc,.bl (told.all fun x=>decide (x∈known))) st:=by
 have hsz:(1000:Nat)≤sizeLine:=by decide
 have hx:=lV (cond:=aS Γ []) (elt:=ev Γ (.cmp .isin (.var 0) (.var (j+1)))) (src:=[(.loc,.tup (told.map .str))]) (st:=st) trivial .loc (.inl rfl) U.str (fun x=>.bl (decide (x∈known))) .loc (fun _=>nu) told [] (by simp;omega)
  (fun y _=>⟨by
   rcases hj with hj|hj
   ·rcases hk with rfl|rfl
    ·exact nh (ak rfl) (ak (by simpa using hj)) trivial (hw y)
    ·exact nh (ak rfl) (aK (by simpa using hj)) trivial (hw y)
   ·exact nh (ak rfl) (aL (by simpa using hj)) ⟨⟨.own,rfl,by simpa using hj⟩,trivial⟩ (hw y),bC⟩)
 rw [List.nil_append] at hx
 have e:(told.map U.str).map (fun u=>(kE .loc,u))=told.map fun r=>(Kd.loc,U.str r):=by rw [List.map_map];rfl
 have e2:(told.map fun x=>U.bl (decide (x∈known)))=(told.map fun x=>decide (x∈known)).map U.bl:=by rw [List.map_map];rfl
 rw [e2] at hx
 have e3:(told.all fun x=>decide (x∈known))=((told.map fun x=>decide (x∈known)).all id):=by rw [List.all_map];rfl
 rw [e3]
 exact ji (ar (ei (rs:=[(.loc,.tup (told.map .str))]) (ar hs aw) trivial (by show some _=_;rw [e]) hx) aw) trivial (wH _)
end
theorem lZ {ks:List Str}{us:List U}{x:Str}{u:U} (h:ks.length<1000) (hx:x∉ks):cZ (.str x) u (.dic ks us)=some (.dic (ks++[x]) (us++[u])):=by
 rw [wC h]
 unfold dput
 rw [if_neg hx]
theorem nN {us:List U} (h:eqD 50 (.lst us)=true):bh .ne (.lst us) (.lst [])=some (!us.isEmpty):=by
 simp only [bh]
 rw [if_pos ⟨h,by simp [eqD,bM]⟩]
 cases us with
 |nil=>simp [aV,bQ]
 |cons u us=>simp [aV,bQ]
theorem kG {α:Type} (f:α→Int):∀ (l:List α) (n:Nat),bM n (l.map fun a=>U.int (f a))=true
 |[],n=>by simp [bM]
 |a::l,n=>by rw [List.map_cons,bM,kG f l n];simp [eqD]
theorem nO:∀ (ss:List (Str×Nat)) (n:Nat),bM (n+1) (ss.map stN)=true
 |[],n=>by simp [bM]
 |s::ss,n=>by rw [List.map_cons,bM,nO ss n];simp [stN,eqD,bM]
theorem wI {ss:List Str}:bh .eq (.tup (ss.map U.str)) (.tup [])=some (decide (ss=[])):=by
 simp only [bh]
 rw [if_pos ⟨by simp [eqD,eM],by simp [eqD,bM]⟩]
 cases ss with
 |nil=>simp [aV,bQ]
 |cons x ss=>simp [aV,bQ]
theorem l_ {α:Type}{st:ag}{cond:M Bool}{elt:M (Kd×U)}{src:List (Kd×U)} (h:bj src st) (a b g:α→U) (p:α→Bool):∀ (ys:List α) (acc:List U),acc.length+ys.length≤sizeLine →
  (∀ y∈ys,Run cond (some (.loc,a y)::some (.loc,b y)::st) (p y) (some (.loc,a y)::some (.loc,b y)::st)∧Run elt (some (.loc,a y)::some (.loc,b y)::st) (.loc,g y) (some (.loc,a y)::some (.loc,b y)::st)) →
  Run (bB 2 true cond elt src (ys.map fun y=>(Kd.loc,U.tup [a y,b y])) acc) st (acc++(ys.filter p).map g) st
 |[],acc,_,_=>by rw [List.map_nil,List.filter_nil,List.map_nil,List.append_nil];exact qv h
 |y::ys,acc,hl,hx=>by
  obtain ⟨h1,h2⟩:=hx y (by simp)
  rw [List.length_cons] at hl
  have ht:Run (cE true (List.range 2) (.loc,.tup [a y,b y])) (List.replicate 2 none++st) () (some (.loc,a y)::some (.loc,b y)::st):=kB (.inl rfl)
  cases hp:p y with
  |true =>
   rw [hp] at h1
   refine lP (s1:=some (.loc,a y)::some (.loc,b y)::st) (s2:=some (.loc,a y)::some (.loc,b y)::st) (s3:=some (.loc,a y)::some (.loc,b y)::st) (s4:=some (.loc,a y)::some (.loc,b y)::st) h ht h1 h2 bC (by omega) ?_
   have:=l_ h a b g p ys (acc++[g y]) (by simp;omega) fun z hz=>hx z (by simp [hz])
   rw [List.filter_cons,if_pos hp,List.map_cons]
   simpa using this
  |false =>
   rw [hp] at h1
   refine tZ (s1:=some (.loc,a y)::some (.loc,b y)::st) (s2:=some (.loc,a y)::some (.loc,b y)::st) h ht h1 ?_
   have:=l_ h a b g p ys acc (by omega) fun z hz=>hx z (by simp [hz])
   rw [List.filter_cons,if_neg (by simp [hp])]
   exact this
theorem set_range {α:Type} (n:Nat) (f:Nat→α) (t:Nat) (v:α):((List.range n).map f).set t v=(List.range n).map fun p=>if p=t then v else f p:=by
 apply List.ext_getElem
 ·simp
 ·intro i h1 h2
  simp only [List.getElem_set,List.getElem_map,List.getElem_range]
  by_cases e:t=i
  ·subst e;simp
  ·rw [if_neg e,if_neg (Ne.symm e)]
theorem qC {rows:List Row}{t:Nat}{r:Row} (h:rows[t]?=some r):atI (rows.map rwU) (t:Int)=some (rwU r):=cq (by simp [h])
end TM
namespace K
open PySem L2 TM
noncomputable def top (i:Nat):Stmt:=PySem.Challenge.pw_primer_k12_an_order.main.body.getD i (.Pass ⟨0,0,0,0⟩)
noncomputable def cS : Fn := ⟨"gathered", 1, 4,
   [.newD 1,
    .for_ true [2, 3] .seq [(.var 0)]
      [.ite (.inD true (.var 2) 1)
        [.putD 1 (.var 2) (.lst [])]
        [],
      .appD 1 (.var 2) (.var 3)],
    .ret (.pub 1)]⟩
noncomputable def aW : Fn := ⟨"places_that_tell", 1, 4,
   [.set 1 (.lst []),
    .for_ true [2, 3] .enm [(.var 0)]
      [.ext 1 (.comp 1 false .seq [(.idx (.var 3) (.cst (.int 1)))] [] (.tup [(.var 0), (.var 3)]))],
    .ret (.call "gathered" [(.var 1)])]⟩
noncomputable def cz : Fn := ⟨"new_steps", 3, 6,
   [.set 3 (.dnew false),
    .for_ false [4] .seq [(.var 1)]
      [.set 5 (.idx (.idx (.var 0) (.var 4)) (.cst (.int 0))),
      .ite (.and [(.cmp .notin (.var 5) (.var 2)), (.cmp .notin (.var 5) (.var 3))])
        [.put 3 (.var 5) (.var 4)]
        []],
    .ret (.sit 3)]⟩
noncomputable def bf : Fn := ⟨"steps_in_rounds", 1, 10,
   [.set 1 (.call "places_that_tell" [(.var 0)]),
    .set 2 (.comp 1 false .seq [(.var 0)] [] (.bi .len [(.idx (.var 0) (.cst (.int 1)))])),
    .set 3 (.dnew false),
    .set 4 (.lst []),
    .set 5 (.comp 2 true .enm [(.var 2)] [(.cmp .eq (.var 1) (.cst (.int 0)))] (.var 0)),
    .whl (.cmp .ne (.var 5) (.lst []))
      [.set 6 (.call "new_steps" [(.var 0), (.var 5), (.var 3)]),
      .set 5 (.lst []),
      .for_ true [7, 8] .seq [(.var 6)]
        [.put 3 (.var 7) (.cst (.bl true)),
        .for_ false [9] .seq [(.get2 1 (.var 7) (.lst []))]
          [.aug true 2 (.var 9) (.cst (.int 1)),
          .ite (.cmp .eq (.idx (.var 2) (.var 9)) (.cst (.int 0)))
            [.app 5 (.var 9)]
            []]],
      .ite (.cmp .ne (.var 6) (.lst []))
        [.app 4 (.var 6)]
        []],
    .ret (.var 4)]⟩
noncomputable def eN : Fn := ⟨"order", 1, 3,
   [.set 1 (.lst []),
    .for_ false [2] .seq [(.call "steps_in_rounds" [(.var 0)])]
      [.ext 1 (.var 2)],
    .ret (.var 1)]⟩
noncomputable def gD:Fn:=TM.rC
noncomputable def fo:Fn:=TM.qx
noncomputable def eu:Fn:=TM.lR
noncomputable def fq : Fn := ⟨"_law_name", 2, 6,
   [.set 2 (.cst (.str "abcdefghijklmnopqrstuvwxyz")),
    .set 3 (.mth .join (.cst (.str "")) [(.comp 1 false .rng1 [(.bin .add (.cst (.int 1)) (.bin .mod (.idx (.var 0) (.cst (.int 0))) (.cst (.int 8))))] [] (.idx (.var 3) (.bin .mod (.idx (.var 1) (.bin .add (.cst (.int 4)) (.var 0))) (.cst (.int 26)))))]),
    .ite (.cmp .gt (.bi .len [(.var 1)]) (.cst (.int 0)))
      [.set 4 (.idx (.mth .split (.idx (.var 1) (.bin .mod (.idx (.var 0) (.cst (.int 1))) (.bi .len [(.var 1)]))) [(.cst (.str "/"))]) (.cst (.int 0))),
      .ite (.cmp .eq (.bin .mod (.idx (.var 0) (.cst (.int 2))) (.cst (.int 4))) (.cst (.int 1)))
        [.set 3 (.slc (.bin .add (.var 4) (.var 3)) [] [(.cst (.int 8))])]
        [],
      .ite (.cmp .eq (.bin .mod (.idx (.var 0) (.cst (.int 2))) (.cst (.int 4))) (.cst (.int 2)))
        [.set 3 (.bin .add (.bin .add (.var 4) (.cst (.str "/"))) (.bi .str [(.bin .add (.cst (.int 2)) (.bin .mod (.idx (.var 0) (.cst (.int 3))) (.cst (.int 98))))]))]
        []]
      [],
    .set 5 (.bin .add (.lst [(.var 3)]) (.comp 1 false .rng1 [(.cst (.int 40))] [] (.bin .add (.idx (.var 3) (.bin .fdv (.var 0) (.cst (.int 26)))) (.idx (.var 3) (.bin .mod (.var 0) (.cst (.int 26))))))),
    .ret (.idx (.comp 1 false .seq [(.var 5)] [(.cmp .notin (.var 0) (.var 2))] (.var 0)) (.cst (.int 0)))]⟩
noncomputable def eB:Fn:=TM.fNames
noncomputable def ft:Fn:=TM.gT
noncomputable def fu:Fn:=TM.uc
noncomputable def fw:Fn:=TM.ug
noncomputable def b8 : Fn := ⟨"_law_rounds", 1, 7,
   [.set 1 (.dnew false),
    .set 2 (.lst []),
    .set 3 (.bi2 .sset [(.comp 2 true .seq [(.var 0)] [(.cmp .eq (.var 1) (.tup []))] (.var 0))]),
    .whl (.cmp .gt (.bi .len [(.var 3)]) (.cst (.int 0)))
      [.app 2 (.var 3),
      .for_ false [4] .seq [(.var 3)]
        [.put 1 (.var 4) (.cst (.bl true))],
      .set 5 (.lst []),
      .for_ true [4, 6] .seq [(.var 0)]
        [.ite (.and [(.cmp .notin (.var 4) (.var 1)), (.bi .all [(.comp 1 false .seq [(.var 6)] [] (.cmp .isin (.var 0) (.var 2)))])])
          [.app 5 (.var 4)]
          []],
      .set 3 (.bi2 .sset [(.var 5)])],
    .ret (.var 2)]⟩
noncomputable def b9 : Fn := ⟨"_law_walked", 2, 6,
   [.set 2 (.lst []),
    .ite (.not (.isi (.var 1) .list))
      [.ret (.cst .non)]
      [],
    .for_ false [3] .seq [(.var 1)]
      [.ite (.or [(.not (.isi (.var 3) .tuple)), (.cmp .ne (.bi .len [(.var 3)]) (.cst (.int 2))), (.not (.isi (.idx (.var 3) (.cst (.int 1))) .int)), (.isi (.idx (.var 3) (.cst (.int 1))) .bool)])
        [.ret (.cst .non)]
        [],
      .setT [4, 5] (.var 3),
      .ite (.or [(.cmp .isin (.var 4) (.var 2)), (.cmp .lt (.var 5) (.cst (.int 0))), (.cmp .ge (.var 5) (.bi .len [(.var 0)])), (.cmp .ne (.idx (.idx (.var 0) (.var 5)) (.cst (.int 0))) (.var 4))])
        [.ret (.cst .non)]
        [],
      .ite (.not (.bi .all [(.comp 1 false .seq [(.idx (.idx (.var 0) (.var 5)) (.cst (.int 1)))] [] (.cmp .isin (.var 0) (.var 3)))]))
        [.ret (.cst .non)]
        [],
      .app 2 (.var 4)],
    .ret (.bi .sorted [(.var 2)])]⟩
noncomputable def e_ : Fn := ⟨"law", 1, 6,
   [.set 1 (.call "_law_made" [(.var 0)]),
    .set 2 (.lst []),
    .for_ false [3] .seq [(.call "_law_rounds" [(.var 1)])]
      [.ext 2 (.var 3)],
    .for_ false [4] .rng1 [(.cst (.int 2))]
      [.set 5 (.call "order" [(.var 1)]),
      .ite (.cmp .ne (.call "_law_walked" [(.var 1), (.var 5)]) (.bi .sorted [(.var 2)]))
        [.ret (.cst (.bl false))]
        [],
      .rvs 5,
      .app 5 (.tup [(.cst (.str "a")), (.cst (.int 0))])],
    .ret (.cst (.bl true))]⟩
noncomputable def prog:List Fn:=[cS,aW,cz,bf,eN,gD,fo,eu,fq,eB,ft,fu,fw,b8,b9,e_]
noncomputable def ck:Ck:=⟨prog.map (·.name),[]⟩
theorem nP:aG ["pairs","found","key","value"] ["pairs"] (ae (top 1)):=⟨rfl,rfl,rfl,by decide +kernel,rfl,by decide +kernel,by decide +kernel⟩
theorem nQ:bc ck cS.body ["pairs","found","key","value"] (ae (top 1)) (ao (top 1))=true:=by decide +kernel
theorem eS:aG ["book","pairs","place","row"] ["book"] (ae (top 3)):=⟨rfl,rfl,rfl,by decide +kernel,rfl,by decide +kernel,by decide +kernel⟩
theorem eT:bc ck aW.body ["book","pairs","place","row"] (ae (top 3)) (ao (top 3))=true:=by decide +kernel
theorem mf:aG ["book","places","known","steps","place","word"] ["book","places","known"] (ae (top 4)):=⟨rfl,rfl,rfl,by decide +kernel,rfl,by decide +kernel,by decide +kernel⟩
theorem mj:bc ck cz.body ["book","places","known","steps","place","word"] (ae (top 4)) (ao (top 4))=true:=by decide +kernel
theorem fy:aG ["book","tellers","missing","known","found","ready","steps","word","place","teller"] ["book"] (ae (top 5)):=⟨rfl,rfl,rfl,by decide +kernel,rfl,by decide +kernel,by decide +kernel⟩
theorem fz:bc ck bf.body ["book","tellers","missing","known","found","ready","steps","word","place","teller"] (ae (top 5)) (ao (top 5))=true:=by decide +kernel
theorem uC:aG ["book","found","steps"] ["book"] (ae (top 6)):=⟨rfl,rfl,rfl,by decide +kernel,rfl,by decide +kernel,by decide +kernel⟩
theorem uD:bc ck eN.body ["book","found","steps"] (ae (top 6)) (ao (top 6))=true:=by decide +kernel
theorem pH:aG ["_law_cell_here","_law_k","_law_by"] ["_law_cell_here","_law_k"] (ae (top 8)):=⟨rfl,rfl,rfl,by decide +kernel,rfl,by decide +kernel,by decide +kernel⟩
theorem pI:bc ck gD.body ["_law_cell_here","_law_k","_law_by"] (ae (top 8)) (ao (top 8))=true:=by decide +kernel
theorem nR:aG ["_law_script","_law_k","_law_seed"] ["_law_script","_law_k"] (ae (top 9)):=⟨rfl,rfl,rfl,by decide +kernel,rfl,by decide +kernel,by decide +kernel⟩
theorem nS:bc ck fo.body ["_law_script","_law_k","_law_seed"] (ae (top 9)) (ao (top 9))=true:=by decide +kernel
theorem mn:aG ["_law_cell_here","_law_many","_law_found","_law_left","_law_k"] ["_law_cell_here","_law_many"] (ae (top 10)):=⟨rfl,rfl,rfl,by decide +kernel,rfl,by decide +kernel,by decide +kernel⟩
theorem mq:bc ck eu.body ["_law_cell_here","_law_many","_law_found","_law_left","_law_k"] (ae (top 10)) (ao (top 10))=true:=by decide +kernel
theorem nU:aG ["_law_drawn_here","_law_names_here","_law_letters","_law_name_here","_law_stem","_law_spare"] ["_law_drawn_here","_law_names_here"] (ae (top 11)):=⟨rfl,rfl,rfl,by decide +kernel,rfl,by decide +kernel,by decide +kernel⟩
theorem nV:bc ck fq.body ["_law_drawn_here","_law_names_here","_law_letters","_law_name_here","_law_stem","_law_spare"] (ae (top 11)) (ao (top 11))=true:=by decide +kernel
theorem mr:aG ["_law_script","_law_base","_law_many","_law_names_here","_law_k"] ["_law_script","_law_base","_law_many"] (ae (top 12)):=⟨rfl,rfl,rfl,by decide +kernel,rfl,by decide +kernel,by decide +kernel⟩
theorem mw:bc ck eB.body ["_law_script","_law_base","_law_many","_law_names_here","_law_k"] (ae (top 12)) (ao (top 12))=true:=by decide +kernel
theorem nW:aG ["_law_drawn_here","_law_names_here","_law_top","_law_told_here","_law_k","_law_one"] ["_law_drawn_here","_law_names_here"] (ae (top 13)):=⟨rfl,rfl,rfl,by decide +kernel,rfl,by decide +kernel,by decide +kernel⟩
theorem nX:bc ck ft.body ["_law_drawn_here","_law_names_here","_law_top","_law_told_here","_law_k","_law_one"] (ae (top 13)) (ao (top 13))=true:=by decide +kernel
theorem nY:aG ["_law_script","_law_base","_law_names_here","_law_many","_law_rows","_law_met","_law_k","_law_drawn_here","_law_row","_law_key"] ["_law_script","_law_base","_law_names_here","_law_many"] (ae (top 14)):=⟨rfl,rfl,rfl,by decide +kernel,rfl,by decide +kernel,by decide +kernel⟩
theorem nZ:bc ck fu.body ["_law_script","_law_base","_law_names_here","_law_many","_law_rows","_law_met","_law_k","_law_drawn_here","_law_row","_law_key"] (ae (top 14)) (ao (top 14))=true:=by decide +kernel
theorem n9:aG ["_law_script","_law_drawn_here","_law_names_here"] ["_law_script"] (ae (top 15)):=⟨rfl,rfl,rfl,by decide +kernel,rfl,by decide +kernel,by decide +kernel⟩
theorem n_:bc ck fw.body ["_law_script","_law_drawn_here","_law_names_here"] (ae (top 15)) (ao (top 15))=true:=by decide +kernel
theorem jG:aG ["_law_book_here","_law_known","_law_found","_law_fresh","_law_word","_law_some","_law_told_here"] ["_law_book_here"] (ae (top 16)):=⟨rfl,rfl,rfl,by decide +kernel,rfl,by decide +kernel,by decide +kernel⟩
theorem jH:bc ck b8.body ["_law_book_here","_law_known","_law_found","_law_fresh","_law_word","_law_some","_law_told_here"] (ae (top 16)) (ao (top 16))=true:=by decide +kernel
theorem jI:aG ["_law_book_here","_law_steps","_law_known","_law_step","_law_word","_law_place"] ["_law_book_here","_law_steps"] (ae (top 17)):=⟨rfl,rfl,rfl,by decide +kernel,rfl,by decide +kernel,by decide +kernel⟩
theorem jJ:bc ck b9.body ["_law_book_here","_law_steps","_law_known","_law_step","_law_word","_law_place"] (ae (top 17)) (ao (top 17))=true:=by decide +kernel
theorem uE:aG ["_law_script","_law_book_here","_law_words","_law_fresh","_law_turn","_law_steps"] ["_law_script"] (ae (top 18)):=⟨rfl,rfl,rfl,by decide +kernel,rfl,by decide +kernel,by decide +kernel⟩
theorem uF:bc ck e_.body ["_law_script","_law_book_here","_law_words","_law_fresh","_law_turn","_law_steps"] (ae (top 18)) (ao (top 18))=true:=by decide +kernel
end K
namespace K
open PySem L2 TM W01 Od
noncomputable def bO (f:Str→List Nat) (k:Str):U:=.lst ((f k).map fun t:Nat=>U.int (t:Nat))
theorem gE (d:List (Str×Nat)) (y:Str×Nat) (k:Str):ay (d++[y]) k=if y.1=k then ay d k++[y.2] else ay d k:=by
 rw [nL]
 by_cases e:y.1=k
 ·rw [if_pos e];simp [ay,e]
 ·rw [if_neg e];simp [ay,e]
theorem uG (d:List (Str×Nat)) (k:Str):(ay d k).length≤d.length:=by
 unfold ay
 rw [List.length_map]
 exact List.length_filter_le _ _
section
variable {Γ : Tab} {rows : List Row}
theorem mz {ps:List (Str×Nat)} (hl:ps.length≤1000):∃ ks:List Str,(∀ w,w∉ks→ay ps w=[])∧bX Γ cS [.lst (ps.map stN)]=some (.ok (.own,.dic ks (ks.map (bO (ay ps))))):=by
 have hsz:(2000:Nat)≤sizeLine:=by decide
 have hst:TM.start [.lst (ps.map stN)] 4=[some (.any,.lst (ps.map stN)),none,none,none]:=rfl
 let S:=fun (ks:List Str) (us:List U) (o2 o3:Option (Kd×U))=>([some (.any,.lst (ps.map stN)),some (.ownD,.dic ks us),o2,o3]:ag)
 let body:List TM.S:=[.ite (.inD true (.var 2) 1)
    [.putD 1 (.var 2) (.lst [])]
    [],
   .appD 1 (.var 2) (.var 3)]
 obtain ⟨st',hrun,hdr,ks,o2,o3,e,hn,hk,hkl⟩:=cC (t:=true) (is:=[2,3]) (body:=execs Γ body) (rs:=[(.any,.lst (ps.map stN))]) (fun p:Str×Nat=>(Kd.any,stN p))
  (fun d r st=>d++r=ps∧∃ (ks:List Str) (o2 o3:Option (Kd×U)),st=S ks (ks.map (bO (ay d))) o2 o3∧ks.Nodup∧(∀ w,w∉ks→ay d w=[])∧ks.length≤d.length) (fun _ _ _ _=>trivial) (fun d y r st hIx=>by
   obtain ⟨hdr,ks,o2,o3,e,hn,hk,hkl⟩:=hIx
   subst e
   have hdl:d.length<1000:=by have:=congrArg List.length hdr;simp at this;omega
   let i2:Option (Kd×U):=some (.any,.str y.1)
   let i3:Option (Kd×U):=some (.any,.int (y.2:Nat))
   have htl:=uG d y.1
   have app:∀ (ks:List Str),ks.Nodup→y.1∈ks→Run (execs Γ [.appD 1 (.var 2) (.var 3)]) (S ks (ks.map (bO (ay d))) i2 i3) .nx (S ks (ks.map (bO (ay (d++[y])))) i2 i3):=fun ks hn hy=>by
    have hg:cN ks (ks.map (bO (ay d))) y.1=some (.lst ((ay d y.1).map fun t:Nat=>U.int (t:Nat))):=by rw [jt,if_pos hy];rfl
    have hs:hV ks (ks.map (bO (ay d))) y.1 (.lst ((ay d y.1).map (fun t:Nat=>U.int (t:Nat))++[.int (y.2:Nat)]))=ks.map (bO (ay (d++[y]))):=by
     rw [nM _ _ _ _ hn]
     refine List.map_congr_left fun k hk=>?_
     unfold bO
     rw [gE]
     by_cases e:y.1=k
     ·subst e;rw [if_pos rfl,if_pos rfl];simp
     ·rw [if_neg e,if_neg (Ne.symm e)]
    rw [←hs]
    exact y9 (k:=.any) (r:=(.any,.int (y.2:Nat))) rfl (aK rfl) hy (aK rfl) (nj rfl) hg (by rw [List.length_map];omega) aF
   have tc:Run (tst Γ (.inD true (.var 2) 1)) (S ks (ks.map (bO (ay d))) i2 i3) (!decide (y.1∈ks)) (S ks (ks.map (bO (ay d))) i2 i3):=Ay (neg:=true) (k:=.any) (aK rfl) rfl
   have htg:Run (cE true [2,3] (.any,stN y)) (S ks (ks.map (bO (ay d))) o2 o3) () (S ks (ks.map (bO (ay d))) i2 i3):=kB (.inr rfl)
   by_cases hy:y.1∈ks
   ·rw [decide_eq_true hy] at tc
    refine ⟨_,_,htg,eR tc (fun h=>by cases h) fun _=>app ks hn hy,by rw [←hdr];simp,ks,_,_,rfl,hn,fun w hw=>?_,by simp;omega⟩
    have hyw:y.1≠w:=fun z=>hw (by rw [←z];exact hy)
    rw [gE,if_neg hyw]
    exact hk w hw
   ·rw [decide_eq_false hy] at tc
    have hn':(ks++[y.1]).Nodup:=by
     rw [List.nodup_append]
     refine ⟨hn,by simp,fun a ha b hb e=>?_⟩
     have:b=y.1:=by simpa using hb
     subst this
     exact hy (e ▸ ha)
    have em:ks.map (bO (ay d))++[.lst []]=(ks++[y.1]).map (bO (ay d)):=by
     rw [List.map_append]
     congr 1
     show _=[bO (ay d) y.1]
     unfold bO
     rw [hk y.1 hy]
     rfl
    have happ:=app (ks++[y.1]) hn' (by simp)
    rw [←em] at happ
    refine ⟨_,_,htg,eR tc (fun _=>y8 (k:=.any) (xs:=[]) (cy aw trivial aT (Nat.zero_le _)) rfl (aK rfl) hy (by omega) happ) fun h=>(by cases h),by rw [←hdr];simp,ks++[y.1],_,_,rfl,hn',fun w hw=>?_,by simp;omega⟩
    have hw':w∉ks∧w≠y.1:=by simpa using hw
    rw [gE,if_neg (Ne.symm hw'.2)]
    exact hk w hw'.1) ps [] (S [] [] none none) ⟨rfl,[],none,none,rfl,.nil,fun _ _=>rfl,Nat.le_refl _⟩
 subst e
 rw [List.nil_append] at *
 refine ⟨ks,hk,?_⟩
 have e:(ps.map stN).map (fun u=>(kE .any,u))=ps.map fun p=>(Kd.any,stN p):=by rw [List.map_map];rfl
 exact aU rfl (.inl rfl) hst (y7 (cR (rs:=[(.any,.lst (ps.map stN))]) (st1:=S [] [] none none) (ar (aK rfl) aw) trivial rfl rfl (by rw [e];exact hrun) (dS (Az rfl) (kn rfl))))
noncomputable def xn (Γ:Tab):Prop:=∀ ps:List (Str×Nat),ps.length≤1000→∃ ks:List Str,(∀ w,w∉ks→ay ps w=[])∧Γ "gathered" [.lst (ps.map stN)]=some (.ok (.own,.dic ks (ks.map (bO (ay ps)))))
theorem pJ (hg:xn Γ) (hO:Once rows) (h8:∀ r∈rows,r.2.length≤8) (hr:rows.length≤100) :
  ∃ ks:List Str,(∀ w,w∉ks→tel rows rows.length w=[])∧bX Γ aW [.tup (rows.map rwU)]=some (.ok (.own,.dic ks (ks.map (bO (tel rows rows.length))))):=by
 have hsz:(2000:Nat)≤sizeLine:=by decide
 have hst:TM.start [.tup (rows.map rwU)] 4=[some (.loc,.tup (rows.map rwU)),none,none,none]:=by simp [TM.start,imm,cn]
 let S:=fun (ps:List (Str×Nat)) (o2 o3:Option (Kd×U))=>([some (.loc,.tup (rows.map rwU)),some (.own,.lst (ps.map stN)),o2,o3]:ag)
 let body:List TM.S:=[.ext 1 (.comp 1 false .seq [(.idx (.var 3) (.cst (.int 1)))] [] (.tup [(.var 0),(.var 3)]))]
 obtain ⟨st',hrun,hdr,ps,o2,o3,e,hp,hpl⟩:=cC (t:=true) (is:=[2,3]) (body:=execs Γ body) (rs:=[(.loc,.tup (rows.map rwU))]) (fun p:Row×Nat=>(Kd.loc,U.tup [.int (p.2:Nat),rwU p.1]))
  (fun d r st=>d++r=rows.zipIdx∧∃ (ps:List (Str×Nat)) (o2 o3:Option (Kd×U)),st=S ps o2 o3∧(∀ w,ay ps w=tel rows d.length w)∧ps.length≤8 * d.length) (fun _ _ _ _=>trivial) (fun d y r st hIx=>by
   obtain ⟨hdr,ps,o2,o3,e,hp,hpl⟩:=hIx
   subst e
   obtain ⟨row,i⟩:=y
   have hy:(rows.zipIdx)[d.length]?=some (row,i):=by rw [←hdr];simp
   rw [List.getElem?_zipIdx,Option.map_eq_some_iff] at hy
   obtain ⟨row',hrow,e⟩:=hy
   have e1:row'=row:=congrArg Prod.fst e
   have e2:0+d.length=i:=congrArg Prod.snd e
   rw [Nat.zero_add] at e2
   subst e1 e2
   have hdl:d.length<100:=by have:=congrArg List.length hdr;simp at this;omega
   have h8':=h8 row' (List.mem_of_getElem? hrow)
   let i2:Option (Kd×U):=some (.loc,.int (d.length:Nat))
   let i3:Option (Kd×U):=some (.loc,rwU row')
   have hx:=lV (cond:=aS Γ []) (elt:=ev Γ (.tup [(.var 0),(.var 3)])) (src:=[(.loc,.tup (row'.2.map .str))]) (st:=S ps i2 i3) trivial .loc (.inl rfl) U.str (fun x=>stN (x,d.length)) .loc (fun _=>nu) row'.2 [] (by simp;omega)
    (fun y _=>⟨ni (ar (ak rfl) (ar (ak rfl) aw)) trivial (bA bC (bA bC aT)) (by show 2≤sizeLine;omega),bC⟩)
   rw [List.nil_append] at hx
   have e:(row'.2.map U.str).map (fun u=>(kE .loc,u))=row'.2.map fun r=>(Kd.loc,U.str r):=by rw [List.map_map];rfl
   have hc:Run (ev Γ (.comp 1 false .seq [(.idx (.var 3) (.cst (.int 1)))] [] (.tup [(.var 0),(.var 3)]))) (S ps i2 i3) (.own,.lst (row'.2.map fun x=>stN (x,d.length))) (S ps i2 i3) :=
    ei (rs:=[(.loc,.tup (row'.2.map .str))]) (ar (cQ (x:=(.loc,rwU row')) (ak rfl) aY trivial rfl) aw) trivial (by show some _=_;rw [e]) hx
   have em:ps.map stN++(row'.2.map fun x=>stN (x,d.length))=(ps++row'.2.map fun x=>(x,d.length)).map stN:=by simp
   refine ⟨S ps i2 i3,S (ps++row'.2.map fun x=>(x,d.length)) i2 i3,kB (.inl rfl),?_,by rw [←hdr];simp,_,_,_,rfl,fun w=>?_,by simp;omega⟩
   ·show Run _ _ _ [some (.loc,.tup (rows.map rwU)),some (.own,.lst ((ps++row'.2.map fun x=>(x,d.length)).map stN)),i2,i3]
    rw [←em]
    exact uq (k:=.own) (k':=.own) rfl hc rfl rfl (lW (by rw [List.length_map,List.length_map];omega) rfl) aF
   ·rw [List.length_append]
    exact rK hO hrow hp w) rows.zipIdx [] (S [] none none) ⟨rfl,[],none,none,rfl,fun w=>by simp [ay,tel],by simp⟩
 subst e
 rw [List.nil_append,List.length_zipIdx] at hp hpl
 have hit:itU .enm [(.loc,.tup (rows.map rwU))]=some (rows.zipIdx.map fun p:Row×Nat=>(Kd.loc,U.tup [.int (p.2:Nat),rwU p.1])):=by
  show some ((rows.map rwU).zipIdx.map fun p=>(kE .loc,U.tup [.int p.2,p.1]))=_
  rw [List.zipIdx_map,List.map_map]
  rfl
 obtain ⟨ks,k1,k2⟩:=hg ps (by omega)
 have ef:ay ps=tel rows rows.length:=funext hp
 rw [ef] at k1 k2
 refine ⟨ks,k1,?_⟩
 exact aU rfl (.inl rfl) hst (aD (r:=(.own,.lst [])) (cy aw trivial aT (Nat.zero_le _)) br (cR (rs:=[(.loc,.tup (rows.map rwU))]) (st1:=S [] none none) (ar (ak rfl) aw) trivial hit rfl hrun
  (dS (da (ar (aL rfl) aw) ⟨⟨.own,rfl,rfl⟩,trivial⟩ k2) nv)))
theorem jK {names:List Str} (hnm:∀ r∈rows,r.1∈names) (hnl:names.length<64) {R:List Nat} (hR:∀ t∈R,t<rows.length) {K0:List Str}{vs:List U} :
  ∃ st:List (Str×Nat),NS rows K0 R st∧bX Γ cz [.tup (rows.map rwU),.lst (R.map fun t:Nat=>.int (t:Nat)),.dic K0 vs]=some (.ok (.own,.lst (st.map stN))):=by
 have hsz:(2000:Nat)≤sizeLine:=by decide
 have hst:TM.start [.tup (rows.map rwU),.lst (R.map fun t:Nat=>.int (t:Nat)),.dic K0 vs] 6=[some (.loc,.tup (rows.map rwU)),some (.any,.lst (R.map fun t:Nat=>.int (t:Nat))),some (.any,.dic K0 vs),none,none,none]:=by simp [TM.start,imm,cn]
 let S:=fun (ps:List (Str×Nat)) (o4 o5:Option (Kd×U))=>([some (.loc,.tup (rows.map rwU)),some (.any,.lst (R.map fun t:Nat=>.int (t:Nat))),some (.any,.dic K0 vs),some (.own,.dic (ps.map (·.1)) (ps.map fun p=>.int (p.2:Nat))),o4,o5]:ag)
 let body:List TM.S:=[.set 5 (.idx (.idx (.var 0) (.var 4)) (.cst (.int 0))),
   .ite (.and [(.cmp .notin (.var 5) (.var 2)),(.cmp .notin (.var 5) (.var 3))])
    [.put 3 (.var 5) (.var 4)]
    []]
 have few:∀ {d:List Nat} {ps:List (Str×Nat)},NS rows K0 d ps→ps.length≤names.length:=fun {d ps} x=>by
  have:=js x.once (L:=names) fun w hw=>by
   obtain ⟨s,hs,rfl⟩:=List.mem_map.mp hw
   obtain ⟨_,_,r,h1,h2⟩:=x.ok s hs
   rw [←h2]
   exact hnm r (List.mem_of_getElem? h1)
  simpa using this
 obtain ⟨st',hrun,hdr,ps,o4,o5,e,x⟩:=cC (t:=false) (is:=[4]) (body:=execs Γ body) (rs:=[(.any,.lst (R.map fun t:Nat=>.int (t:Nat)))]) (fun t:Nat=>(Kd.any,U.int (t:Nat)))
  (fun d r st=>d++r=R∧∃ (ps:List (Str×Nat)) (o4 o5:Option (Kd×U)),st=S ps o4 o5∧NS rows K0 d ps) (fun _ _ _ _=>trivial) (fun d t r st hIx=>by
   obtain ⟨hdr,ps,o4,o5,e,x⟩:=hIx
   subst e
   have ht:t<rows.length:=hR t (by rw [←hdr];simp)
   have hrow:rows[t]?=some rows[t]:=by simp [ht]
   generalize rows[t]=row at hrow
   let i4:Option (Kd×U):=some (.any,.int (t:Nat))
   let i5:Option (Kd×U):=some (.loc,.str row.1)
   have hfew:=few x
   have tc:Run (tst Γ (.and [(.cmp .notin (.var 5) (.var 2)),(.cmp .notin (.var 5) (.var 3))])) (S ps i4 i5) (!decide (row.1∈K0)&&!decide (row.1∈ps.map (·.1))) (S ps i4 i5) :=
    nq (um (bZ (ak rfl) (aK rfl) trivial gC) fun _=>fk (bZ (ak rfl) (aL rfl) ⟨⟨.own,rfl,rfl⟩,trivial⟩ gC))
   have pre:∀ {st'':ag},Run (execs Γ [.ite (.and [(.cmp .notin (.var 5) (.var 2)),(.cmp .notin (.var 5) (.var 3))])
    [.put 3 (.var 5) (.var 4)]
    []]) (S ps i4 i5) .nx st''→Run (execs Γ body) (S ps i4 o5) .nx st'':=fun h =>
    aD (r:=(.loc,.str row.1)) (cQ (x:=(.loc,rwU row)) (cQ (ak rfl) (aK rfl) trivial (kO (qC hrow))) aY trivial rfl) aZ h
   have htg:Run (cE false [4] (.any,.int (t:Nat))) (S ps o4 o5) () (S ps i4 o5):=dJ jj
   by_cases h1:row.1∈K0
   ·rw [decide_eq_true h1] at tc
    exact ⟨_,_,htg,pre (eR tc (fun h=>by cases h) fun _=>aF),by rw [←hdr];simp,ps,_,_,rfl,x.skip hrow (.inl h1)⟩
   ·by_cases h2:row.1∈ps.map (·.1)
    ·rw [decide_eq_false h1,decide_eq_true h2] at tc
     exact ⟨_,_,htg,pre (eR tc (fun h=>by cases h) fun _=>aF),by rw [←hdr];simp,ps,_,_,rfl,x.skip hrow (.inr h2)⟩
    ·rw [decide_eq_false h1,decide_eq_false h2] at tc
     refine ⟨_,S (ps++[(row.1,t)]) i4 i5,htg,pre (eR tc (fun _=>?_) fun h=>by cases h),by rw [←hdr];simp,_,_,_,rfl,x.take hrow h1 h2⟩
     have e1:(ps++[(row.1,t)]).map (·.1)=ps.map (·.1)++[row.1]:=by simp
     have e2:((ps++[(row.1,t)]).map fun p=>U.int (p.2:Nat))=(ps.map fun p=>U.int (p.2:Nat))++[.int (t:Nat)]:=by simp
     show Run _ _ _ [some (.loc,.tup (rows.map rwU)),some (.any,.lst (R.map fun t:Nat=>.int (t:Nat))),some (.any,.dic K0 vs),some (.own,.dic ((ps++[(row.1,t)]).map (·.1)) ((ps++[(row.1,t)]).map fun p=>.int (p.2:Nat))),i4,i5]
     rw [e1,e2]
     exact qA (k:=.own) (rv:=(.any,.int (t:Nat))) (rk:=(.loc,.str row.1)) (aK rfl) rfl (ak rfl) (bA (nj rfl) (bA bC aT)) rfl rfl (lZ (by rw [List.length_map];omega) h2) aF) R [] (S [] none none) ⟨rfl,[],none,none,rfl,NS.start K0⟩
 subst e
 rw [List.nil_append] at x
 have hfew:=few x
 obtain ⟨qs,q1,q2⟩:=wG (ps:=ps) (by omega) x.once
 refine ⟨qs,x.perm q1,?_⟩
 have e:(R.map fun t:Nat=>U.int (t:Nat)).map (fun u=>(kE .any,u))=R.map fun t=>(Kd.any,U.int (t:Nat)):=by rw [List.map_map];rfl
 exact aU rfl (.inl rfl) hst (aD (r:=(.own,.dic [] [])) lN br (cR (rs:=[(.any,.lst (R.map fun t:Nat=>.int (t:Nat)))]) (st1:=S [] none none) (ar (aK rfl) aw) trivial rfl rfl (by rw [e];exact hrun) (dS (AD rfl q2) nv)))
end
end K
namespace K
open PySem L2 TM W01 Od
noncomputable def mi (rows:List Row) (K0:List Str) (d:List Nat) (p:Nat):Int:=(cnt rows K0 p:Int) - (if p∈d then 1 else 0)
noncomputable def bp (rows:List Row) (f:Nat→Int):List U:=(List.range rows.length).map fun p=>U.int (f p)
noncomputable def dM (R:List Nat):List U:=R.map fun t:Nat=>U.int (t:Nat)
theorem wJ (rows:List Row) (K0:List Str):bp rows (mi rows K0 [])=bp rows fun p=>(cnt rows K0 p:Int):=by
 unfold bp mi
 refine List.map_congr_left fun p _=>?_
 simp
theorem wK {rows:List Row} (hO:Once rows) {K0:List Str}{w:Str} (hw:w∉K0):bp rows (mi rows K0 (tel rows rows.length w))=bp rows fun p=>(cnt rows (K0++[w]) p:Int):=by
 unfold bp mi
 refine List.map_congr_left fun p hp=>?_
 have hpl:=List.mem_range.mp hp
 have ha:=lX hO hw p
 by_cases h:w∈told rows p
 ·rw [if_pos (gk.mpr ⟨hpl,h⟩)]
  rw [if_pos h] at ha
  show U.int ((cnt rows K0 p:Int) - 1)=U.int (cnt rows (K0++[w]) p:Int)
  congr 1
  omega
 ·rw [if_neg fun z=>h (gk.mp z).2]
  rw [if_neg h] at ha
  show U.int ((cnt rows K0 p:Int) - 0)=U.int (cnt rows (K0++[w]) p:Int)
  congr 1
  omega
theorem uH {rows:List Row}{K0:List Str}{d:List Nat}{t:Nat} (hd:t∉d):(bp rows (mi rows K0 d)).set t (.int (mi rows K0 d t - 1))=bp rows (mi rows K0 (d++[t])):=by
 unfold bp
 rw [set_range]
 refine List.map_congr_left fun p _=>?_
 unfold mi
 by_cases e:p=t
 ·subst e
  rw [if_pos rfl,if_neg hd,if_pos (by simp)]
  rw [show ((cnt rows K0 p:Int) - 0 - 1)=(cnt rows K0 p:Int) - 1 by omega]
 ·rw [if_neg e]
  have:(p∈d++[t])↔p∈d:=by simp [e]
  simp only [this]
theorem uI {rows:List Row}{f:Nat→Int}{t:Nat} (h:t<rows.length):(bp rows f)[t]?=some (.int (f t)):=by simp [bp,h]
section
variable {Γ : Tab} {rows : List Row}
noncomputable def qD : List TM.S := [.aug true 2 (.var 9) (.cst (.int 1)),
          .ite (.cmp .eq (.idx (.var 2) (.var 9)) (.cst (.int 0)))
            [.app 5 (.var 9)]
            []]
theorem oe (hO:Once rows) (hr:rows.length≤100) {K0:List Str}{w:Str} (hw:w∉K0) {R:List Nat} (hRl:R.length≤10000) {b0 b1 b3 b4 o6 o7 o8:Option (Kd×U)} (o9:Option (Kd×U)) {src:List (Kd×U)} (hsrc:∀ st,bj src st):∃ o9':Option (Kd×U),
  Run (forM false [9] (execs Γ qD) src ((tel rows rows.length w).map fun t:Nat=>(Kd.loc,U.int (t:Nat))))
   [b0,b1,some (.own,.lst (bp rows fun p=>(cnt rows K0 p:Int))),b3,b4,some (.own,.lst (dM R)),o6,o7,o8,o9] .nx
   [b0,b1,some (.own,.lst (bp rows fun p=>(cnt rows (K0++[w]) p:Int))),b3,b4,some (.own,.lst (dM (R++(tel rows rows.length w).filter fun t=>decide (cnt rows K0 t=1)))),o6,o7,o8,o9']:=by
 have hsz:(20000:Nat)≤sizeLine:=by decide
 let S:=fun (ms:List U) (R:List Nat) (o9:Option (Kd×U))=>([b0,b1,some (.own,.lst ms),b3,b4,some (.own,.lst (dM R)),o6,o7,o8,o9]:ag)
 obtain ⟨st',hrun,hdr,o9',e⟩:=cC (t:=false) (is:=[9]) (body:=execs Γ qD) (rs:=src) (fun t:Nat=>(Kd.loc,U.int (t:Nat)))
  (fun d r st=>d++r=tel rows rows.length w∧∃ o9:Option (Kd×U),st=S (bp rows (mi rows K0 d)) (R++d.filter fun t=>decide (cnt rows K0 t=1)) o9) (fun _ _ st _=>hsrc st) (fun d t r st hIx=>by
   obtain ⟨hdr,o9,e⟩:=hIx
   subst e
   have hmem:t∈tel rows rows.length w:=by rw [←hdr];simp
   have ht:t<rows.length:=(gk.mp hmem).1
   have hnd:=rJ (rows:=rows) rows.length w
   have htd:t∉d:=fun z=>by
    rw [←hdr,List.nodup_append] at hnd
    exact hnd.2.2 t z t (by simp) rfl
   have hdl:d.length≤100:=by
    have h1:=congrArg List.length hdr
    have h2:(tel rows rows.length w).length≤(List.range rows.length).length:=List.length_filter_le _ _
    simp at h1 h2
    omega
   let i9:Option (Kd×U):=some (.loc,.int (t:Nat))
   let R1:=R++d.filter fun t=>decide (cnt rows K0 t=1)
   have hR1:R1.length≤10100:=by
    have:(d.filter fun t=>decide (cnt rows K0 t=1)).length≤d.length:=List.length_filter_le _ _
    show (R++_).length≤_
    rw [List.length_append]
    omega
   have hat:atI (bp rows (mi rows K0 (d++[t]))) (t:Int)=some (.int (mi rows K0 (d++[t]) t)):=cq (uI ht)
   have hv:mi rows K0 (d++[t]) t=(cnt rows K0 t:Int) - 1:=by unfold mi;rw [if_pos (by simp)]
   have tc:Run (tst Γ (.cmp .eq (.idx (.var 2) (.var 9)) (.cst (.int 0)))) (S (bp rows (mi rows K0 (d++[t]))) R1 i9) (decide (cnt rows K0 t=1)) (S (bp rows (mi rows K0 (d++[t]))) R1 i9) :=
    bZ (cQ (x:=(.bor 2,.lst (bp rows (mi rows K0 (d++[t]))))) (aL rfl) (ak rfl) ⟨⟨.own,rfl,rfl⟩,trivial⟩ (aP hat)) aY trivial (gB (by
     rw [hv,Bool.eq_iff_iff]
     simp
     omega))
   have pre:∀ {st'':ag},Run (execs Γ [.ite (.cmp .eq (.idx (.var 2) (.var 9)) (.cst (.int 0)))
      [.app 5 (.var 9)]
      []]) (S (bp rows (mi rows K0 (d++[t]))) R1 i9) .nx st''→Run (execs Γ qD) (S (bp rows (mi rows K0 d)) R1 i9) .nx st'':=fun h=>by
    refine AA (us:=bp rows (mi rows K0 d)) (k1:=.loc) (k2:=.loc) (j:=t) (w:=1) rfl (ak rfl) (uI ht) aY ?_
    rw [uH htd]
    exact h
   have htg:Run (cE false [9] (.loc,.int (t:Nat))) (S (bp rows (mi rows K0 d)) R1 o9) () (S (bp rows (mi rows K0 d)) R1 i9):=dJ aZ
   cases hc:decide (cnt rows K0 t=1) with
   |false =>
    rw [hc] at tc
    refine ⟨_,_,htg,pre (eR tc (fun h=>by cases h) fun _=>aF),by rw [←hdr];simp,i9,?_⟩
    rw [List.filter_append,List.filter_cons,hc]
    simp [S,R1]
   |true =>
    rw [hc] at tc
    refine ⟨_,S (bp rows (mi rows K0 (d++[t]))) (R1++[t]) i9,htg,pre (eR tc (fun _=>?_) fun h=>by cases h),by rw [←hdr];simp,i9,?_⟩
    ·have em:dM (R1++[t])=dM R1++[.int (t:Nat)]:=by simp [dM]
     show Run _ _ _ [b0,b1,some (.own,.lst (bp rows (mi rows K0 (d++[t])))),b3,b4,some (.own,.lst (dM (R1++[t]))),o6,o7,o8,i9]
     rw [em]
     exact gg (k:=.own) (k':=.own) (r:=(.loc,.int (t:Nat))) rfl (ak rfl) bC rfl rfl (by unfold dM;rw [List.length_map];omega) aF
    ·rw [List.filter_append,List.filter_cons,hc]
     simp [S,R1]) (tel rows rows.length w) [] (S (bp rows (mi rows K0 [])) R o9) ⟨rfl,o9,by simp⟩
 subst e
 rw [List.nil_append] at hrun
 rw [wJ,wK hO hw] at hrun
 exact ⟨o9',hrun⟩
noncomputable def uJ : List TM.S := [.put 3 (.var 7) (.cst (.bl true)),
        .for_ false [9] .seq [(.get2 1 (.var 7) (.lst []))] qD]
theorem rM (hO:Once rows) (hr:rows.length≤100) {ks:List Str} (hks:∀ w,w∉ks→tel rows rows.length w=[]) {K0:List Str}{st:List (Str×Nat)} (hnd:(K0++st.map (·.1)).Nodup) (hl:K0.length+st.length≤100) {b0 b4:Option (Kd×U)} (vs:List U) (o7 o8 o9:Option (Kd×U)):∃ (vs':List U) (R:List Nat) (o7' o8' o9':Option (Kd×U)),
  RI rows K0 (K0++st.map (·.1)) R∧(st=[]→R=[])∧Run (forM true [7,8] (execs Γ uJ) [(.bor 6,.lst (st.map stN))] (st.map fun s=>(Kd.loc,stN s)))
   [b0,some (.own,.dic ks (ks.map (bO (tel rows rows.length)))),some (.own,.lst (bp rows fun p=>(cnt rows K0 p:Int))),some (.own,.dic K0 vs),b4,some (.own,.lst []),some (.own,.lst (st.map stN)),o7,o8,o9] .nx
   [b0,some (.own,.dic ks (ks.map (bO (tel rows rows.length)))),some (.own,.lst (bp rows fun p=>(cnt rows (K0++st.map (·.1)) p:Int))),some (.own,.dic (K0++st.map (·.1)) vs'),b4,some (.own,.lst (dM R)),some (.own,.lst (st.map stN)),o7',o8',o9']:=by
 let S:=fun (K:List Str) (vs:List U) (R:List Nat) (o7 o8 o9:Option (Kd×U))=>([b0,some (.own,.dic ks (ks.map (bO (tel rows rows.length)))),some (.own,.lst (bp rows fun p=>(cnt rows K p:Int))),some (.own,.dic K vs),b4,some (.own,.lst (dM R)),some (.own,.lst (st.map stN)),o7,o8,o9]:ag)
 obtain ⟨st',hrun,hdr,vs',R,o7',o8',o9',e,x,hRl,hR0⟩:=cC (t:=true) (is:=[7,8]) (body:=execs Γ uJ) (rs:=[(.bor 6,.lst (st.map stN))]) (fun s:Str×Nat=>(Kd.loc,stN s))
  (fun d r stt=>d++r=st∧∃ (vs:List U) (R:List Nat) (o7 o8 o9:Option (Kd×U)),stt=S (K0++d.map (·.1)) vs R o7 o8 o9∧RI rows K0 (K0++d.map (·.1)) R∧R.length≤100 * d.length∧(d=[]→R=[])) (fun _ _ stt ⟨_,vs,R,o7,o8,o9,e,_⟩=>by subst e;exact ⟨⟨.own,rfl,rfl⟩,trivial⟩) (fun d s r stt hIx=>by
   obtain ⟨hdr,vs,R,o7,o8,o9,e,x,hRl,hR0⟩:=hIx
   subst e
   obtain ⟨w,p⟩:=s
   have hdl:d.length<st.length:=by have:=congrArg List.length hdr;simp at this;omega
   have hw:w∉K0++d.map (·.1):=fun z=>by
    rw [←hdr,List.map_append,←List.append_assoc,List.nodup_append] at hnd
    exact hnd.2.2 w z w (by simp) rfl
   let i7:Option (Kd×U):=some (.loc,.str w)
   let i8:Option (Kd×U):=some (.loc,.int (p:Nat))
   obtain ⟨o9',hin⟩:=oe (Γ:=Γ) hO hr hw (R:=R) (by omega) (b0:=b0) (b1:=some (.own,.dic ks (ks.map (bO (tel rows rows.length))))) (b3:=some (.own,.dic (K0++d.map (·.1)++[w]) (vs++[.bl true]))) (b4:=b4) (o6:=some (.own,.lst (st.map stN))) (o7:=i7) (o8:=i8) o9 (src:=[(.loc,bO (tel rows rows.length) w)]) (fun _=>trivial)
   have em:K0++(d++[(w,p)]).map (·.1)=K0++d.map (·.1)++[w]:=by simp
   have hkl:(K0++d.map (·.1)).length<1000:=by rw [List.length_append,List.length_map];omega
   have hg:(match cN ks (ks.map (bO (tel rows rows.length))) w with|some v=>(Kd.loc,v)|none=>(.loc,U.lst []))=(.loc,bO (tel rows rows.length) w):=by
    rw [jt]
    by_cases h:w∈ks
    ·rw [if_pos h]
    ·rw [if_neg h]
     unfold bO
     rw [hks w h]
     rfl
   have e2:((tel rows rows.length w).map fun t:Nat=>U.int (t:Nat)).map (fun u=>(kE .loc,u))=(tel rows rows.length w).map fun t=>(Kd.loc,U.int (t:Nat)):=by rw [List.map_map];rfl
   refine ⟨S (K0++d.map (·.1)) vs R i7 i8 o9,S (K0++d.map (·.1)++[w]) (vs++[.bl true]) (R++(tel rows rows.length w).filter fun t=>decide (cnt rows (K0++d.map (·.1)) t=1)) i7 i8 o9',kB (.inl rfl),?_,by rw [←hdr];simp,vs++[.bl true],_,i7,i8,o9',by rw [em],?_,?_,fun z=>by simp at z⟩
   ·refine qA (k:=.own) (rv:=(.loc,.bl true)) (rk:=(.loc,.str w)) aY rfl (ak rfl) (bA bC (bA bC aT)) rfl rfl (lZ hkl hw) ?_
    exact cR (rs:=[(.loc,bO (tel rows rows.length) w)]) (ar (y_ (k:=.loc) (z:=(.own,.lst [])) (u:=.lst []) rfl (ak rfl) (cy aw trivial aT (Nat.zero_le _)) tX hg) aw) trivial (by show some (List.map (fun u=>(kE .loc,u)) _)=_;rw [e2]) rfl hin aF
   ·rw [em]
    exact x.step hO hw
   ·have:((tel rows rows.length w).filter fun t=>decide (cnt rows (K0++d.map (·.1)) t=1)).length≤100:=by
     refine Nat.le_trans (List.length_filter_le _ _) ?_
     have h2:(tel rows rows.length w).length≤(List.range rows.length).length:=List.length_filter_le _ _
     simp at h2
     omega
    rw [List.length_append,List.length_append,List.length_singleton]
    omega) st [] (S K0 vs [] o7 o8 o9) ⟨rfl,vs,[],o7,o8,o9,by simp [S],by simpa using RI.start K0,by simp,fun _=>rfl⟩
 subst e
 exact ⟨vs',R,o7',o8',o9',by simpa using x,fun z=>hR0 (by simpa using z),by simpa [S,dM] using hrun⟩
noncomputable def eU (fnd:List (List (Str×Nat))):List U:=fnd.map fun l=>U.lst (l.map stN)
noncomputable def uK:List TM.S:=[.set 6 (.call "new_steps" [(.var 0),(.var 5),(.var 3)]),
   .set 5 (.lst []),
   .for_ true [7,8] .seq [(.var 6)] uJ,
   .ite (.cmp .ne (.var 6) (.lst []))
    [.app 4 (.var 6)]
    []]
noncomputable def uL (Γ:Tab) (rows:List Row):Prop:=∀ (R:List Nat) (K0:List Str) (vs:List U),(∀ t∈R,t<rows.length)→∃ st:List (Str×Nat),NS rows K0 R st∧Γ "new_steps" [.tup (rows.map rwU),.lst (dM R),.dic K0 vs]=some (.ok (.own,.lst (st.map stN)))
theorem gF (hO:Once rows) (hr:rows.length≤100) (hN:uL Γ rows) {ks:List Str} (hks:∀ w,w∉ks→tel rows rows.length w=[]):∀ (f:Nat) (sts:List (Str×Nat)) (fnd:List (List (Str×Nat))) (R:List Nat) (vs:List U) (o6 o7 o8 o9:Option (Kd×U)),
  LI rows sts R→fnd.flatten=sts→fnd.length≤sts.length→(rows.length - sts.length)+(if R=[] then 1 else 2)≤f →
  ∃ (sts':List (Str×Nat)) (fnd':List (List (Str×Nat))) (st':ag),LI rows sts' []∧fnd'.flatten=sts'∧fnd'.length≤100∧st'[4]?=some (some (.own,.lst (eU fnd'))) ∧
   Run (fj (tst Γ (.cmp .ne (.var 5) (.lst []))) (execs Γ uK) f) [some (.loc,.tup (rows.map rwU)),some (.own,.dic ks (ks.map (bO (tel rows rows.length)))),some (.own,.lst (bp rows fun p=>(cnt rows (sts.map (·.1)) p:Int))),some (.own,.dic (sts.map (·.1)) vs),some (.own,.lst (eU fnd)),some (.own,.lst (dM R)),o6,o7,o8,o9] .nx st'
 |0,sts,fnd,R,vs,o6,o7,o8,o9,_,_,_,h=>by split at h <;> omega
 |f+1,sts,fnd,R,vs,o6,o7,o8,o9,x,hf,hfl,h=>by
  have hsz:(20000:Nat)≤sizeLine:=by decide
  have few:∀ {s:List (Str×Nat)} {R':List Nat},LI rows s R'→s.length≤rows.length:=fun {s R'} x=>by
   have h1:=gm x.ok .nil
   rw [List.nil_append] at h1
   have:=js h1 (gn x.ok)
   simpa using this
  have hfew:=few x
  let S:=fun (K:List Str) (vs:List U) (fnd:List (List (Str×Nat))) (R:List Nat) (o6 o7 o8 o9:Option (Kd×U))=>([some (.loc,.tup (rows.map rwU)),some (.own,.dic ks (ks.map (bO (tel rows rows.length)))),some (.own,.lst (bp rows fun p=>(cnt rows K p:Int))),some (.own,.dic K vs),some (.own,.lst (eU fnd)),some (.own,.lst (dM R)),o6,o7,o8,o9]:ag)
  have eqR:∀ R:List Nat,eqD 50 (.lst (dM R))=true:=fun R=>by show bM 49 _=true;exact kG (fun t:Nat=>((t:Nat):Int)) R 49
  have tc:Run (tst Γ (.cmp .ne (.var 5) (.lst []))) (S (sts.map (·.1)) vs fnd R o6 o7 o8 o9) (!(dM R).isEmpty) (S (sts.map (·.1)) vs fnd R o6 o7 o8 o9) :=
   bZ (aL rfl) (cy aw trivial aT (Nat.zero_le _)) ⟨⟨.own,rfl,rfl⟩,trivial⟩ (nN (eqR R))
  by_cases hR:R=[]
  ·subst hR
   exact ⟨sts,fnd,_,x,hf,by omega,rfl,xk tc⟩
  ·rw [if_neg hR] at h
   have htr:(!(dM R).isEmpty)=true:=by
    cases R with
    |nil=>exact absurd rfl hR
    |cons a l=>rfl
   rw [htr] at tc
   obtain ⟨st,n,hst⟩:=hN R (sts.map (·.1)) vs fun t ht=>(x.rdy t ht).1
   have hnd:(sts.map (·.1)++st.map (·.1)).Nodup:=by
    have h1:=gm x.ok .nil
    rw [List.nil_append] at h1
    rw [List.nodup_append]
    refine ⟨h1,n.once,fun a ha b hb e=>?_⟩
    obtain ⟨s,hs,rfl⟩:=List.mem_map.mp hb
    exact (n.ok s hs).2.1 (e ▸ ha)
   have hlen:sts.length+st.length≤rows.length:=by
    have:=js hnd (L:=rows.map (·.1)) fun y hy=>by
     rcases List.mem_append.mp hy with hy|hy
     ·exact gn x.ok y hy
     ·obtain ⟨s,hs,rfl⟩:=List.mem_map.mp hy
      obtain ⟨_,_,r,q1,q2⟩:=n.ok s hs
      exact List.mem_map.mpr ⟨r,List.mem_of_getElem? q1,q2⟩
    simpa using this
   let i6:Option (Kd×U):=some (.own,.lst (st.map stN))
   obtain ⟨vs',R',o7',o8',o9',y,hy0,hmid⟩:=rM (Γ:=Γ) hO hr hks hnd (by rw [List.length_map];omega) (b0:=some (.loc,.tup (rows.map rwU))) (b4:=some (.own,.lst (eU fnd))) vs o7 o8 o9
   have x':=x.step n y
   have em:(sts++st).map (·.1)=sts.map (·.1)++st.map (·.1):=List.map_append
   have eqS:eqD 50 (.lst (st.map stN))=true:=by show bM 49 _=true;exact nO st 48
   have tc2:Run (tst Γ (.cmp .ne (.var 6) (.lst []))) (S (sts.map (·.1)++st.map (·.1)) vs' fnd R' i6 o7' o8' o9') (!(st.map stN).isEmpty) (S (sts.map (·.1)++st.map (·.1)) vs' fnd R' i6 o7' o8' o9') :=
    bZ (aL rfl) (cy aw trivial aT (Nat.zero_le _)) ⟨⟨.own,rfl,rfl⟩,trivial⟩ (nN eqS)
   have e1:(st.map stN).map (fun u=>(kE (.bor 6),u))=st.map fun s=>(Kd.loc,stN s):=by rw [List.map_map];rfl
   have pre:∀ {st'':ag},Run (execs Γ [.ite (.cmp .ne (.var 6) (.lst []))
    [.app 4 (.var 6)]
    []]) (S (sts.map (·.1)++st.map (·.1)) vs' fnd R' i6 o7' o8' o9') .nx st''→Run (execs Γ uK) (S (sts.map (·.1)) vs fnd R o6 o7 o8 o9) .nx st'':=fun h=>by
    refine aD (r:=(.own,.lst (st.map stN))) (da (ar (ak rfl) (ar (aL rfl) (ar (aL rfl) aw))) ⟨⟨.own,rfl,rfl⟩,⟨.own,rfl,rfl⟩,trivial⟩ hst) br ?_
    refine aD (r:=(.own,.lst [])) (cy aw trivial aT (Nat.zero_le _)) br ?_
    exact cR (rs:=[(.bor 6,.lst (st.map stN))]) (ar (aL rfl) aw) ⟨⟨.own,rfl,rfl⟩,trivial⟩ (by show some (List.map (fun u=>(kE (.bor 6),u)) _)=_;rw [e1]) rfl hmid h
   by_cases hs0:st=[]
   ·have hR':=hy0 hs0
    subst hs0
    rw [show (!(([]:List (Str×Nat)).map stN).isEmpty)=false from rfl] at tc2
    have ee:sts++[]=sts:=List.append_nil _
    rw [ee] at x'
    have hb:=pre (eR tc2 (fun h=>by cases h) fun _=>aF)
    obtain ⟨sts2,fnd2,st2,z1,z2,z3,z4,z5⟩:=gF hO hr hN hks f sts fnd R' vs' i6 o7' o8' o9' x' hf hfl (by rw [if_pos hR'];omega)
    refine ⟨sts2,fnd2,st2,z1,z2,z3,z4,y6 tc hb ?_⟩
    have e3:sts.map (·.1)++([]:List (Str×Nat)).map (·.1)=sts.map (·.1):=by simp
    show Run _ (S (sts.map (·.1)++([]:List (Str×Nat)).map (·.1)) vs' fnd R' i6 o7' o8' o9') _ _
    rw [e3]
    exact z5
   ·have htr2:(!(st.map stN).isEmpty)=true:=by
     cases st with
     |nil=>exact absurd rfl hs0
     |cons a l=>rfl
    rw [htr2] at tc2
    have hpos:0<st.length:=List.length_pos_iff.mpr hs0
    have ef:eU (fnd++[st])=eU fnd++[.lst (st.map stN)]:=by simp [eU]
    have hb:Run (execs Γ uK) (S (sts.map (·.1)) vs fnd R o6 o7 o8 o9) .nx (S (sts.map (·.1)++st.map (·.1)) vs' (fnd++[st]) R' (some (.loc,.lst (st.map stN))) o7' o8' o9'):=by
     refine pre (eR tc2 (fun _=>?_) fun h=>by cases h)
     show Run _ _ _ [some (.loc,.tup (rows.map rwU)),some (.own,.dic ks (ks.map (bO (tel rows rows.length)))),some (.own,.lst (bp rows fun p=>(cnt rows (sts.map (·.1)++st.map (·.1)) p:Int))),some (.own,.dic (sts.map (·.1)++st.map (·.1)) vs'),some (.own,.lst (eU (fnd++[st]))),some (.own,.lst (dM R')),some (.loc,.lst (st.map stN)),o7',o8',o9']
     rw [ef]
     exact gg (k:=.own) (k':=.own) (r:=(.bor 6,.lst (st.map stN))) (u:=.lst (st.map stN)) rfl (aL rfl) (xj rfl) rfl rfl (by unfold eU;rw [List.length_map];omega) aF
    obtain ⟨sts2,fnd2,st2,z1,z2,z3,z4,z5⟩:=gF hO hr hN hks f (sts++st) (fnd++[st]) R' vs' (some (.loc,.lst (st.map stN))) o7' o8' o9' x' (by rw [List.flatten_append,hf];simp) (by rw [List.length_append,List.length_append,List.length_singleton];omega) (by rw [List.length_append];split <;> omega)
    refine ⟨sts2,fnd2,st2,z1,z2,z3,z4,y6 tc hb ?_⟩
    rw [em] at z5
    exact z5
noncomputable def xo (Γ:Tab) (rows:List Row):Prop:=∃ ks:List Str,(∀ w,w∉ks→tel rows rows.length w=[])∧Γ "places_that_tell" [.tup (rows.map rwU)]=some (.ok (.own,.dic ks (ks.map (bO (tel rows rows.length)))))
theorem eV (hO:Once rows) (hr:rows.length≤100) (hP:xo Γ rows) (hN:uL Γ rows):∃ (sts:List (Str×Nat)) (fnd:List (List (Str×Nat))),LI rows sts []∧fnd.flatten=sts∧fnd.length≤100∧bX Γ bf [.tup (rows.map rwU)]=some (.ok (.own,.lst (eU fnd))):=by
 have hsz:(20000:Nat)≤sizeLine:=by decide
 obtain ⟨ks,hks,hpl⟩:=hP
 have hst:TM.start [.tup (rows.map rwU)] 10=[some (.loc,.tup (rows.map rwU)),none,none,none,none,none,none,none,none,none]:=by simp [TM.start,imm,cn]
 let i0:Option (Kd×U):=some (.loc,.tup (rows.map rwU))
 let i1:Option (Kd×U):=some (.own,.dic ks (ks.map (bO (tel rows rows.length))))
 let i2:Option (Kd×U):=some (.own,.lst (bp rows fun p=>(cnt rows [] p:Int)))
 have g2:Run (ev Γ (.comp 1 false .seq [(.var 0)] [] (.bi .len [(.idx (.var 0) (.cst (.int 1)))]))) [i0,i1,none,none,none,none,none,none,none,none] (.own,.lst (bp rows fun p=>(cnt rows [] p:Int))) [i0,i1,none,none,none,none,none,none,none,none]:=by
  have hx:=lV (cond:=aS Γ []) (elt:=ev Γ (.bi .len [(.idx (.var 0) (.cst (.int 1)))])) (src:=[(.loc,.tup (rows.map rwU))]) (st:=[i0,i1,none,none,none,none,none,none,none,none]) trivial .loc (.inl rfl) rwU (fun r=>.int (r.2.length:Nat)) .loc (fun _=>nu) rows [] (by simp;omega)
   (fun y _=>⟨ji (ar (cQ (x:=(.loc,rwU y)) (ak rfl) aY trivial rfl) aw) trivial (by rw [lQ,List.length_map]),bC⟩)
  rw [List.nil_append] at hx
  have e:(rows.map rwU).map (fun u=>(kE .loc,u))=rows.map fun r=>(Kd.loc,rwU r):=by rw [List.map_map];rfl
  have e2:(rows.map fun r=>U.int (r.2.length:Nat))=bp rows fun p=>(cnt rows [] p:Int):=by
   unfold bp
   apply List.ext_getElem
   ·simp
   ·intro i h1 h2
    have hi:i<rows.length:=by simpa using h1
    have ht:told rows i=rows[i].2:=ic (by simp [hi])
    have hc:cnt rows [] i=rows[i].2.length:=by unfold cnt pF;rw [ht];simp
    simp [hc]
  rw [e2] at hx
  exact ei (rs:=[(.loc,.tup (rows.map rwU))]) (ar (ak rfl) aw) trivial (by show some _=_;rw [e]) hx
 let R0:=(List.range rows.length).filter fun p=>decide (cnt rows [] p=0)
 let st5:ag:=[i0,i1,i2,some (.own,.dic [] []),some (.own,.lst []),none,none,none,none,none]
 have g5:Run (ev Γ (.comp 2 true .enm [(.var 2)] [(.cmp .eq (.var 1) (.cst (.int 0)))] (.var 0))) st5 (.own,.lst (dM R0)) st5:=by
  have hx:=l_ (st:=st5) (cond:=aS Γ [(.cmp .eq (.var 1) (.cst (.int 0)))]) (elt:=ev Γ (.var 0)) (src:=[(.bor 2,.lst (bp rows fun p=>(cnt rows [] p:Int)))]) ⟨⟨.own,rfl,rfl⟩,trivial⟩ (fun p:Nat=>U.int (p:Nat)) (fun p:Nat=>U.int (cnt rows [] p:Int)) (fun p:Nat=>U.int (p:Nat)) (fun p=>decide (cnt rows [] p=0)) (List.range rows.length) [] (by simp;omega)
   (fun y _=>⟨fk (bZ (ak rfl) aY trivial (gB (by rw [Bool.eq_iff_iff];simp))),ak rfl⟩)
  rw [List.nil_append] at hx
  have e:((bp rows fun p=>(cnt rows [] p:Int)).zipIdx.map fun p=>(kE (.bor 2),U.tup [.int p.2,p.1]))=(List.range rows.length).map fun p:Nat=>(Kd.loc,U.tup [.int (p:Nat),.int (cnt rows [] p:Int)]):=by
   unfold bp
   apply List.ext_getElem
   ·simp
   ·intro i h1 h2
    simp [kE]
  exact ei (rs:=[(.bor 2,.lst (bp rows fun p=>(cnt rows [] p:Int)))]) (ar (aL rfl) aw) ⟨⟨.own,rfl,rfl⟩,trivial⟩ (by show some _=_;rw [e]) hx
 have x0:LI rows [] R0:=⟨trivial,fun t ht=>by
  obtain ⟨a,b⟩:=List.mem_filter.mp ht
  exact ⟨List.mem_range.mp a,by simpa using b⟩,fun t r h1 h2=>.inl (List.mem_filter.mpr ⟨List.mem_range.mpr (List.getElem?_eq_some_iff.mp h1).1,by simpa using h2⟩)⟩
 obtain ⟨sts,fnd,st',z1,z2,z3,z4,z5⟩:=gF hO hr hN hks fuel [] [] R0 [] none none none none x0 rfl (Nat.le_refl _) (by unfold fuel;split <;> simp <;> omega)
 refine ⟨sts,fnd,z1,z2,z3,?_⟩
 exact aU rfl (.inl rfl) hst (aD (r:=(.own,.dic ks (ks.map (bO (tel rows rows.length))))) (da (ar (ak rfl) aw) trivial hpl) br (aD g2 br (aD (r:=(.own,.dic [] [])) lN br (aD (r:=(.own,.lst [])) (cy aw trivial aT (Nat.zero_le _)) br (aD g5 br (xl z5 (dS (aL z4) (kn z4))))))))
theorem rN {sts:List (Str×Nat)}{fnd:List (List (Str×Nat))} (hs:Γ "steps_in_rounds" [.tup (rows.map rwU)]=some (.ok (.own,.lst (eU fnd)))) (hf:fnd.flatten=sts) (hl:sts.length≤100):bX Γ eN [.tup (rows.map rwU)]=some (.ok (.own,.lst (sts.map stN))):=by
 have hsz:(20000:Nat)≤sizeLine:=by decide
 have hst:TM.start [.tup (rows.map rwU)] 3=[some (.loc,.tup (rows.map rwU)),none,none]:=by simp [TM.start,imm,cn]
 let S:=fun (l:List (Str×Nat)) (o2:Option (Kd×U))=>([some (.loc,.tup (rows.map rwU)),some (.own,.lst (l.map stN)),o2]:ag)
 obtain ⟨st',hrun,hdr,o2,e⟩:=cC (t:=false) (is:=[2]) (body:=execs Γ [.ext 1 (.var 2)]) (rs:=[(.own,.lst (eU fnd))]) (fun l:List (Str×Nat)=>(Kd.loc,U.lst (l.map stN)))
  (fun d r st=>d++r=fnd∧∃ o2:Option (Kd×U),st=S d.flatten o2) (fun _ _ _ _=>trivial) (fun d y r st hIx=>by
   obtain ⟨hdr,o2,e⟩:=hIx
   subst e
   have hb:d.flatten.length+y.length≤100:=by
    have:=congrArg (fun l:List (List (Str×Nat))=>l.flatten.length) hdr
    simp only [List.flatten_append,List.flatten_cons,List.length_append,hf] at this
    omega
   refine ⟨S d.flatten (some (.loc,.lst (y.map stN))),S (d++[y]).flatten (some (.loc,.lst (y.map stN))),dJ aZ,?_,by rw [←hdr];simp,_,rfl⟩
   have em:(d++[y]).flatten.map stN=d.flatten.map stN++y.map stN:=by simp
   show Run _ _ _ [some (.loc,.tup (rows.map rwU)),some (.own,.lst ((d++[y]).flatten.map stN)),some (.loc,.lst (y.map stN))]
   rw [em]
   exact uq (k:=.own) (k':=.own) rfl (ak rfl) rfl rfl (lW (by rw [List.length_map,List.length_map];omega) rfl) aF) fnd [] (S [] none) ⟨rfl,none,rfl⟩
 subst e
 have e:(eU fnd).map (fun u=>(kE .own,u))=fnd.map fun l=>(Kd.loc,U.lst (l.map stN)):=by unfold eU;rw [List.map_map];rfl
 have h0:=aU (Γ:=Γ) (fn:=eN) rfl (.inl rfl) hst (aD (r:=(.own,.lst [])) (cy aw trivial aT (Nat.zero_le _)) br (cR (rs:=[(.own,.lst (eU fnd))]) (st1:=S [] none) (ar (da (ar (ak rfl) aw) trivial hs) aw) trivial rfl rfl (by rw [e];exact hrun) (dS (aL rfl) (kn rfl))))
 rw [List.nil_append,hf] at h0
 exact h0
end
end K
namespace K
open PySem L2 TM W01 Od
section
variable {Γ : Tab} {rows : List Row} {names : List Str}
noncomputable def lls (Fs:List (List Str)):List U:=Fs.map fun F=>U.lst (F.map .str)
noncomputable def AF : List TM.S := [.ite (.and [(.cmp .notin (.var 4) (.var 1)), (.bi .all [(.comp 1 false .seq [(.var 6)] [] (.cmp .isin (.var 0) (.var 2)))])])
          [.app 5 (.var 4)]
          []]
noncomputable def xp:List TM.S:=[.app 2 (.var 3),
   .for_ false [4] .seq [(.var 3)]
    [.put 1 (.var 4) (.cst (.bl true))],
   .set 5 (.lst []),
   .for_ true [4,6] .seq [(.var 0)] AF,
   .set 3 (.bi2 .sset [(.var 5)])]
theorem rO (h8:∀ r∈rows,r.2.length≤8) (hr:rows.length≤100) (hnm:∀ r∈rows,r.1∈names) (hnl:names.length<64) {K0 F:List Str} (x:RO rows K0 F) {Fs:List (List Str)} (hFs:Fs.length<200) (vs:List U) (o4 o5 o6:Option (Kd×U)) :
  ∃ (F':List Str) (vs':List U) (o4' o5' o6':Option (Kd×U)),RO rows (K0++F) F' ∧
   Run (execs Γ xp) [some (.loc,.tup (rows.map rwU)),some (.own,.dic K0 vs),some (.own,.lst (lls Fs)),some (.own,.lst (F.map .str)),o4,o5,o6] .nx
    [some (.loc,.tup (rows.map rwU)),some (.own,.dic (K0++F) vs'),some (.own,.lst (lls (Fs++[F]))),some (.own,.lst (F'.map .str)),o4',o5',o6']:=by
 have hsz:(20000:Nat)≤sizeLine:=by decide
 have hkf:=js x.kf.1 x.kf.2
 rw [List.length_map,List.length_append] at hkf
 let S:=fun (K:List Str) (vs:List U) (o4 o5 o6:Option (Kd×U))=>([some (.loc,.tup (rows.map rwU)),some (.own,.dic K vs),some (.own,.lst (lls (Fs++[F]))),some (.loc,.lst (F.map .str)),o4,o5,o6]:ag)
 obtain ⟨st1,run1,_,vs1,q4,e⟩:=cC (t:=false) (is:=[4]) (body:=execs Γ [.put 1 (.var 4) (.cst (.bl true))]) (rs:=[(.loc,.lst (F.map .str))]) (fun w:Str=>(Kd.loc,U.str w))
  (fun d r st=>d++r=F∧∃ (vs:List U) (o4:Option (Kd×U)),st=S (K0++d) vs o4 o5 o6) (fun _ _ _ _=>trivial) (fun d w r st hIx=>by
   obtain ⟨hdr,vs,o4,e⟩:=hIx
   subst e
   have hdl:d.length<F.length:=by have:=congrArg List.length hdr;simp at this;omega
   have hw:w∉K0++d:=fun z=>by
    have hn:=x.kf.1
    rw [←hdr,←List.append_assoc,List.nodup_append] at hn
    exact hn.2.2 w z w (by simp) rfl
   refine ⟨S (K0++d) vs (some (.loc,.str w)) o5 o6,S (K0++d++[w]) (vs++[.bl true]) (some (.loc,.str w)) o5 o6,dJ aZ,?_,by rw [←hdr];simp,vs++[.bl true],_,by rw [List.append_assoc]⟩
   exact qA (k:=.own) (rv:=(.loc,.bl true)) (rk:=(.loc,.str w)) aY rfl (ak rfl) (bA bC (bA bC aT)) rfl rfl (lZ (by rw [List.length_append];omega) hw) aF) F [] (S K0 vs o4 o5 o6) ⟨rfl,vs,o4,by rw [List.append_nil]⟩
 subst e
 rw [List.nil_append] at run1
 let K1:=K0++F
 let S2:=fun (acc:List Str) (o4 o6:Option (Kd×U))=>S K1 vs1 o4 (some (.own,.lst (acc.map .str))) o6
 obtain ⟨st2,run2,_,acc,q4',q6,e,hacc,hal⟩:=cC (t:=true) (is:=[4,6]) (body:=execs Γ AF) (rs:=[(.loc,.tup (rows.map rwU))]) (fun r:Row=>(Kd.loc,rwU r))
  (fun d r st=>d++r=rows∧∃ (acc:List Str) (o4 o6:Option (Kd×U)),st=S2 acc o4 o6∧(∀ w,w∈acc↔∃ r∈d,r.1=w∧r.1∉K1∧∀ y∈r.2,y∈K1)∧acc.length≤d.length) (fun _ _ _ _=>trivial) (fun d row r st hIx=>by
   obtain ⟨hdr,acc,o4,o6,e,hacc,hal⟩:=hIx
   subst e
   have hdl:d.length<100:=by have:=congrArg List.length hdr;simp at this;omega
   have hrow:row∈rows:=by rw [←hdr];simp
   have h8':=h8 row hrow
   let i4:Option (Kd×U):=some (.loc,.str row.1)
   let i6:Option (Kd×U):=some (.loc,.tup (row.2.map .str))
   have tc:Run (tst Γ (.and [(.cmp .notin (.var 4) (.var 1)),(.bi .all [(.comp 1 false .seq [(.var 6)] [] (.cmp .isin (.var 0) (.var 2)))])])) (S2 acc i4 i6) (!decide (row.1∈K1)&&row.2.all fun y=>decide (y∈K1)) (S2 acc i4 i6) :=
    nq (um (bZ (ak rfl) (aL rfl) ⟨⟨.own,rfl,rfl⟩,trivial⟩ gC) fun _=>fk (uo (kF (j:=1) (k:=.loc) (w:=.dic K1 vs1) (.inl rfl) (by omega) (ak rfl) (.inr rfl) fun _=>zb)))
   have htg:Run (cE true [4,6] (.loc,rwU row)) (S2 acc o4 o6) () (S2 acc i4 i6):=kB (.inl rfl)
   cases hp:(!decide (row.1∈K1)&&row.2.all fun y=>decide (y∈K1)) with
   |false =>
    rw [hp] at tc
    refine ⟨_,_,htg,eR tc (fun h=>by cases h) fun _=>aF,by rw [←hdr];simp,acc,_,_,rfl,fun w=>?_,by simp;omega⟩
    rw [hacc w]
    constructor
    ·rintro ⟨r',a,b⟩
     exact ⟨r',by simp [a],b⟩
    ·rintro ⟨r',a,b,c,dd⟩
     rcases List.mem_append.mp a with a|a
     ·exact ⟨r',a,b,c,dd⟩
     ·have:r'=row:=by simpa using a
      subst this
      have:(!decide (r'.1∈K1)&&r'.2.all fun y=>decide (y∈K1))=true:=by
       rw [decide_eq_false c]
       simpa using dd
      rw [this] at hp
      cases hp
   |true =>
    rw [hp] at tc
    have hp':=hp
    simp only [Bool.and_eq_true,Bool.not_eq_true',decide_eq_false_iff_not,List.all_eq_true,decide_eq_true_eq] at hp'
    have em:(acc++[row.1]).map U.str=acc.map U.str++[.str row.1]:=by simp
    refine ⟨_,S2 (acc++[row.1]) i4 i6,htg,eR tc (fun _=>?_) (fun h=>by cases h),by rw [←hdr];simp,acc++[row.1],_,_,rfl,fun w=>?_,by simp;omega⟩
    ·show Run _ _ _ [some (.loc,.tup (rows.map rwU)),some (.own,.dic K1 vs1),some (.own,.lst (lls (Fs++[F]))),some (.loc,.lst (F.map .str)),i4,some (.own,.lst ((acc++[row.1]).map .str)),i6]
     rw [em]
     exact gg (k:=.own) (k':=.own) (r:=(.loc,.str row.1)) rfl (ak rfl) bC rfl rfl (by rw [List.length_map];omega) aF
    ·rw [List.mem_append,hacc w]
     constructor
     ·rintro (⟨r',a,b⟩|a)
      ·exact ⟨r',by simp [a],b⟩
      ·have:w=row.1:=by simpa using a
       subst this
       exact ⟨row,by simp,rfl,hp'.1,hp'.2⟩
     ·rintro ⟨r',a,b,c⟩
      rcases List.mem_append.mp a with a|a
      ·exact .inl ⟨r',a,b,c⟩
      ·have:r'=row:=by simpa using a
       subst this
       exact .inr (by simp [b])) rows [] (S2 [] q4 o6) ⟨rfl,[],q4,o6,rfl,by simp,by simp⟩
 subst e
 rw [List.nil_append] at hacc hal
 have hin:∀ w∈acc,w∈names:=fun w hw=>by
  obtain ⟨r,a,b,_⟩:=(hacc w).mp hw
  exact b ▸ hnm r a
 have hset:=nF (k:=.bor 5) (acc:=acc) (by omega) (by have:=uu hin;omega)
 refine ⟨aO (aE acc),vs1,q4',some (.own,.lst (acc.map .str)),q6,x.step (nG acc) fun w=>by rw [ur,hacc w],?_⟩
 have e1:(F.map U.str).map (fun u=>(kE .loc,u))=F.map fun w=>(Kd.loc,U.str w):=by rw [List.map_map];rfl
 have e2:(rows.map rwU).map (fun u=>(kE .loc,u))=rows.map fun r=>(Kd.loc,rwU r):=by rw [List.map_map];rfl
 have ef:lls (Fs++[F])=lls Fs++[.lst (F.map .str)]:=by simp [lls]
 refine gg (k:=.own) (k':=.own) (r:=(.bor 3,.lst (F.map .str))) (u:=.lst (F.map .str)) rfl (aL rfl) (xj rfl) rfl rfl (by unfold lls;rw [List.length_map];omega) ?_
 rw [←ef]
 refine cR (rs:=[(.loc,.lst (F.map .str))]) (ar (ak rfl) aw) trivial (by show some (List.map (fun u=>(kE .loc,u)) _)=_;rw [e1]) rfl run1 ?_
 refine aD (r:=(.own,.lst [])) (cy aw trivial aT (Nat.zero_le _)) br ?_
 refine cR (rs:=[(.loc,.tup (rows.map rwU))]) (ar (ak rfl) aw) trivial (by show some (List.map (fun u=>(kE .loc,u)) _)=_;rw [e2]) rfl run2 ?_
 exact aD (xc (ar (aL rfl) aw) ⟨⟨.own,rfl,rfl⟩,trivial⟩ hset) br aF
theorem ju (h8:∀ r∈rows,r.2.length≤8) (hr:rows.length≤100) (hnm:∀ r∈rows,r.1∈names) (hnl:names.length<64):∀ (f:Nat) (K0 F:List Str) (Fs:List (List Str)) (vs:List U) (o4 o5 o6:Option (Kd×U)),RO rows K0 F→Fs.flatten=K0→Fs.length≤K0.length→rows.length - K0.length+1≤f →
  ∃ (K1:List Str) (Fs':List (List Str)) (st':ag),RO rows K1 []∧Fs'.flatten=K1∧st'[2]?=some (some (.own,.lst (lls Fs'))) ∧
   Run (fj (tst Γ (.cmp .gt (.bi .len [(.var 3)]) (.cst (.int 0)))) (execs Γ xp) f) [some (.loc,.tup (rows.map rwU)),some (.own,.dic K0 vs),some (.own,.lst (lls Fs)),some (.own,.lst (F.map .str)),o4,o5,o6] .nx st'
 |0,_,_,_,_,_,_,_,_,_,_,h=>by omega
 |f+1,K0,F,Fs,vs,o4,o5,o6,x,hf,hfl,h=>by
  have hkf:=js x.kf.1 x.kf.2
  rw [List.length_map,List.length_append] at hkf
  have tc:Run (tst Γ (.cmp .gt (.bi .len [(.var 3)]) (.cst (.int 0)))) [some (.loc,.tup (rows.map rwU)),some (.own,.dic K0 vs),some (.own,.lst (lls Fs)),some (.own,.lst (F.map .str)),o4,o5,o6] (decide (0<F.length)) [some (.loc,.tup (rows.map rwU)),some (.own,.dic K0 vs),some (.own,.lst (lls Fs)),some (.own,.lst (F.map .str)),o4,o5,o6] :=
   bZ (ji (ar (aL rfl) aw) ⟨⟨.own,rfl,rfl⟩,trivial⟩ wu) aY trivial (ko (by rw [List.length_map,Bool.eq_iff_iff];simp))
  by_cases h0:0<F.length
  ·rw [decide_eq_true h0] at tc
   obtain ⟨F',vs',o4',o5',o6',y,hb⟩:=rO (Γ:=Γ) h8 hr hnm hnl x (Fs:=Fs) (by omega) vs o4 o5 o6
   obtain ⟨K1,Fs',st',z1,z2,z3,z4⟩:=ju h8 hr hnm hnl f (K0++F) F' (Fs++[F]) vs' o4' o5' o6' y (by rw [List.flatten_append,hf];simp) (by rw [List.length_append,List.length_append,List.length_singleton];omega) (by rw [List.length_append];omega)
   exact ⟨K1,Fs',st',z1,z2,z3,y6 tc hb z4⟩
  ·rw [decide_eq_false h0] at tc
   have e:F=[]:=List.eq_nil_of_length_eq_zero (by omega)
   subst e
   exact ⟨K0,Fs,_,x,hf,rfl,xk tc⟩
theorem pK (h8:∀ r∈rows,r.2.length≤8) (hr:rows.length≤100) (hnm:∀ r∈rows,r.1∈names) (hnl:names.length<64):∃ (K1:List Str) (Fs:List (List Str)),RO rows K1 []∧Fs.flatten=K1∧bX Γ b8 [.tup (rows.map rwU)]=some (.ok (.own,.lst (lls Fs))):=by
 have hsz:(20000:Nat)≤sizeLine:=by decide
 have hst:TM.start [.tup (rows.map rwU)] 7=[some (.loc,.tup (rows.map rwU)),none,none,none,none,none,none]:=by simp [TM.start,imm,cn]
 let S0:ag:=[some (.loc,.tup (rows.map rwU)),some (.own,.dic [] []),some (.own,.lst []),none,none,none,none]
 let acc:=(rows.filter fun r=>decide (r.2=[])).map (·.1)
 have hacc:∀ w,w∈acc↔∃ r∈rows,r.1=w∧r.2=[]:=fun w=>by
  constructor
  ·intro h
   obtain ⟨r,a,b⟩:=List.mem_map.mp h
   obtain ⟨c,d⟩:=List.mem_filter.mp a
   exact ⟨r,c,b,by simpa using d⟩
  ·rintro ⟨r,a,b,c⟩
   exact List.mem_map.mpr ⟨r,List.mem_filter.mpr ⟨a,by simpa using c⟩,b⟩
 have hin:∀ w∈acc,w∈names:=fun w hw=>by
  obtain ⟨r,a,b,_⟩:=(hacc w).mp hw
  exact b ▸ hnm r a
 have hal:acc.length≤rows.length:=by
  show (List.map _ _).length≤_
  rw [List.length_map]
  exact List.length_filter_le _ _
 have gc:Run (ev Γ (.comp 2 true .seq [(.var 0)] [(.cmp .eq (.var 1) (.tup []))] (.var 0))) S0 (.own,.lst (acc.map .str)) S0:=by
  have hx:=l_ (st:=S0) (cond:=aS Γ [(.cmp .eq (.var 1) (.tup []))]) (elt:=ev Γ (.var 0)) (src:=[(.loc,.tup (rows.map rwU))]) trivial (fun r:Row=>U.str r.1) (fun r:Row=>U.tup (r.2.map .str)) (fun r:Row=>U.str r.1) (fun r=>decide (r.2=[])) rows [] (by simp;omega)
   (fun y _=>⟨fk (bZ (ak rfl) (ni aw trivial aT (Nat.zero_le _)) trivial wI),ak rfl⟩)
  rw [List.nil_append] at hx
  have e:(rows.map rwU).map (fun u=>(kE .loc,u))=rows.map fun r=>(Kd.loc,U.tup [.str r.1,.tup (r.2.map .str)]):=by rw [List.map_map];rfl
  have e2:((rows.filter fun r=>decide (r.2=[])).map fun r=>U.str r.1)=acc.map U.str:=by simp [acc]
  rw [e2] at hx
  exact ei (rs:=[(.loc,.tup (rows.map rwU))]) (ar (ak rfl) aw) trivial (by show some _=_;rw [e]) hx
 have hset:=nF (k:=.own) (acc:=acc) (by omega) (by have:=uu hin;omega)
 have x0:RO rows [] (aO (aE acc)):=RO.start (nG acc) fun w=>by rw [ur,hacc w]
 obtain ⟨K1,Fs,st',z1,z2,z3,z4⟩:=ju (Γ:=Γ) h8 hr hnm hnl fuel [] _ [] [] none none none x0 rfl (Nat.le_refl _) (by unfold fuel;simp;omega)
 refine ⟨K1,Fs,z1,z2,?_⟩
 exact aU rfl (.inl rfl) hst (aD (r:=(.own,.dic [] [])) lN br (aD (r:=(.own,.lst [])) (cy aw trivial aT (Nat.zero_le _)) br (aD (xc (ar gc aw) trivial hset) br (xl z4 (dS (aL z3) (kn z3))))))
theorem pL (h8:∀ r∈rows,r.2.length≤8) {sts:List (Str×Nat)} (hl:sts.length<64) (hv:vS rows [] sts):bX Γ b9 [.tup (rows.map rwU),.lst (sts.map stN)]=some (.ok (.own,.lst ((aO (sts.map (·.1))).map .str))):=by
 have hsz:(20000:Nat)≤sizeLine:=by decide
 have hst:TM.start [.tup (rows.map rwU),.lst (sts.map stN)] 6=[some (.loc,.tup (rows.map rwU)),some (.any,.lst (sts.map stN)),none,none,none,none]:=by simp [TM.start,imm,cn]
 let S:=fun (K:List Str) (o3 o4 o5:Option (Kd×U))=>([some (.loc,.tup (rows.map rwU)),some (.any,.lst (sts.map stN)),some (.own,.lst (K.map .str)),o3,o4,o5]:ag)
 let body:List TM.S:=[.ite (.or [(.not (.isi (.var 3) .tuple)),(.cmp .ne (.bi .len [(.var 3)]) (.cst (.int 2))),(.not (.isi (.idx (.var 3) (.cst (.int 1))) .int)),(.isi (.idx (.var 3) (.cst (.int 1))) .bool)])
    [.ret (.cst .non)]
    [],
   .setT [4,5] (.var 3),
   .ite (.or [(.cmp .isin (.var 4) (.var 2)),(.cmp .lt (.var 5) (.cst (.int 0))),(.cmp .ge (.var 5) (.bi .len [(.var 0)])),(.cmp .ne (.idx (.idx (.var 0) (.var 5)) (.cst (.int 0))) (.var 4))])
    [.ret (.cst .non)]
    [],
   .ite (.not (.bi .all [(.comp 1 false .seq [(.idx (.idx (.var 0) (.var 5)) (.cst (.int 1)))] [] (.cmp .isin (.var 0) (.var 3)))]))
    [.ret (.cst .non)]
    [],
   .app 2 (.var 4)]
 obtain ⟨st',hrun,hdr,o3,o4,o5,e,_⟩:=cC (t:=false) (is:=[3]) (body:=execs Γ body) (rs:=[(.any,.lst (sts.map stN))]) (fun s:Str×Nat=>(Kd.any,stN s))
  (fun d r st=>d++r=sts∧∃ o3 o4 o5:Option (Kd×U),st=S (d.map (·.1)) o3 o4 o5∧vS rows (d.map (·.1)) r) (fun _ _ _ _=>trivial) (fun d s r st hIx=>by
   obtain ⟨hdr,o3,o4,o5,e,v⟩:=hIx
   subst e
   obtain ⟨⟨hs1,row,hrow,hrw,htold⟩,v'⟩:=v
   obtain ⟨w,p⟩:=s
   dsimp only at hs1 hrow hrw
   subst hrw
   have hdl:d.length<64:=by have:=congrArg List.length hdr;simp at this;omega
   have hp:p<rows.length:=(List.getElem?_eq_some_iff.mp hrow).1
   have h8':=h8 row (List.mem_of_getElem? hrow)
   let K0:=d.map (·.1)
   let i3:Option (Kd×U):=some (.any,stN (row.1,p))
   let i4:Option (Kd×U):=some (.any,.str row.1)
   let i5:Option (Kd×U):=some (.any,.int (p:Nat))
   have hix:fR (.any,stN (row.1,p)) (.int 1)=some (.any,.int (p:Nat)):=rfl
   have t1:Run (tst Γ (.or [(.not (.isi (.var 3) .tuple)),(.cmp .ne (.bi .len [(.var 3)]) (.cst (.int 2))),(.not (.isi (.idx (.var 3) (.cst (.int 1))) .int)),(.isi (.idx (.var 3) (.cst (.int 1))) .bool)])) (S K0 i3 o4 o5) false (S K0 i3 o4 o5) :=
    Ao (km (qu (qB (b:=true) (aK rfl) rfl)) (km (bZ (ji (ar (aK rfl) aw) trivial lQ) aY trivial rfl) (km (qu (qB (b:=true) (cQ (aK rfl) aY trivial hix) rfl)) (xf (qB (b:=false) (cQ (aK rfl) aY trivial hix) rfl)))))
   have hat:=qC hrow
   have gr:∀ o3:Option (Kd×U),Run (ev Γ (.idx (.var 0) (.var 5))) (S K0 o3 i4 i5) (.loc,rwU row) (S K0 o3 i4 i5):=fun o3=>cQ (ak rfl) (aK rfl) trivial (kO hat)
   have t2:Run (tst Γ (.or [(.cmp .isin (.var 4) (.var 2)),(.cmp .lt (.var 5) (.cst (.int 0))),(.cmp .ge (.var 5) (.bi .len [(.var 0)])),(.cmp .ne (.idx (.idx (.var 0) (.var 5)) (.cst (.int 0))) (.var 4))])) (S K0 i3 i4 i5) false (S K0 i3 i4 i5) :=
    Ao (km (bZ (aK rfl) (aL rfl) ⟨⟨.own,rfl,rfl⟩,trivial⟩ (by rw [xm,decide_eq_false hs1])) (km (bZ (aK rfl) aY trivial (t8 (by simp))) (km (bZ (aK rfl) (ji (ar (ak rfl) aw) trivial lQ) trivial (AE (by rw [List.length_map];simp;omega)))
     (xf (bZ (cQ (x:=(.loc,rwU row)) (gr _) aY trivial rfl) (aK rfl) trivial (by rw [zc];simp))))))
   have hall:(row.2.all fun y=>decide (y∈K0))=true:=by
    rw [List.all_eq_true]
    intro y hy
    exact decide_eq_true (htold y hy)
   have t3:Run (tst Γ (.not (.bi .all [(.comp 1 false .seq [(.idx (.idx (.var 0) (.var 5)) (.cst (.int 1)))] [] (.cmp .isin (.var 0) (.var 3)))]))) (S K0 i3 i4 i5) (!(row.2.all fun y=>decide (y∈K0))) (S K0 i3 i4 i5) :=
    qu (uo (kF (j:=2) (k:=.loc) (w:=.lst (K0.map .str)) (.inl rfl) (by omega) (cQ (x:=(.loc,rwU row)) (gr _) aY trivial rfl) (.inr rfl) fun _=>xm))
   rw [hall] at t3
   have em:((d++[(row.1,p)]).map (·.1)).map U.str=K0.map U.str++[.str row.1]:=by simp [K0]
   refine ⟨S K0 i3 o4 o5,S ((d++[(row.1,p)]).map (·.1)) i3 i4 i5,dJ jj,?_,by rw [←hdr];simp,_,_,_,rfl,by simpa using v'⟩
   show Run _ _ _ [some (.loc,.tup (rows.map rwU)),some (.any,.lst (sts.map stN)),some (.own,.lst (((d++[(row.1,p)]).map (·.1)).map .str)),i3,i4,i5]
   rw [em]
   refine eR t1 (fun h=>by cases h) fun _=>za (st1:=S K0 i3 o4 o5) (st2:=S K0 i3 i4 i5) (r:=(.any,stN (row.1,p))) (aK rfl) (kB (.inr rfl)) (eR t2 (fun h=>by cases h) fun _=>eR t3 (fun h=>by cases h) fun _=>?_)
   exact gg (k:=.own) (k':=.own) (r:=(.any,.str row.1)) rfl (aK rfl) (nj rfl) rfl rfl (by simp [K0];omega) aF) sts [] (S [] none none none) ⟨rfl,none,none,none,rfl,hv⟩
 subst e
 rw [List.nil_append] at hrun
 have e:(sts.map stN).map (fun u=>(kE .any,u))=sts.map fun s=>(Kd.any,stN s):=by rw [List.map_map];rfl
 have t0:Run (tst Γ (.not (.isi (.var 1) .list))) (S [] none none none) false (S [] none none none):=qu (qB (b:=true) (aK rfl) rfl)
 have hsort:biU .sorted [(.bor 2,.lst ((sts.map (·.1)).map .str))]=some (.own,.lst ((aO (sts.map (·.1))).map .str)):=by
  show (strsOf ((sts.map (·.1)).map .str)).bind _=_
  rw [cm]
  show (if (sts.map (·.1)).length<64 then _ else _)=_
  rw [if_pos (by simpa using hl)]
 exact aU rfl (.inl rfl) hst (aD (r:=(.own,.lst [])) (cy aw trivial aT (Nat.zero_le _)) br (eR t0 (fun h=>by cases h) fun _=>cR (rs:=[(.any,.lst (sts.map stN))]) (st1:=S [] none none none) (ar (aK rfl) aw) trivial rfl rfl (by rw [e];exact hrun)
  (dS (ji (ar (aL rfl) aw) ⟨⟨.own,rfl,rfl⟩,trivial⟩ hsort) nv)))
theorem wL {ns:List Int}{sts:List (Str×Nat)}{Fs:List (List Str)}{K1:List Str} (hmade:Γ "_law_made" [.lst (ns.map .int)]=some (.ok (.loc,.tup (rows.map rwU)))) (hrounds:Γ "_law_rounds" [.tup (rows.map rwU)]=some (.ok (.own,.lst (lls Fs)))) (hF:Fs.flatten=K1) (hKl:K1.length<64)
  (hord:Γ "order" [.tup (rows.map rwU)]=some (.ok (.own,.lst (sts.map stN)))) (hsl:sts.length<64) (hwalk:Γ "_law_walked" [.tup (rows.map rwU),.lst (sts.map stN)]=some (.ok (.own,.lst ((aO (sts.map (·.1))).map .str)))) (hp:(sts.map (·.1)).Perm K1) :
  bX Γ e_ [rA ns]=some (.ok (.loc,.bl true)):=by
 have hsz:(20000:Nat)≤sizeLine:=by decide
 have hst:TM.start [rA ns] 6=[some (.any,.lst (ns.map .int)),none,none,none,none,none]:=rfl
 let i0:Option (Kd×U):=some (.any,.lst (ns.map .int))
 let i1:Option (Kd×U):=some (.loc,.tup (rows.map rwU))
 let S:=fun (l:List Str) (o3 o4 o5:Option (Kd×U))=>([i0,i1,some (.own,.lst (l.map .str)),o3,o4,o5]:ag)
 obtain ⟨st1,run1,_,o3,e⟩:=cC (t:=false) (is:=[3]) (body:=execs Γ [.ext 2 (.var 3)]) (rs:=[(.own,.lst (lls Fs))]) (fun F:List Str=>(Kd.loc,U.lst (F.map .str)))
  (fun d r st=>d++r=Fs∧∃ o3:Option (Kd×U),st=S d.flatten o3 none none) (fun _ _ _ _=>trivial) (fun d y r st hIx=>by
   obtain ⟨hdr,o3,e⟩:=hIx
   subst e
   have hb:d.flatten.length+y.length<64:=by
    have:=congrArg (fun l:List (List Str)=>l.flatten.length) hdr
    simp only [List.flatten_append,List.flatten_cons,List.length_append,hF] at this
    omega
   refine ⟨S d.flatten (some (.loc,.lst (y.map .str))) none none,S (d++[y]).flatten (some (.loc,.lst (y.map .str))) none none,dJ aZ,?_,by rw [←hdr];simp,_,rfl⟩
   have em:(d++[y]).flatten.map U.str=d.flatten.map U.str++y.map U.str:=by simp
   show Run _ _ _ [i0,i1,some (.own,.lst ((d++[y]).flatten.map .str)),some (.loc,.lst (y.map .str)),none,none]
   rw [em]
   exact uq (k:=.own) (k':=.own) rfl (ak rfl) rfl rfl (lW (by rw [List.length_map,List.length_map];omega) rfl) aF) Fs [] (S [] none none none) ⟨rfl,none,rfl⟩
 subst e
 rw [List.nil_append,hF] at run1
 let body:List TM.S:=[.set 5 (.call "order" [(.var 1)]),
   .ite (.cmp .ne (.call "_law_walked" [(.var 1),(.var 5)]) (.bi .sorted [(.var 2)]))
    [.ret (.cst (.bl false))]
    [],
   .rvs 5,
   .app 5 (.tup [(.cst (.str "a")),(.cst (.int 0))])]
 have hsort:biU .sorted [(.bor 2,.lst (K1.map .str))]=some (.own,.lst ((aO K1).map .str)):=by
  show (strsOf (K1.map .str)).bind _=_
  rw [cm]
  show (if K1.length<64 then _ else _)=_
  rw [if_pos hKl]
 have heq:aO (sts.map (·.1))=aO K1:=gL hp
 obtain ⟨st2,run2,_,o4,o5,e⟩:=cC (t:=false) (is:=[4]) (body:=execs Γ body) (rs:=[(.loc,.int (2:Nat))]) (fun i:Nat=>(Kd.loc,U.int (0+(i:Int))))
  (fun d r st=>True∧∃ o4 o5:Option (Kd×U),st=S K1 o3 o4 o5) (fun _ _ _ _=>trivial) (fun d i r st hIx=>by
   obtain ⟨_,o4,o5,e⟩:=hIx
   subst e
   let i4:Option (Kd×U):=some (.loc,.int (0+(i:Int)))
   let i5:Option (Kd×U):=some (.own,.lst (sts.map stN))
   have tc:Run (tst Γ (.cmp .ne (.call "_law_walked" [(.var 1),(.var 5)]) (.bi .sorted [(.var 2)]))) (S K1 o3 i4 i5) false (S K1 o3 i4 i5) :=
    bZ (da (ar (ak rfl) (ar (aL rfl) aw)) ⟨⟨.own,rfl,rfl⟩,trivial⟩ hwalk) (ji (ar (aL rfl) aw) ⟨⟨.own,rfl,rfl⟩,trivial⟩ hsort) trivial (by
     show bh .ne (.lst ((aO (sts.map (·.1))).map .str)) (.lst ((aO K1).map .str))=some false
     rw [heq]
     exact rL (pE _ 49))
   refine ⟨S K1 o3 i4 o5,S K1 o3 i4 (some (.own,.lst ((sts.map stN).reverse++[.tup [.str "a",.int 0]]))),dJ aZ,?_,trivial,_,_,rfl⟩
   refine aD (r:=(.own,.lst (sts.map stN))) (da (ar (ak rfl) aw) trivial hord) br (eR tc (fun h=>by cases h) fun _=>AB rfl ?_)
   exact gg (k:=.own) (k':=.own) (r:=(.loc,.tup [.str "a",.int 0])) rfl (ni (ar aY (ar aY aw)) trivial (bA bC (bA bC aT)) (by show 2≤sizeLine;omega)) bC rfl rfl (by rw [List.length_reverse,List.length_map];omega) aF) (List.range 2) [] (S K1 o3 none none) ⟨trivial,none,none,rfl⟩
 subst e
 have e1:(lls Fs).map (fun u=>(kE .own,u))=Fs.map fun F=>(Kd.loc,U.lst (F.map .str)):=by unfold lls;rw [List.map_map];rfl
 have hit:=jl (k:=.loc) (n:=2) (by omega)
 exact aU rfl (.inr rfl) hst (aD (r:=(.loc,.tup (rows.map rwU))) (da (ar (aK rfl) aw) trivial hmade) aZ (aD (r:=(.own,.lst [])) (cy aw trivial aT (Nat.zero_le _)) br
  (cR (rs:=[(.own,.lst (lls Fs))]) (st1:=S [] none none none) (ar (da (ar (ak rfl) aw) trivial hrounds) aw) trivial (by show some (List.map (fun u=>(kE .own,u)) _)=_;rw [e1]) rfl run1
   (cR (rs:=[(.loc,.int (2:Nat))]) (ar aY aw) trivial hit rfl run2 (dS aY ny)))))
end
theorem makers:uj prog:=⟨rfl,rfl,rfl,rfl,rfl,rfl,rfl⟩
theorem pure (ns:List Int) (hns:ns.length≤63):sem prog 5 "law" [rA ns]=some (.ok (.loc,.bl true)):=by
 obtain ⟨names,rows,k1,k2,k3,k4,k5,k6,k7,k8⟩:=uh (Γ:=sem prog 3) makers.jq makers.drawnOk makers.namesOk makers.y4 ns
 have hmade:sem prog 4 "_law_made" [.lst (ns.map .int)]=some (.ok (.loc,.tup (rows.map rwU))):=(aR (show Has prog "_law_made" ug from rfl) _).trans k8
 have h8:∀ r∈rows,r.2.length≤8:=fun r hr=>(k7 r hr).few
 have hO:Once rows:=fun r hr=>(k7 r hr).once
 have hnm:∀ r∈rows,r.1∈names:=fun r hr=>(k7 r hr).word
 have hG:xn (sem prog 1):=fun ps hl=>by
  obtain ⟨ks,a,b⟩:=mz (Γ:=sem prog 0) hl
  exact ⟨ks,a,(aR (show Has prog "gathered" cS from rfl) _).trans b⟩
 have hP:xo (sem prog 2) rows:=by
  obtain ⟨ks,a,b⟩:=pJ hG hO h8 (by omega)
  exact ⟨ks,a,(aR (show Has prog "places_that_tell" aW from rfl) _).trans b⟩
 have hN:uL (sem prog 2) rows:=fun R K0 vs hR=>by
  obtain ⟨st,a,b⟩:=jK (Γ:=sem prog 1) hnm (by omega) hR (K0:=K0) (vs:=vs)
  exact ⟨st,a,(aR (show Has prog "new_steps" cz from rfl) _).trans b⟩
 obtain ⟨sts,fnd,s1,s2,s3,s4⟩:=eV hO (by omega) hP hN
 have s5:sem prog 3 "steps_in_rounds" [.tup (rows.map rwU)]=some (.ok (.own,.lst (eU fnd))):=(aR (show Has prog "steps_in_rounds" bf from rfl) _).trans s4
 have hnd:=gm s1.ok .nil
 rw [List.nil_append] at hnd
 have hsn:=uB s1.ok (fun C _ x hx=>by cases hx)
 rw [List.nil_append] at hsn
 have inN:∀ x∈rows.map (·.1),x∈names:=fun x hx=>by
  obtain ⟨r,a,b⟩:=List.mem_map.mp hx
  exact b ▸ hnm r a
 have hsl:sts.length≤14:=by
  have:=js hnd (L:=names) fun x hx=>inN x (gn s1.ok x hx)
  rw [List.length_map] at this
  omega
 have hord:sem prog 4 "order" [.tup (rows.map rwU)]=some (.ok (.own,.lst (sts.map stN))):=(aR (show Has prog "order" eN from rfl) _).trans (rN s5 s2 (by omega))
 obtain ⟨K1,Fs,r1,r2,r3⟩:=pK (Γ:=sem prog 3) h8 (by omega) hnm (by omega)
 have hrounds:sem prog 4 "_law_rounds" [.tup (rows.map rwU)]=some (.ok (.own,.lst (lls Fs))):=(aR (show Has prog "_law_rounds" b8 from rfl) _).trans r3
 have hKl:K1.length≤14:=by
  have:=js r1.k1 (L:=names) fun x hx=>inN x (r1.wds x hx)
  omega
 have hwalk:sem prog 4 "_law_walked" [.tup (rows.map rwU),.lst (sts.map stN)]=some (.ok (.own,.lst ((aO (sts.map (·.1))).map .str))):=(aR (show Has prog "_law_walked" b9 from rfl) _).trans (pL h8 (by omega) s1.ok)
 exact (aR (show Has prog "law" e_ from rfl) _).trans (wL hmade hrounds r2 (by omega) hord (by omega) hwalk (same hnd r1.k1 hsn r1.snd s1.closed r1.closed))
end K
namespace K
open PySem L2 TM
theorem Bj {K:PySem.W.Frag}{h:Heap}{mg:Str→Option Value}{fa:Addr} (X:K.In h) (G:h.Ns mainGlobals mg) (hfa:mg "law"=some (.ref fa))
  {oc0 kV0 dc0 pm0 cd0 ct0:Value} {od0 an0:Option Addr} {sl0:Array (Option Value)} {f0:Addr} {oc1 kV1 dc1 pm1 cd1 ct1:Value} {od1 an1:Option Addr} {sl1:Array (Option Value)} {f1:Addr} {oc2 kV2 dc2 pm2 cd2 ct2:Value} {od2 an2:Option Addr} {sl2:Array (Option Value)} {f2:Addr} {oc3 kV3 dc3 pm3 cd3 ct3:Value} {od3 an3:Option Addr} {sl3:Array (Option Value)} {f3:Addr} {oc4 kV4 dc4 pm4 cd4 ct4:Value} {od4 an4:Option Addr} {sl4:Array (Option Value)} {f4:Addr} {oc5 kV5 dc5 pm5 cd5 ct5:Value} {od5 an5:Option Addr} {sl5:Array (Option Value)} {f5:Addr} {oc6 kV6 dc6 pm6 cd6 ct6:Value} {od6 an6:Option Addr} {sl6:Array (Option Value)} {f6:Addr} {oc7 kV7 dc7 pm7 cd7 ct7:Value} {od7 an7:Option Addr} {sl7:Array (Option Value)} {f7:Addr} {oc8 kV8 dc8 pm8 cd8 ct8:Value} {od8 an8:Option Addr} {sl8:Array (Option Value)} {f8:Addr} {oc9 kV9 dc9 pm9 cd9 ct9:Value} {od9 an9:Option Addr} {sl9:Array (Option Value)} {f9:Addr} {oc10 kV10 dc10 pm10 cd10 ct10:Value} {od10 an10:Option Addr} {sl10:Array (Option Value)} {f10:Addr} {oc11 kV11 dc11 pm11 cd11 ct11:Value} {od11 an11:Option Addr} {sl11:Array (Option Value)} {f11:Addr} {oc12 kV12 dc12 pm12 cd12 ct12:Value} {od12 an12:Option Addr} {sl12:Array (Option Value)} {f12:Addr} {oc13 kV13 dc13 pm13 cd13 ct13:Value} {od13 an13:Option Addr} {sl13:Array (Option Value)} {f13:Addr} {oc14 kV14 dc14 pm14 cd14 ct14:Value} {od14 an14:Option Addr} {sl14:Array (Option Value)} {f14:Addr} {oc15 kV15 dc15 pm15 cd15 ct15:Value} {od15 an15:Option Addr} {sl15:Array (Option Value)} {f15:Addr}
  (a0:PySem.W.nsIn K mainGlobals "gathered"=some (some (.ref f0))) (l0:K.lookup f0=some ⟨oc0,od0,.func (PySem.W.fnOf "gathered" "gathered" (aN (top 1)) (ao (top 1)) (ae (top 1)) .none kV0 dc0 pm0 an0 cd0 ct0),sl0⟩) (c0:PySem.W.codeIn K cd0 "gathered"=true) (k0:PySem.W.keepIn K (.ref f0)=true)
  (a1:PySem.W.nsIn K mainGlobals "places_that_tell"=some (some (.ref f1))) (l1:K.lookup f1=some ⟨oc1,od1,.func (PySem.W.fnOf "places_that_tell" "places_that_tell" (aN (top 3)) (ao (top 3)) (ae (top 3)) .none kV1 dc1 pm1 an1 cd1 ct1),sl1⟩) (c1:PySem.W.codeIn K cd1 "places_that_tell"=true) (k1:PySem.W.keepIn K (.ref f1)=true)
  (a2:PySem.W.nsIn K mainGlobals "new_steps"=some (some (.ref f2))) (l2:K.lookup f2=some ⟨oc2,od2,.func (PySem.W.fnOf "new_steps" "new_steps" (aN (top 4)) (ao (top 4)) (ae (top 4)) .none kV2 dc2 pm2 an2 cd2 ct2),sl2⟩) (c2:PySem.W.codeIn K cd2 "new_steps"=true) (k2:PySem.W.keepIn K (.ref f2)=true)
  (a3:PySem.W.nsIn K mainGlobals "steps_in_rounds"=some (some (.ref f3))) (l3:K.lookup f3=some ⟨oc3,od3,.func (PySem.W.fnOf "steps_in_rounds" "steps_in_rounds" (aN (top 5)) (ao (top 5)) (ae (top 5)) .none kV3 dc3 pm3 an3 cd3 ct3),sl3⟩) (c3:PySem.W.codeIn K cd3 "steps_in_rounds"=true) (k3:PySem.W.keepIn K (.ref f3)=true)
  (a4:PySem.W.nsIn K mainGlobals "order"=some (some (.ref f4))) (l4:K.lookup f4=some ⟨oc4,od4,.func (PySem.W.fnOf "order" "order" (aN (top 6)) (ao (top 6)) (ae (top 6)) .none kV4 dc4 pm4 an4 cd4 ct4),sl4⟩) (c4:PySem.W.codeIn K cd4 "order"=true) (k4:PySem.W.keepIn K (.ref f4)=true)
  (a5:PySem.W.nsIn K mainGlobals "_law_mix"=some (some (.ref f5))) (l5:K.lookup f5=some ⟨oc5,od5,.func (PySem.W.fnOf "_law_mix" "_law_mix" (aN (top 8)) (ao (top 8)) (ae (top 8)) .none kV5 dc5 pm5 an5 cd5 ct5),sl5⟩) (c5:PySem.W.codeIn K cd5 "_law_mix"=true) (k5:PySem.W.keepIn K (.ref f5)=true)
  (a6:PySem.W.nsIn K mainGlobals "_law_cell"=some (some (.ref f6))) (l6:K.lookup f6=some ⟨oc6,od6,.func (PySem.W.fnOf "_law_cell" "_law_cell" (aN (top 9)) (ao (top 9)) (ae (top 9)) .none kV6 dc6 pm6 an6 cd6 ct6),sl6⟩) (c6:PySem.W.codeIn K cd6 "_law_cell"=true) (k6:PySem.W.keepIn K (.ref f6)=true)
  (a7:PySem.W.nsIn K mainGlobals "_law_drawn"=some (some (.ref f7))) (l7:K.lookup f7=some ⟨oc7,od7,.func (PySem.W.fnOf "_law_drawn" "_law_drawn" (aN (top 10)) (ao (top 10)) (ae (top 10)) .none kV7 dc7 pm7 an7 cd7 ct7),sl7⟩) (c7:PySem.W.codeIn K cd7 "_law_drawn"=true) (k7:PySem.W.keepIn K (.ref f7)=true)
  (a8:PySem.W.nsIn K mainGlobals "_law_name"=some (some (.ref f8))) (l8:K.lookup f8=some ⟨oc8,od8,.func (PySem.W.fnOf "_law_name" "_law_name" (aN (top 11)) (ao (top 11)) (ae (top 11)) .none kV8 dc8 pm8 an8 cd8 ct8),sl8⟩) (c8:PySem.W.codeIn K cd8 "_law_name"=true) (k8:PySem.W.keepIn K (.ref f8)=true)
  (a9:PySem.W.nsIn K mainGlobals "_law_names"=some (some (.ref f9))) (l9:K.lookup f9=some ⟨oc9,od9,.func (PySem.W.fnOf "_law_names" "_law_names" (aN (top 12)) (ao (top 12)) (ae (top 12)) .none kV9 dc9 pm9 an9 cd9 ct9),sl9⟩) (c9:PySem.W.codeIn K cd9 "_law_names"=true) (k9:PySem.W.keepIn K (.ref f9)=true)
  (a10:PySem.W.nsIn K mainGlobals "_law_told"=some (some (.ref f10))) (l10:K.lookup f10=some ⟨oc10,od10,.func (PySem.W.fnOf "_law_told" "_law_told" (aN (top 13)) (ao (top 13)) (ae (top 13)) .none kV10 dc10 pm10 an10 cd10 ct10),sl10⟩) (c10:PySem.W.codeIn K cd10 "_law_told"=true) (k10:PySem.W.keepIn K (.ref f10)=true)
  (a11:PySem.W.nsIn K mainGlobals "_law_book"=some (some (.ref f11))) (l11:K.lookup f11=some ⟨oc11,od11,.func (PySem.W.fnOf "_law_book" "_law_book" (aN (top 14)) (ao (top 14)) (ae (top 14)) .none kV11 dc11 pm11 an11 cd11 ct11),sl11⟩) (c11:PySem.W.codeIn K cd11 "_law_book"=true) (k11:PySem.W.keepIn K (.ref f11)=true)
  (a12:PySem.W.nsIn K mainGlobals "_law_made"=some (some (.ref f12))) (l12:K.lookup f12=some ⟨oc12,od12,.func (PySem.W.fnOf "_law_made" "_law_made" (aN (top 15)) (ao (top 15)) (ae (top 15)) .none kV12 dc12 pm12 an12 cd12 ct12),sl12⟩) (c12:PySem.W.codeIn K cd12 "_law_made"=true) (k12:PySem.W.keepIn K (.ref f12)=true)
  (a13:PySem.W.nsIn K mainGlobals "_law_rounds"=some (some (.ref f13))) (l13:K.lookup f13=some ⟨oc13,od13,.func (PySem.W.fnOf "_law_rounds" "_law_rounds" (aN (top 16)) (ao (top 16)) (ae (top 16)) .none kV13 dc13 pm13 an13 cd13 ct13),sl13⟩) (c13:PySem.W.codeIn K cd13 "_law_rounds"=true) (k13:PySem.W.keepIn K (.ref f13)=true)
  (a14:PySem.W.nsIn K mainGlobals "_law_walked"=some (some (.ref f14))) (l14:K.lookup f14=some ⟨oc14,od14,.func (PySem.W.fnOf "_law_walked" "_law_walked" (aN (top 17)) (ao (top 17)) (ae (top 17)) .none kV14 dc14 pm14 an14 cd14 ct14),sl14⟩) (c14:PySem.W.codeIn K cd14 "_law_walked"=true) (k14:PySem.W.keepIn K (.ref f14)=true)
  (a15:PySem.W.nsIn K mainGlobals "law"=some (some (.ref f15))) (l15:K.lookup f15=some ⟨oc15,od15,.func (PySem.W.fnOf "law" "law" (aN (top 18)) (ao (top 18)) (ae (top 18)) .none kV15 dc15 pm15 an15 cd15 ct15),sl15⟩) (c15:PySem.W.codeIn K cd15 "law"=true) (k15:PySem.W.keepIn K (.ref f15)=true)
  (z0:PySem.W.nsIn K mainGlobals "len"=some none)
  (z1:PySem.W.nsIn K mainGlobals "sorted"=some none)
  (z2:PySem.W.nsIn K mainGlobals "repr"=some none)
  (z3:PySem.W.nsIn K mainGlobals "max"=some none)
  (z4:PySem.W.nsIn K mainGlobals "min"=some none)
  (z5:PySem.W.nsIn K mainGlobals "all"=some none)
  (z6:PySem.W.nsIn K mainGlobals "any"=some none)
  (z7:PySem.W.nsIn K mainGlobals "list"=some none)
  (z8:PySem.W.nsIn K mainGlobals "tuple"=some none)
  (z9:PySem.W.nsIn K mainGlobals "str"=some none)
  (z10:PySem.W.nsIn K mainGlobals "int"=some none)
  (z11:PySem.W.nsIn K mainGlobals "range"=some none)
  (z12:PySem.W.nsIn K mainGlobals "enumerate"=some none)
  (z13:PySem.W.nsIn K mainGlobals "zip"=some none)
  (z14:PySem.W.nsIn K mainGlobals "reversed"=some none)
  (z15:PySem.W.nsIn K mainGlobals "set"=some none)
  (z16:PySem.W.nsIn K mainGlobals "dict"=some none)
  (z17:PySem.W.nsIn K mainGlobals "sum"=some none)
  (z18:PySem.W.nsIn K mainGlobals "isinstance"=some none)
  (z19:PySem.W.nsIn K mainGlobals "bool"=some none) :
  (∀ y∈bo,mg y=none)∧(∀ p∈ck.gl,∃ val v,mg p.1=some val∧RelV v val∧∀ (C:Ct) S H,Rep C S H p.2 v)∧(∀ g∈prog,Ld ck K mg g) ∧
   ∃ (qual:Str) (st:Stmt) (fd:FuncData) (N:List Str),Fun K e_.name qual st fa fd∧aG N ["_law_script"] (ae st)∧N.length=e_.ns∧1=e_.np∧bc ck e_.body N (ae st) (ao st)=true∧∀ (s:Shared) (u:Value),BindsTo s fd ⟨[u],[]⟩ [("_law_script",u)]:=by
 have e:=hfa.symm.trans (PySem.W.mg_of X G a15)
 cases e
 have F0:=bL (st:=top 1) l0 c0 k0
 have D0:Ld ck K mg cS:=⟨_,top 1,_,_,["pairs","found","key","value"],["pairs"],F0,PySem.W.mg_of X G a0,F0.binds (ps:=["pairs"]) (fun _ _ _ _ _ _ us hl=>match us,hl with|[_],_=>rfl),nP,rfl,rfl,nQ⟩
 have F1:=bL (st:=top 3) l1 c1 k1
 have D1:Ld ck K mg aW:=⟨_,top 3,_,_,["book","pairs","place","row"],["book"],F1,PySem.W.mg_of X G a1,F1.binds (ps:=["book"]) (fun _ _ _ _ _ _ us hl=>match us,hl with|[_],_=>rfl),eS,rfl,rfl,eT⟩
 have F2:=bL (st:=top 4) l2 c2 k2
 have D2:Ld ck K mg cz:=⟨_,top 4,_,_,["book","places","known","steps","place","word"],["book","places","known"],F2,PySem.W.mg_of X G a2,F2.binds (ps:=["book","places","known"]) (fun _ _ _ _ _ _ us hl=>match us,hl with|[_,_,_],_=>rfl),mf,rfl,rfl,mj⟩
 have F3:=bL (st:=top 5) l3 c3 k3
 have D3:Ld ck K mg bf:=⟨_,top 5,_,_,["book","tellers","missing","known","found","ready","steps","word","place","teller"],["book"],F3,PySem.W.mg_of X G a3,F3.binds (ps:=["book"]) (fun _ _ _ _ _ _ us hl=>match us,hl with|[_],_=>rfl),fy,rfl,rfl,fz⟩
 have F4:=bL (st:=top 6) l4 c4 k4
 have D4:Ld ck K mg eN:=⟨_,top 6,_,_,["book","found","steps"],["book"],F4,PySem.W.mg_of X G a4,F4.binds (ps:=["book"]) (fun _ _ _ _ _ _ us hl=>match us,hl with|[_],_=>rfl),uC,rfl,rfl,uD⟩
 have F5:=bL (st:=top 8) l5 c5 k5
 have D5:Ld ck K mg gD:=⟨_,top 8,_,_,["_law_cell_here","_law_k","_law_by"],["_law_cell_here","_law_k"],F5,PySem.W.mg_of X G a5,F5.binds (ps:=["_law_cell_here","_law_k"]) (fun _ _ _ _ _ _ us hl=>match us,hl with|[_,_],_=>rfl),pH,rfl,rfl,pI⟩
 have F6:=bL (st:=top 9) l6 c6 k6
 have D6:Ld ck K mg fo:=⟨_,top 9,_,_,["_law_script","_law_k","_law_seed"],["_law_script","_law_k"],F6,PySem.W.mg_of X G a6,F6.binds (ps:=["_law_script","_law_k"]) (fun _ _ _ _ _ _ us hl=>match us,hl with|[_,_],_=>rfl),nR,rfl,rfl,nS⟩
 have F7:=bL (st:=top 10) l7 c7 k7
 have D7:Ld ck K mg eu:=⟨_,top 10,_,_,["_law_cell_here","_law_many","_law_found","_law_left","_law_k"],["_law_cell_here","_law_many"],F7,PySem.W.mg_of X G a7,F7.binds (ps:=["_law_cell_here","_law_many"]) (fun _ _ _ _ _ _ us hl=>match us,hl with|[_,_],_=>rfl),mn,rfl,rfl,mq⟩
 have F8:=bL (st:=top 11) l8 c8 k8
 have D8:Ld ck K mg fq:=⟨_,top 11,_,_,["_law_drawn_here","_law_names_here","_law_letters","_law_name_here","_law_stem","_law_spare"],["_law_drawn_here","_law_names_here"],F8,PySem.W.mg_of X G a8,F8.binds (ps:=["_law_drawn_here","_law_names_here"]) (fun _ _ _ _ _ _ us hl=>match us,hl with|[_,_],_=>rfl),nU,rfl,rfl,nV⟩
 have F9:=bL (st:=top 12) l9 c9 k9
 have D9:Ld ck K mg eB:=⟨_,top 12,_,_,["_law_script","_law_base","_law_many","_law_names_here","_law_k"],["_law_script","_law_base","_law_many"],F9,PySem.W.mg_of X G a9,F9.binds (ps:=["_law_script","_law_base","_law_many"]) (fun _ _ _ _ _ _ us hl=>match us,hl with|[_,_,_],_=>rfl),mr,rfl,rfl,mw⟩
 have F10:=bL (st:=top 13) l10 c10 k10
 have D10:Ld ck K mg ft:=⟨_,top 13,_,_,["_law_drawn_here","_law_names_here","_law_top","_law_told_here","_law_k","_law_one"],["_law_drawn_here","_law_names_here"],F10,PySem.W.mg_of X G a10,F10.binds (ps:=["_law_drawn_here","_law_names_here"]) (fun _ _ _ _ _ _ us hl=>match us,hl with|[_,_],_=>rfl),nW,rfl,rfl,nX⟩
 have F11:=bL (st:=top 14) l11 c11 k11
 have D11:Ld ck K mg fu:=⟨_,top 14,_,_,["_law_script","_law_base","_law_names_here","_law_many","_law_rows","_law_met","_law_k","_law_drawn_here","_law_row","_law_key"],["_law_script","_law_base","_law_names_here","_law_many"],F11,PySem.W.mg_of X G a11,F11.binds (ps:=["_law_script","_law_base","_law_names_here","_law_many"]) (fun _ _ _ _ _ _ us hl=>match us,hl with|[_,_,_,_],_=>rfl),nY,rfl,rfl,nZ⟩
 have F12:=bL (st:=top 15) l12 c12 k12
 have D12:Ld ck K mg fw:=⟨_,top 15,_,_,["_law_script","_law_drawn_here","_law_names_here"],["_law_script"],F12,PySem.W.mg_of X G a12,F12.binds (ps:=["_law_script"]) (fun _ _ _ _ _ _ us hl=>match us,hl with|[_],_=>rfl),n9,rfl,rfl,n_⟩
 have F13:=bL (st:=top 16) l13 c13 k13
 have D13:Ld ck K mg b8:=⟨_,top 16,_,_,["_law_book_here","_law_known","_law_found","_law_fresh","_law_word","_law_some","_law_told_here"],["_law_book_here"],F13,PySem.W.mg_of X G a13,F13.binds (ps:=["_law_book_here"]) (fun _ _ _ _ _ _ us hl=>match us,hl with|[_],_=>rfl),jG,rfl,rfl,jH⟩
 have F14:=bL (st:=top 17) l14 c14 k14
 have D14:Ld ck K mg b9:=⟨_,top 17,_,_,["_law_book_here","_law_steps","_law_known","_law_step","_law_word","_law_place"],["_law_book_here","_law_steps"],F14,PySem.W.mg_of X G a14,F14.binds (ps:=["_law_book_here","_law_steps"]) (fun _ _ _ _ _ _ us hl=>match us,hl with|[_,_],_=>rfl),jI,rfl,rfl,jJ⟩
 have F15:=bL (st:=top 18) l15 c15 k15
 have D15:Ld ck K mg e_:=⟨_,top 18,_,_,["_law_script","_law_book_here","_law_words","_law_fresh","_law_turn","_law_steps"],["_law_script"],F15,PySem.W.mg_of X G a15,F15.binds (ps:=["_law_script"]) (fun _ _ _ _ _ _ us hl=>match us,hl with|[_],_=>rfl),uE,rfl,rfl,uF⟩
 refine ⟨fun y hy=>?_,fun p hp=>?_,fun g hg=>?_,?_⟩
 ·simp only [bo,List.mem_cons,List.not_mem_nil,or_false] at hy
  rcases hy with rfl|rfl|rfl|rfl|rfl|rfl|rfl|rfl|rfl|rfl|rfl|rfl|rfl|rfl|rfl|rfl|rfl|rfl|rfl|rfl
  ·exact PySem.W.mg_none_of X G z0
  ·exact PySem.W.mg_none_of X G z1
  ·exact PySem.W.mg_none_of X G z2
  ·exact PySem.W.mg_none_of X G z3
  ·exact PySem.W.mg_none_of X G z4
  ·exact PySem.W.mg_none_of X G z5
  ·exact PySem.W.mg_none_of X G z6
  ·exact PySem.W.mg_none_of X G z7
  ·exact PySem.W.mg_none_of X G z8
  ·exact PySem.W.mg_none_of X G z9
  ·exact PySem.W.mg_none_of X G z10
  ·exact PySem.W.mg_none_of X G z11
  ·exact PySem.W.mg_none_of X G z12
  ·exact PySem.W.mg_none_of X G z13
  ·exact PySem.W.mg_none_of X G z14
  ·exact PySem.W.mg_none_of X G z15
  ·exact PySem.W.mg_none_of X G z16
  ·exact PySem.W.mg_none_of X G z17
  ·exact PySem.W.mg_none_of X G z18
  ·exact PySem.W.mg_none_of X G z19
 ·cases hp
 ·simp only [prog,List.mem_cons,List.not_mem_nil,or_false] at hg
  rcases hg with rfl|rfl|rfl|rfl|rfl|rfl|rfl|rfl|rfl|rfl|rfl|rfl|rfl|rfl|rfl|rfl
  ·exact D0
  ·exact D1
  ·exact D2
  ·exact D3
  ·exact D4
  ·exact D5
  ·exact D6
  ·exact D7
  ·exact D8
  ·exact D9
  ·exact D10
  ·exact D11
  ·exact D12
  ·exact D13
  ·exact D14
  ·exact D15
 ·exact ⟨_,top 18,_,["_law_script","_law_book_here","_law_words","_law_fresh","_law_turn","_law_steps"],F15,uE,rfl,rfl,uF,fun s v=>.of_eq rfl⟩
end K
open PySem PySem.W PyProof.Rows
set_option maxRecDepth 100000 in
set_option maxHeartbeats 0 in
theorem PySem.Challenge.cw_primer_k12_an_order_holds : PySem.Challenge.rw_primer_k12_an_order.Holds := by
 w_on; o_law; k_head; (case hw => w_witness2)
 k_fill
 refine TM.walk (l := PySem.Challenge.rw_primer_k12_an_order) (Pg := K.prog) (ck := K.ck) (dp := 4) (x := "_law_script") (fn := K.e_) rfl rfl ⟨rfl, by decide, by decide, rfl⟩ (fun w h Y => PySem.W.kIn_of Y) (by decide +kernel) rfl (by simp [K.prog]) rfl ?F K.pure
 case F =>
  intro w mg fa h KX G hmg
  refine' K.Bj KX G hmg ?a0 ?l0 ?c0 ?k0 ?a1 ?l1 ?c1 ?k1 ?a2 ?l2 ?c2 ?k2 ?a3 ?l3 ?c3 ?k3 ?a4 ?l4 ?c4 ?k4 ?a5 ?l5 ?c5 ?k5 ?a6 ?l6 ?c6 ?k6 ?a7 ?l7 ?c7 ?k7 ?a8 ?l8 ?c8 ?k8 ?a9 ?l9 ?c9 ?k9 ?a10 ?l10 ?c10 ?k10 ?a11 ?l11 ?c11 ?k11 ?a12 ?l12 ?c12 ?k12 ?a13 ?l13 ?c13 ?k13 ?a14 ?l14 ?c14 ?k14 ?a15 ?l15 ?c15 ?k15 ?z0 ?z1 ?z2 ?z3 ?z4 ?z5 ?z6 ?z7 ?z8 ?z9 ?z10 ?z11 ?z12 ?z13 ?z14 ?z15 ?z16 ?z17 ?z18 ?z19
  (case a0 => k_is); (case l0 => k_is); (case c0 => k_is); (case k0 => k_is); (case a1 => k_is); (case l1 => k_is); (case c1 => k_is); (case k1 => k_is); (case a2 => k_is); (case l2 => k_is); (case c2 => k_is); (case k2 => k_is); (case a3 => k_is); (case l3 => k_is); (case c3 => k_is); (case k3 => k_is); (case a4 => k_is); (case l4 => k_is); (case c4 => k_is); (case k4 => k_is); (case a5 => k_is); (case l5 => k_is); (case c5 => k_is); (case k5 => k_is); (case a6 => k_is); (case l6 => k_is); (case c6 => k_is); (case k6 => k_is); (case a7 => k_is); (case l7 => k_is); (case c7 => k_is); (case k7 => k_is); (case a8 => k_is); (case l8 => k_is); (case c8 => k_is); (case k8 => k_is); (case a9 => k_is); (case l9 => k_is); (case c9 => k_is); (case k9 => k_is); (case a10 => k_is); (case l10 => k_is); (case c10 => k_is); (case k10 => k_is); (case a11 => k_is); (case l11 => k_is); (case c11 => k_is); (case k11 => k_is); (case a12 => k_is); (case l12 => k_is); (case c12 => k_is); (case k12 => k_is); (case a13 => k_is); (case l13 => k_is); (case c13 => k_is); (case k13 => k_is); (case a14 => k_is); (case l14 => k_is); (case c14 => k_is); (case k14 => k_is); (case a15 => k_is); (case l15 => k_is); (case c15 => k_is); (case k15 => k_is); (case z0 => k_is); (case z1 => k_is); (case z2 => k_is); (case z3 => k_is); (case z4 => k_is); (case z5 => k_is); (case z6 => k_is); (case z7 => k_is); (case z8 => k_is); (case z9 => k_is); (case z10 => k_is); (case z11 => k_is); (case z12 => k_is); (case z13 => k_is); (case z14 => k_is); (case z15 => k_is); (case z16 => k_is); (case z17 => k_is); (case z18 => k_is); (case z19 => k_is)
