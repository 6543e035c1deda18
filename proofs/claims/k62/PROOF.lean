import PyProof.Rows.All
import Wide.All
import OpenK.AllK
import Wide.FinOn
import Lean
import PyProof.EqAt
import PyProof.EqKinds
import PyProof.TupleCall
import PyProof.StrLawsChain
import PyProof.StrLawsFirst
import PyProof.Rows.StrNews2
import OpenK.AllK
import PyProof.AttrMissHeap
import PyProof.DictValues
import PySem.Challenge.RW_primer_k62_laid_rows
set_option Elab.async false
set_option linter.all false
set_option maxRecDepth 100000
set_option maxHeartbeats 4000000
set_option genInjectivity false
set_option genSizeOf false
namespace L2
open PySem PySem.Spec PyProof.Rows
noncomputable abbrev Key:=Sum Int Str
noncomputable def jF:Key→Value→Bool
 |.inl k,v=>Value.isInt k v
 |.inr x,v=>Value.isStrOf x v
noncomputable def z9 (w:World):Key→Int
 |.inl k=>hashInt k
 |.inr x=>hashStr w x
theorem bg:∀ {k:Key}{v:Value},jF k v=true→(∃ i t,k=Sum.inl i∧v=Value.int i t)∨(∃ x t,k=Sum.inr x∧v=Value.str x t)
 |.inl i,v,h=>by
  obtain ⟨t,e⟩:=Value.isInt_shape (k:=i) (v:=v) h
  exact .inl ⟨i,t,rfl,e⟩
 |.inr x,v,h=>by
  obtain ⟨t,e⟩:=Value.isStrOf_shape (x:=x) (v:=v) h
  exact .inr ⟨x,t,rfl,e⟩
theorem qr (i:Int) (t:Tok):jF (.inl i) (.int i t)=true:=by simp [jF,Value.isInt]
theorem qt (x:Str) (t:Tok):jF (.inr x) (.str x t)=true:=by simp [jF,Value.isStrOf]
theorem wo (a b:Int):decide ((Sum.inl a:Key)=Sum.inl b)=(a==b):=by
 by_cases e:a=b
 ·subst e;simp
 ·have h:¬ (Sum.inl a:Key)=Sum.inl b:=fun q=>e (Sum.inl.inj q)
  rw [decide_eq_false h]
  exact (beq_eq_false_iff_ne.mpr e).symm
theorem wq (a b:Str):decide ((Sum.inr a:Key)=Sum.inr b)=decide (a=b):=by
 by_cases e:a=b
 ·subst e;simp
 ·have h:¬ (Sum.inr a:Key)=Sum.inr b:=fun q=>e (Sum.inr.inj q)
  rw [decide_eq_false h,decide_eq_false e]
theorem wt (a:Int) (b:Str):decide ((Sum.inl a:Key)=Sum.inr b)=false:=decide_eq_false (fun q=>nomatch q)
theorem wu (a:Str) (b:Int):decide ((Sum.inr a:Key)=Sum.inl b)=false:=decide_eq_false (fun q=>nomatch q)
noncomputable def aQ (prog:Program) (w:World):PySem.KeyKind prog w Key where
 is:=jF
 hash:=z9 w
 inj:=fun v a b ha hb=>by
  rcases bg ha with ⟨i,t,rfl,rfl⟩|⟨x,t,rfl,rfl⟩
  ·rcases bg hb with ⟨j,u,rfl,e⟩|⟨y,u,rfl,e⟩
   ·injection e with e1 _;rw [e1]
   ·exact nomatch e
  ·rcases bg hb with ⟨j,u,rfl,e⟩|⟨y,u,rfl,e⟩
   ·exact nomatch e
   ·injection e with e1 _;rw [e1]
 byValue:=fun k v h=>by
  rcases bg h with ⟨i,t,rfl,rfl⟩|⟨x,t,rfl,rfl⟩ <;> rfl
 pyHash:=fun hv h=>by
  rcases bg hv with ⟨i,t,rfl,rfl⟩|⟨x,t,rfl,rfl⟩
  ·exact wpAny_pyHash_int h
  ·exact wpAny_pyHash_str h
 eqBool:=fun hu hv h=>by
  rcases bg hu with ⟨i,t,rfl,rfl⟩|⟨x,t,rfl,rfl⟩
  ·rcases bg hv with ⟨j,u,rfl,rfl⟩|⟨y,u,rfl,rfl⟩
   ·rw [wo] at h;exact wpAny_eqBool_int h
   ·rw [wt] at h;exact SeqAt.EqAt.int_str i t y u _ _ _ _ h
  ·rcases bg hv with ⟨j,u,rfl,rfl⟩|⟨y,u,rfl,rfl⟩
   ·rw [wu] at h;exact SeqAt.EqAt.str_int x t j u _ _ _ _ h
   ·rw [wq] at h;exact wpAny_eqBool_str h
 «strs»:=fun k x t v h=>by
  rcases bg h with ⟨i,u,rfl,e⟩|⟨y,u,rfl,e⟩
  ·exact nomatch e
  ·injection e with e1 _
   subst e1
   cases v <;> rfl
theorem lO (prog:Program) (w:World) (i:Int) (t:Tok):(aQ prog w).is (.inl i) (.int i t)=true:=qr i t
theorem lP (prog:Program) (w:World) (x:Str) (t:Tok):(aQ prog w).is (.inr x) (.str x t)=true:=qt x t
end L2
namespace L2
open PySem PySem.Spec PyProof.Rows
inductive V where
 |non|bl (b:Bool)|int (i:Int)|str (x:Str)|byt (b:Array UInt8)|flt (b:UInt64)|ref (a:Addr)|ty (n:String)
 deriving DecidableEq
noncomputable def RelV:V→Value→Prop
 |.non,u=>u=Value.none
 |.bl b,u=>u=Value.bool b
 |.int i,u=>∃ t,u=Value.int i t
 |.str x,u=>∃ t,u=Value.str x t
 |.byt b,u=>∃ t,u=Value.bytes b t
 |.flt b,u=>∃ t,u=Value.float b t
 |.ref a,u=>u=Value.ref a
 |.ty n,u=>u=Value.type n
noncomputable abbrev Vals:List V→List Value→Prop:=Paired RelV
theorem Vals.length {xs:List V}{us:List Value} (r:Vals xs us):xs.length=us.length:=Paired.length r
theorem Vals.get:∀ {xs:List V}{us:List Value}{i:Nat}{x:V},Vals xs us→xs[i]?=some x→∃ u,us[i]?=some u∧RelV x u
 |_,_,_,_,.nil,e=>by simp at e
 |_,_,0,_,.cons r _,e=>by simp at e;subst e;exact ⟨_,rfl,r⟩
 |_,_,i+1,x,.cons _ t,e=>by
  obtain ⟨u,h1,h2⟩:=Vals.get (i:=i) (x:=x) t (by simpa using e)
  exact ⟨u,by simpa using h1,h2⟩
theorem Vals.set {x:V}{u:Value} (r:RelV x u):∀ {xs:List V}{us:List Value} (i:Nat),Vals xs us→Vals (xs.set i x) (us.set i u)
 |_,_,_,.nil=>.nil
 |_,_,0,.cons _ t=>.cons r t
 |_,_,i+1,.cons q t=>.cons q (Vals.set r i t)
theorem Vals.append:∀ {xs ys:List V}{us ws:List Value},Vals xs us→Vals ys ws→Vals (xs++ys) (us++ws)
 |_,_,_,_,.nil,s=>s
 |_,_,_,_,.cons r t,s=>.cons r (Vals.append t s)
theorem Vals.take:∀ {xs:List V}{us:List Value} (n:Nat),Vals xs us→Vals (xs.take n) (us.take n)
 |_,_,0,_=>.nil
 |_,_,_+1,.nil=>.nil
 |_,_,n+1,.cons r t=>.cons r (Vals.take n t)
theorem Vals.drop:∀ {xs:List V}{us:List Value} (n:Nat),Vals xs us→Vals (xs.drop n) (us.drop n)
 |_,_,0,r=>r
 |_,_,_+1,.nil=>.nil
 |_,_,n+1,.cons _ t=>Vals.drop n t
noncomputable def ji:Option V→Option Value→Prop
 |some v,some u=>RelV v u
 |none,none=>True
 |_,_=>False
noncomputable def KV {κ:Type}:List (κ×V)→List (κ×Value)→Prop:=Paired fun (p:κ×V) (q:κ×Value)=>p.1=q.1∧RelV p.2 q.2
noncomputable def kV:Key→V
 |.inl i=>.int i
 |.inr x=>.str x
inductive HO where
 |lst (xs:List V)
 |tup (xs:List V)
 |dK (kvs:List (Key×V))|dT (kvs:List (List Key×V))
 |set (S:Int→Bool) (n:Nat)
 |ins (C dx:Addr) (fs:List (Str×V))
 |own (x:Addr)
 |xd (fs:List (Str×V))
 |met (f x:Addr)
 |rng (lo hi:Int)
 |frz (o:Obj) (u:HO)
 |tbl (ps:Array Value)
 |ext (φ:Heap→Prop)
noncomputable abbrev Hp:=Addr→Option HO
noncomputable def upd (H:Hp) (a:Addr) (o:HO):Hp:=fun b=>if b=a then some o else H b
theorem aR {H:Hp}{a:Addr}{o:HO}:upd H a o a=some o:=by unfold upd;rw [if_pos rfl]
theorem aI {H:Hp}{a b:Addr}{o:HO} (h:b≠a):upd H a o b=H b:=by unfold upd;rw [if_neg h]
theorem rn {H:Hp}{a b:Addr}{o u:HO} (h:H a=some o) (h':H b=some u) (d:o≠u):a≠b:=by
 intro e;subst e;rw [h] at h';exact d (Option.some.inj h')
theorem bh {H:Hp}{a b:Addr}{o:HO} (h:H a=some o) (h':H b=none):a≠b:=by
 intro e;subst e;rw [h] at h';cases h'
section
variable (P : Program) (w : World)
noncomputable def bJ (H:Hp) (h:Heap) (a:Addr):HO→Prop
 |.lst xs=>xs.length≤sizeLine∧∃ (its:List Value) (n:Nat),Vals xs its∧h.get? a=some { cls:=.type "list",data:=.seq its.toArray n }
 |.tup xs=>xs.length≤sizeLine∧∃ its:List Value,Vals xs its∧IsTup h a its.toArray
 |.dK kvs=>kvs.length≤sizeLine∧(a==sysModules)=false∧∃ vs,KV kvs vs∧h.DictOf (aQ P w) a vs
 |.dT kvs=>kvs.length≤sizeLine∧(a==sysModules)=false∧∃ xs:List (List Key×Addr×Value),
   Paired (fun (p:List Key×V) (q:List Key×Addr×Value)=>p.1=q.1∧H q.2.1=some (.tup (p.1.map kV))∧RelV p.2 q.2.2) kvs xs ∧
   ∃ o es ep,h.get? a=some o∧o.ExactDict∧o.data=.dict es ep∧es.toList=xs.map (entryOfKey (tupleKind (aQ P w)))∧(xs.map (·.1)).Nodup
 |.set S n=>h.SetOf (intKind P w) a S n
 |.ins C dx fs=>H dx=some (.own a)∧fs.length≤1000∧dx≠a∧h.get? a=some (PySem.W.instObj C dx) ∧
   ∃ mA,h.Ns1 dx mA∧(∀ f,ji (fs.lookup f) (mA f))∧PySem.Within mA (fs.map (·.1))
 |.own _=>∃ o,h.get? a=some o
 |.xd fs=>∃ mA,h.Ns1 a mA∧∀ f,ji (fs.lookup f) (mA f)
 |.rng lo hi=>∃ t u v,h.get? a=some { cls:=.type "range",data:=.fields #[.int lo t,.int hi u,.int 1 v] }
 |.frz o u=>h.get? a=some o∧bJ H h a u
 |.tbl ps=>h.get? a=some { cls:=.none,data:=.fields ps }
 |.met f x=>h.get? a=some (PySem.W.methodObj (.ref f) (.ref x))
 |.ext φ=>φ h∧(∃ o,h.get? a=some o)∧∀ h1 h2:Heap,φ h1→(∀ o,h1.get? a=some o→h2.get? a=some o)→φ h2
noncomputable def HOk (H:Hp) (h:Heap):Prop:=∀ a o,H a=some o→bJ P w H h a o
end
section
variable {P : Program} {w : World} {H H' : Hp} {h h' : Heap} {a : Addr} {o : HO}
theorem bJ.lt (x:bJ P w H h a o):a<h.objs.size:=by
 cases o with
 |lst xs=>obtain ⟨_,_,_,_,e⟩:=x;exact Heap.lt_size e
 |tup xs=>obtain ⟨_,_,_,p⟩:=x;exact p.lt
 |dK kvs=>obtain ⟨_,_,_,_,o,_,_,e,_⟩:=x;exact Heap.lt_size e
 |dT kvs=>obtain ⟨_,_,_,_,o,_,_,e,_⟩:=x;exact Heap.lt_size e
 |set S n=>obtain ⟨o,_,_,_,e,_⟩:=x;exact Heap.lt_size e
 |ins C dx fs=>obtain ⟨_,_,_,e,_⟩:=x;exact Heap.lt_size e
 |own y=>obtain ⟨_,e⟩:=x;exact Heap.lt_size e
 |xd fs=>obtain ⟨_,⟨_,_,_,e,_⟩,_⟩:=x;exact Heap.lt_size e
 |rng lo hi=>obtain ⟨_,_,_,e⟩:=x;exact Heap.lt_size e
 |frz ob u=>obtain ⟨e,_⟩:=x;exact Heap.lt_size e
 |tbl ps=>exact Heap.lt_size (show h.get? a=some _ from x)
 |met f y=>exact Heap.lt_size (show h.get? a=some _ from x)
 |ext φ=>obtain ⟨_,⟨_,e⟩,_⟩:=x;exact Heap.lt_size e
theorem Paired.wx {α β:Type}{F G:α→β→Prop}:∀ {l₁:List α}{l₂:List β},Paired F l₁ l₂→(∀ a b,F a b→G a b)→Paired G l₁ l₂
 |_,_,.nil,_=>.nil
 |_,_,.cons r t,f=>.cons (f _ _ r) (Paired.wx t f)
theorem bJ.qu (x:bJ P w H h a o) (k:∀ b u,(b=a∨H b=some (.own a))→h.get? b=some u→h'.get? b=some u)
  (ho:∀ b,H b=some (.own a)→H' b=some (.own a)) (ht:∀ b xs,H b=some (.tup xs)→H' b=some (.tup xs)):bJ P w H' h' a o:=by
 induction o with
 |lst xs=>obtain ⟨z,its,n,r,e⟩:=x;exact ⟨z,its,n,r,k _ _ (.inl rfl) e⟩
 |tup xs=>obtain ⟨z,its,r,ob,e,c⟩:=x;exact ⟨z,its,r,ob,k _ _ (.inl rfl) e,c⟩
 |dK kvs=>obtain ⟨z,y,vs,r,ob,es,ep,e,c⟩:=x;exact ⟨z,y,vs,r,ob,es,ep,k _ _ (.inl rfl) e,c⟩
 |dT kvs =>
  obtain ⟨z,y,xs,r,ob,es,ep,e,c⟩:=x
  exact ⟨z,y,xs,Paired.wx r fun p q z=>⟨z.1,ht _ _ z.2.1,z.2.2⟩,ob,es,ep,k _ _ (.inl rfl) e,c⟩
 |set S n=>obtain ⟨ob,es,ep,t,e,c⟩:=x;exact ⟨ob,es,ep,t,k _ _ (.inl rfl) e,c⟩
 |ins C dx fs =>
  obtain ⟨d,z,ne,e,mA,⟨od,es,ep,e2,c⟩,r⟩:=x
  exact ⟨ho _ d,z,ne,k _ _ (.inl rfl) e,mA,⟨od,es,ep,k _ _ (.inr d) e2,c⟩,r⟩
 |own y=>obtain ⟨ob,e⟩:=x;exact ⟨ob,k _ _ (.inl rfl) e⟩
 |xd fs=>obtain ⟨mA,⟨od,es,ep,e,c⟩,r⟩:=x;exact ⟨mA,⟨od,es,ep,k _ _ (.inl rfl) e,c⟩,r⟩
 |rng lo hi=>obtain ⟨t,u,v,e⟩:=x;exact ⟨t,u,v,k _ _ (.inl rfl) e⟩
 |frz ob u ih=>obtain ⟨e,q⟩:=x;exact ⟨k _ _ (.inl rfl) e,ih q⟩
 |tbl ps =>
  have e:h.get? a=some { cls:=.none,data:=.fields ps }:=x
  show h'.get? a=some { cls:=.none,data:=.fields ps }
  exact k a _ (.inl rfl) e
 |met f y =>
  have e:h.get? a=some (PySem.W.methodObj (.ref f) (.ref y)):=x
  show h'.get? a=some (PySem.W.methodObj (.ref f) (.ref y))
  exact k a _ (.inl rfl) e
 |ext φ=>obtain ⟨p,⟨o,e⟩,st⟩:=x;exact ⟨st _ _ p fun o q=>k _ _ (.inl rfl) q,⟨o,k _ _ (.inl rfl) e⟩,st⟩
theorem HOk.lt (x:HOk P w H h) (e:H a=some o):a<h.objs.size:=(x a o e).lt
theorem HOk.fresh (x:HOk P w H h) (e:h.objs.size≤a):H a=none:=by
 cases q:H a with
 |none=>rfl
 |some u=>exact absurd (Nat.lt_of_lt_of_le (x.lt q) e) (Nat.lt_irrefl _)
theorem HOk.kept (x:HOk P w H h) (k:∀ b u,h.get? b=some u→h'.get? b=some u):HOk P w H h':=fun a o e =>
 (x a o e).qu (fun b u _ q=>k b u q) (fun _ q=>q) fun _ _ q=>q
theorem HOk.laid (x:HOk P w H h) (k:∀ b u,h.get? b=some u→h'.get? b=some u) (hp:h.objs.size≤a) (new:bJ P w (upd H a o) h' a o):HOk P w (upd H a o) h':=fun b u e=>by
 have hn:=x.fresh hp
 by_cases hb:b=a
 ·subst hb;rw [aR] at e;cases e;exact new
 ·rw [aI hb] at e
  exact (x b u e).qu (fun c v _ q=>k c v q) (fun c q=>by rw [aI (bh q hn)];exact q) fun c xs q=>by rw [aI (bh q hn)];exact q
end
noncomputable def Rd (H:Hp) (a:Addr) (u:HO):Prop:=H a=some u∨∃ o,H a=some (.frz o u)
theorem Rd.ok {P:Program}{w:World}{H:Hp}{h:Heap}{a:Addr}{u:HO} (r:Rd H a u) (x:HOk P w H h):bJ P w H h a u:=by
 rcases r with r|⟨o,r⟩
 ·exact x a u r
 ·obtain ⟨_,q⟩:=x a _ r
  exact q
noncomputable def Mut:Option HO→Prop
 |some (.lst _)=>True
 |some (.dK _)=>True
 |some (.dT _)=>True
 |some (.set _ _)=>True
 |some (.ins _ _ _)=>True
 |some (.ext _)=>True
 |_=>False
section
variable {P : Program} {w : World} {H : Hp} {h h' : Heap} {x e : Addr} {o' : HO}
theorem HOk.write (ok:HOk P w H h) (mu:Mut (H x)) (he:e=x∨H e=some (.own x)) (k:∀ b u,b≠e→h.get? b=some u→h'.get? b=some u) (heo:∃ u,h'.get? e=some u)
  (new:bJ P w (upd H x o') h' x o'):HOk P w (upd H x o') h':=fun b u q=>by
 have nown:∀ c y,H c=some (.own y)→c≠x:=fun c y r z=>by subst z;rw [r] at mu;exact mu
 have ntup:∀ c xs,H c=some (.tup xs)→c≠x:=fun c xs r z=>by subst z;rw [r] at mu;exact mu
 by_cases hb:b=x
 ·subst hb;rw [aR] at q;cases q;exact new
 ·rw [aI hb] at q
  by_cases hbe:b=e
  ·have q':H b=some (.own x):=by
    rcases he with z|z
    ·exact absurd (hbe.trans z) hb
    ·rw [hbe];exact z
   rw [q] at q';cases q'
   obtain ⟨v,hv⟩:=heo
   exact ⟨v,by rw [hbe];exact hv⟩
  ·refine (ok b u q).qu (fun c v hc r=>k c v ?_ r) (fun c r=>by rw [aI (nown c b r)];exact r) fun c xs r=>by rw [aI (ntup c xs r)];exact r
   rcases hc with rfl|hc
   ·exact hbe
   ·rintro rfl
    rcases he with z|z
    ·exact nown c b hc z
    ·rw [hc] at z;cases z;exact hb rfl
end
structure Un (fs ex:List Addr) (H H':Hp) (h h':Heap):Prop where
 keep:∀ b o,h.get? b=some o→H b=none→b∉fs→b∉ex→h'.get? b=some o
 slot:∀ b o,h.get? b=some o→H b=none→b∈fs→b∉ex→∃ sl,h'.get? b=some { o with slots:=sl }
 free:∀ b o,h.get? b=some o→H b=none→b∉ex→H' b=none
 there:∀ b o,h.get? b=some o→b∉ex→∃ o',h'.get? b=some o'
 tups:∀ b xs,H b=some (.tup xs)→H' b=some (.tup xs)
 frzs:∀ b o u,H b=some (.frz o u)→H' b=some (.frz o u)
 tbls:∀ b ps,H b=some (.tbl ps)→∃ more,H' b=some (.tbl (ps++more))
section
variable {fs fs' ex ex' : List Addr} {H H1 H2 : Hp} {h h1 h2 h' : Heap} {a x e : Addr} {o : HO}
theorem Un.any (u:Un fs ex H H1 h h1) {b:Addr}{ob:Obj} (q:h.get? b=some ob) (n:H b=none) (hx:b∉ex):∃ sl,h1.get? b=some { ob with slots:=sl }:=by
 by_cases hb:b∈fs
 ·exact u.slot b ob q n hb hx
 ·exact ⟨ob.slots,u.keep b ob q n hb hx⟩
theorem Un.kept (k:∀ b u,h.get? b=some u→h'.get? b=some u):Un fs ex H H h h' :=
 ⟨fun b ob q _ _ _=>k b ob q,fun b ob q _ _ _=>⟨ob.slots,k b ob q⟩,fun _ _ _ n _=>n,fun b ob q _=>⟨ob,k b ob q⟩,fun _ _ q=>q,fun _ _ _ q=>q,fun _ ps q=>⟨#[],by rw [q];simp⟩⟩
theorem Un.refl:Un fs ex H H h h:=Un.kept fun _ _ q=>q
theorem Un.laid (k:∀ b u,h.get? b=some u→h'.get? b=some u) (hp:h.objs.size≤a) (hn:H a=none):Un fs ex H (upd H a o) h h' where
 keep:=fun b u q _ _ _=>k b u q
 slot:=fun b u q _ _ _=>⟨u.slots,k b u q⟩
 free:=fun b u q n _=>by rw [aI (Nat.ne_of_lt (Nat.lt_of_lt_of_le (Heap.lt_size q) hp))];exact n
 there:=fun b u q _=>⟨u,k b u q⟩
 tups:=fun b xs q=>by rw [aI (bh q hn)];exact q
 frzs:=fun b u xs q=>by rw [aI (bh q hn)];exact q
 tbls:=fun b ps q=>⟨#[],by rw [aI (bh q hn),q];simp⟩
theorem Un.write (mu:Mut (H x)) (he:e=x∨H e=some (.own x)) (k:∀ b u,b≠e→h.get? b=some u→h'.get? b=some u) (heo:∃ u,h'.get? e=some u):Un fs ex H (upd H x o) h h':=by
 have hx:∀ b,H b=none→b≠x:=fun b n z=>by subst z;rw [n] at mu;exact mu
 have hb:∀ b,H b=none→b≠e:=fun b n z=>by
  subst z
  rcases he with r|r
  ·exact hx b n r
  ·rw [n] at r;cases r
 have hm:∀ b u,H b=some u→¬ Mut (some u)→b≠x:=fun b u q nm z=>by subst z;rw [q] at mu;exact nm mu
 refine ⟨fun b u q n _ _=>k b u (hb b n) q,fun b u q n _ _=>⟨u.slots,k b u (hb b n) q⟩,fun b u q n _=>by rw [aI (hx b n)];exact n,fun b u q _=>?_,
  fun b xs q=>by rw [aI (hm b _ q fun z=>z)];exact q,fun b u xs q=>by rw [aI (hm b _ q fun z=>z)];exact q,fun b ps q=>⟨#[],by rw [aI (hm b _ q fun z=>z),q];simp⟩⟩
 by_cases hbe:b=e
 ·subst hbe;exact heo
 ·exact ⟨u,k b u hbe q⟩
end
noncomputable def trk (h:Heap) (H:Hp):List Addr:=(List.range h.objs.size).filter fun a=>(H a).isSome
noncomputable def kh (h:Heap) (H:Hp):Heap:=PySem.W.hideAll h (trk h H)
theorem qv (h:Heap) (H:Hp):(kh h H).objs.size=h.objs.size:=PySem.W.hideAll_size _ _
theorem rp {h:Heap}{H:Hp}{b:Addr}{o:Obj} (e:h.get? b=some o) (n:H b=none):(kh h H).get? b=some o :=
 PySem.W.hideAll_get _ e fun hm=>by
  have q:(H b).isSome=true:=(List.mem_filter.mp hm).2
  rw [n] at q;simp at q
theorem ua {h:Heap}{H:Hp}{b:Addr}{o:Obj} (e:(kh h H).get? b=some o):h.get? b=some o∧H b=none:=by
 have e':h.get? b=some o:=PySem.W.of_hideAll (trk h H) e
 refine ⟨e',?_⟩
 cases q:H b with
 |none=>rfl
 |some x =>
  have hm:b∈trk h H:=List.mem_filter.mpr ⟨List.mem_range.mpr (Heap.lt_size e'),by simp [q]⟩
  have z:(kh h H).get? b=none:=PySem.W.hideAll_none (trk h H) hm
  rw [z] at e;cases e
end L2
namespace L2
open PySem PySem.Spec PyProof.Rows
structure Mod (K:PySem.W.Frag) (mg:Str→Option Value) (base:Heap):Prop where
 kin:K.In base
 glob:base.Ns mainGlobals mg
 blt:∃ mb,base.Ns builtinsNs mb∧∀ x:Str,x≠"__name__"→mb x=bootBuiltins x
 nolimit:base.NoLimit
structure Cx where
 prog:Program
 w:World
 K:PySem.W.Frag
 mg:Str→Option Value
 base:Heap
 A:Around
 N:List Str
 s₀:Shared
 H₀:Hp
 env:Env
 outer:List Env
 stack:List Env
 ex:List Addr
 fn:Str→Bool
 calm:Bool
 pn:List (Addr×Obj)
 xe:Value→Shared→Prop
noncomputable def frs (l:List Env):List Addr:=l.filterMap (·.frame)
noncomputable abbrev Cx.fs (X:Cx):List Addr:=frs X.outer
noncomputable def Vis (sc:Scope) (x:Str):Prop:=sc.names.lookup x=some .local∨sc.names.lookup x=some .cell∨sc.names.lookup x=some .free
noncomputable def Loc (sc:Scope) (x:Str):Prop:=sc.names.lookup x=some .local∨sc.names.lookup x=some .cell
noncomputable def Look (env:Env) (h:Heap) (m:Str→Option Value) (x:Str) (u:Value):Prop :=
 (env.kindOf x=some .local∧m x=some u)∨((env.kindOf x=some .cell∨env.kindOf x=some .free)∧∃ c,env.cells.lookup x=some c∧h.IsCell c (some u))
structure Cx.Ok (X:Cx):Prop where
 mod:Mod X.K X.mg X.base
 kind:X.env.scope.kind=.function
 glob:X.env.globals=mainGlobals
 blt:X.env.builtins=builtinsNs
 above:X.s₀.heap.objs.size≤X.env.locals
 inj:∀ x y c,X.env.cells.lookup x=some c→X.env.cells.lookup y=some c→x=y
 has:∀ x,(X.env.kindOf x=some .cell∨X.env.kindOf x=some .free)→∃ c,X.env.cells.lookup x=some c
 cab:∀ x c,X.fn x=true→X.env.cells.lookup x=some c→X.s₀.heap.objs.size≤c
 hd:X.calm=true→X.A.handled=none
 frames:X.A.frames=some X.stack
 stk:X.stack=X.outer∨(X.stack=X.env::X.outer∧X.env.frame=some X.env.locals)
 exf:∀ b∈X.ex,b≠X.env.locals∧∀ x c,X.env.cells.lookup x=some c→c≠b
 bs:∀ b o,X.base.get? b=some o→X.s₀.heap.get? b=some o∧X.H₀ b=none
 bsz:X.base.objs.size≤X.s₀.heap.objs.size
 noex:∀ b o,X.base.get? b=some o→b∉X.ex
 exfs:∀ b∈X.ex,b∉X.fs
 gZ:X.s₀.heap.FunFrames X.base X.outer
 frf:∀ b∈X.fs,X.H₀ b=none
structure Inv (X:Cx) (pins:List (Addr×Obj)) (σ:List (Option V)) (H:Hp) (s:Shared):Prop where
 ok:X.Ok
 os:s.os=X.s₀.os
 bare:AllBare s.gens
 base:Un X.fs X.ex X.H₀ H X.s₀.heap s.heap
 loc:∃ m,s.heap.Ns X.env.locals m∧∀ (i:Nat) (x:Str) (v:V),X.N[i]?=some x→σ[i]?=some (some v)→Vis X.env.scope x→∃ u,RelV v u∧Look X.env s.heap m x u
 cell:∀ x c,X.env.cells.lookup x=some c→∃ v,s.heap.IsCell c v
 free:H X.env.locals=none
 freeC:∀ x c,X.env.cells.lookup x=some c→H c=none
 pin:∀ p∈X.pn++pins,s.heap.get? p.1=some p.2∧H p.1=none∧p.1≠X.env.locals∧p.1∉X.fs∧∀ v,p.2.data≠.cell v
 hok:HOk X.prog X.w H s.heap
 len:σ.length=X.N.length
section
variable {X : Cx} {pins : List (Addr × Obj)} {σ : List (Option V)} {H H' : Hp} {s : Shared} {h' : Heap}
theorem Cx.Ok.z_ (ok:X.Ok) {b:Addr}{o:Obj} (e:X.base.get? b=some o):b∉X.fs:=fun hb=>by
 have:=(ok.gZ.mem hb).1
 rw [e] at this;cases this
theorem Inv.bs (I:Inv X pins σ H s):∀ b o,X.base.get? b=some o→s.heap.get? b=some o∧H b=none:=fun b o e =>
 ⟨I.base.keep b o (I.ok.bs b o e).1 (I.ok.bs b o e).2 (I.ok.z_ e) (I.ok.noex b o e),I.base.free b o (I.ok.bs b o e).1 (I.ok.bs b o e).2 (I.ok.noex b o e)⟩
theorem Inv.bk (I:Inv X pins σ H s):∀ b o,X.base.get? b=some o→s.heap.get? b=some o:=fun b o e=>(I.bs b o e).1
theorem Inv.mod (I:Inv X pins σ H s):Mod X.K X.mg X.base:=I.ok.mod
theorem Inv.kIn (I:Inv X pins σ H s):X.K.In s.heap:=I.ok.mod.kin.keeps I.bk
theorem Inv.lt (I:Inv X pins σ H s):X.env.locals<s.heap.objs.size:=let ⟨_,hn,_⟩:=I.loc;hn.lt
theorem Inv.sz (I:Inv X pins σ H s):X.s₀.heap.objs.size≤s.heap.objs.size:=Nat.le_trans I.ok.above (Nat.le_of_lt I.lt)
theorem Inv.yj (I:Inv X pins σ H s) {a:Addr} (h:s.heap.objs.size≤a):a∉X.fs:=fun hb=>by
 obtain ⟨_,o,ho,_⟩:=I.ok.gZ.mem hb
 exact absurd (Nat.lt_of_lt_of_le (Heap.lt_size ho) (Nat.le_trans I.sz h)) (Nat.lt_irrefl _)
theorem Inv.cne (I:Inv X pins σ H s):∀ x c,X.env.cells.lookup x=some c→c≠X.env.locals:=fun x c e z=>by
 obtain ⟨v,o,ho,hd⟩:=I.cell x c e
 obtain ⟨m,⟨o',es,ep,ho',hd',_⟩,_⟩:=I.loc
 rw [z,ho'] at ho;cases ho;rw [hd'] at hd;cases hd
theorem Inv.gZ (I:Inv X pins σ H s):s.heap.FunFrames X.base X.outer:=by
 have all:∀ (l:List Env),(∀ b∈frs l,b∈X.fs)→X.s₀.heap.FunFrames X.base l→s.heap.FunFrames X.base l:=by
  intro l
  induction l with
  |nil=>intro _ _;trivial
  |cons env r ih =>
   intro hs hl
   obtain ⟨hk,⟨L,o,hf,hn,ho,hd⟩,hr⟩:=hl
   have hL:L∈X.fs:=hs L (by unfold frs;rw [List.filterMap_cons,hf];exact List.mem_cons_self)
   obtain ⟨sl,e⟩:=I.base.slot L o ho (I.ok.frf L hL) hL fun z=>I.ok.exfs L z hL
   exact ⟨hk,⟨L,_,hf,hn,e,hd⟩,ih (fun b hb=>hs b (by unfold frs;rw [List.filterMap_cons,hf];exact List.mem_cons_of_mem _ hb)) hr⟩
 exact all X.outer (fun _ hb=>hb) I.ok.gZ
theorem Inv.stack (I:Inv X pins σ H s):s.heap.FunFrames X.base X.stack:=by
 rcases I.ok.stk with e|⟨e,hf⟩
 ·rw [e];exact I.gZ
 ·rw [e]
  obtain ⟨m,hn,_⟩:=I.loc
  refine .cons (by rw [I.ok.kind];decide) hf hn ?_ I.gZ
  exact Heap.get?_none_of_le (Nat.le_trans I.ok.bsz I.ok.above)
theorem Inv.g0 (I:Inv X pins σ H s):∀ b∈frs X.stack,b∈X.env.locals::X.fs:=fun b hb=>by
 rcases I.ok.stk with e|⟨e,hf⟩
 ·rw [e] at hb;exact List.mem_cons_of_mem _ hb
 ·rw [e] at hb
  unfold frs at hb
  rw [List.filterMap_cons,hf] at hb
  exact hb
theorem Inv.pd (I:Inv X pins σ H s):∀ b∈frs X.stack,H b=none:=fun b hb=>by
 rcases List.mem_cons.mp (I.g0 b hb) with e|hb
 ·rw [e];exact I.free
 ·obtain ⟨_,o,ho,_⟩:=I.ok.gZ.mem hb
  exact I.base.free b o ho (I.ok.frf b hb) fun z=>I.ok.exfs b z hb
theorem Inv.step {g':Array GenState}{t':Nat}{d':Drawn}{ch:List Addr} (I:Inv X pins σ H s)
  (hch:∀ b∈ch,(b∈X.ex∨X.s₀.heap.objs.size≤b)∧b≠X.env.locals∧(∀ x c,X.env.cells.lookup x=some c→c≠b)∧∀ p∈X.pn++pins,p.1≠b)
  (keep:∀ b o,b≠X.env.locals→b∉X.fs→b∉ch→s.heap.get? b=some o→H b=none→h'.get? b=some o)
  (slot:∀ b o,b≠X.env.locals→b∈X.fs→b∉ch→s.heap.get? b=some o→H b=none→∃ sl,h'.get? b=some { o with slots:=sl }) (free:∀ b o,b∉ch→s.heap.get? b=some o→H b=none→H' b=none)
  (there:∀ b o,b∉ch→s.heap.get? b=some o→∃ o',h'.get? b=some o')
  (tups:∀ b xs,H b=some (.tup xs)→H' b=some (.tup xs)) (frzs:∀ b o u,H b=some (.frz o u)→H' b=some (.frz o u)) (tbls:∀ b ps,H b=some (.tbl ps)→∃ more,H' b=some (.tbl (ps++more)))
  (ns:∀ m,s.heap.Ns X.env.locals m→h'.Ns X.env.locals m) (hok:HOk X.prog X.w H' h') (hg:AllBare g') :
  Inv X pins σ H' { s with heap:=h',gens:=g',drawn:=d',toks:=t' }:=by
 have neL:∀ b o,X.s₀.heap.get? b=some o→b≠X.env.locals:=fun b o e=>Nat.ne_of_lt (Nat.lt_of_lt_of_le (Heap.lt_size e) I.ok.above)
 have neC:∀ b o,X.s₀.heap.get? b=some o→b∉X.ex→b∉ch:=fun b o e hx hb=>by
  rcases (hch b hb).1 with z|z
  ·exact hx z
  ·exact absurd (Nat.lt_of_lt_of_le (Heap.lt_size e) z) (Nat.lt_irrefl _)
 have cellK:∀ x c,X.env.cells.lookup x=some c→∀ v,s.heap.IsCell c v→h'.IsCell c v:=fun x c e v hIx=>by
  obtain ⟨o,ho,hd⟩:=hIx
  have nch:c∉ch:=fun z=>(hch c z).2.2.1 x c e rfl
  by_cases hc:c∈X.fs
  ·obtain ⟨sl,q⟩:=slot c o (I.cne x c e) hc nch ho (I.freeC x c e)
   exact ⟨_,q,hd⟩
  ·exact ⟨o,keep c o (I.cne x c e) hc nch ho (I.freeC x c e),hd⟩
 refine ⟨I.ok,I.os,hg,⟨fun b o e n hb hx=>?_,fun b o e n hb hx=>?_,fun b o e n hx=>?_,fun b o e hx=>?_,fun b xs e=>tups b xs (I.base.tups b xs e),fun b o xs e=>frzs b o xs (I.base.frzs b o xs e),fun b ps e=>?_⟩,?_,fun x c e=>?_,?_,fun x c e=>?_,fun p hp=>?_,hok,I.len⟩
 ·exact keep b o (neL b o e) hb (neC b o e hx) (I.base.keep b o e n hb hx) (I.base.free b o e n hx)
 ·obtain ⟨sl,e1⟩:=I.base.slot b o e n hb hx
  obtain ⟨sl',e2⟩:=slot b _ (neL b o e) hb (neC b o e hx) e1 (I.base.free b o e n hx)
  exact ⟨sl',e2⟩
 ·obtain ⟨o',e1⟩:=I.base.there b o e hx
  exact free b o' (neC b o e hx) e1 (I.base.free b o e n hx)
 ·obtain ⟨o',e1⟩:=I.base.there b o e hx
  exact there b o' (neC b o e hx) e1
 ·obtain ⟨m1,e1⟩:=I.base.tbls b ps e
  obtain ⟨m2,e2⟩:=tbls b _ e1
  exact ⟨m1++m2,by rw [e2,Array.append_assoc]⟩
 ·obtain ⟨m,hn,hl⟩:=I.loc
  refine ⟨m,ns m hn,fun i x v e1 e2 e3=>?_⟩
  obtain ⟨u,r,l⟩:=hl i x v e1 e2 e3
  refine ⟨u,r,?_⟩
  rcases l with l|⟨k,c,e,z⟩
  ·exact .inl l
  ·exact .inr ⟨k,c,e,cellK x c e _ z⟩
 ·obtain ⟨v,z⟩:=I.cell x c e
  exact ⟨v,cellK x c e v z⟩
 ·obtain ⟨m,⟨o,_,_,ho,_⟩,_⟩:=I.loc
  exact free _ o (fun z=>(hch _ z).2.1 rfl) ho I.free
 ·obtain ⟨v,o,ho,hd⟩:=I.cell x c e
  exact free c o (fun z=>(hch c z).2.2.1 x c e rfl) ho (I.freeC x c e)
 ·obtain ⟨e,n,ne,nf,d⟩:=I.pin p hp
  have nch:p.1∉ch:=fun z=>(hch p.1 z).2.2.2 p hp rfl
  exact ⟨keep p.1 p.2 ne nf nch e n,free p.1 p.2 nch e n,ne,nf,d⟩
theorem Inv.un {t':Nat} (I:Inv X pins σ H s) (u:Un X.fs [] H H' s.heap h') (hok:HOk X.prog X.w H' h'):Inv X pins σ H' { s with heap:=h',toks:=t' }:=by
 obtain ⟨m,⟨o,es,ep,ho,r⟩,_⟩:=id I.loc
 obtain ⟨sl,hL⟩:=u.any ho I.free (by simp)
 exact I.step (g':=s.gens) (d':=s.drawn) (ch:=[]) (fun _ z=>nomatch z) (fun b o _ hb _ e n=>u.keep b o e n hb (by simp)) (fun b o _ hb _ e n=>u.slot b o e n hb (by simp)) (fun b o _ e n=>u.free b o e n (by simp)) (fun b o _ e=>u.there b o e (by simp)) u.tups u.frzs u.tbls (fun m' hm=>by
  obtain ⟨o',es',ep',ho',r'⟩:=hm
  rw [ho] at ho';cases ho'
  exact ⟨_,es',ep',hL,r'⟩) hok I.bare
theorem Inv.call {g':Array GenState}{t':Nat}{d':Drawn}{ch:List Addr} (I:Inv X pins σ H s) (u:Un (frs X.stack) ch H H' s.heap h') (hok:HOk X.prog X.w H' h') (hg:AllBare g')
  (hch:∀ b∈ch,(b∈X.ex∨X.s₀.heap.objs.size≤b)∧b≠X.env.locals∧(∀ x c,X.env.cells.lookup x=some c→c≠b)∧∀ p∈X.pn++pins,p.1≠b) :
  Inv X pins σ H' { s with heap:=h',gens:=g',drawn:=d',toks:=t' }:=by
 obtain ⟨m,⟨o,es,ep,ho,r⟩,_⟩:=id I.loc
 obtain ⟨sl,hL⟩:=u.any ho I.free fun z=>(hch _ z).2.1 rfl
 exact I.step (ch:=ch) hch (fun b o hL hb hc e n=>u.keep b o e n (fun z=>(List.mem_cons.mp (I.g0 b z)).elim hL hb) hc) (fun b o _ _ hc e n=>u.any e n hc) (fun b o hc e n=>u.free b o e n hc) (fun b o hc e=>u.there b o e hc) u.tups u.frzs u.tbls (fun m' hm=>by
  obtain ⟨o',es',ep',ho',r'⟩:=hm
  rw [ho] at ho';cases ho'
  exact ⟨_,es',ep',hL,r'⟩) hok hg
theorem Inv.turned {t':Nat}{it:Addr} (I:Inv X pins σ H s) (k:∀ b o,b≠it→s.heap.get? b=some o→h'.get? b=some o) (hn:H it=none) (hL:it≠X.env.locals)
  (h1:it∈X.ex∨X.s₀.heap.objs.size≤it) (h2:∀ x c,X.env.cells.lookup x=some c→c≠it) (h3:∀ p∈X.pn++pins,p.1≠it):Inv X pins σ H { s with heap:=h',toks:=t' }:=by
 have nit:∀ b u,H b=some u→b≠it:=fun b u e z=>by rw [z,hn] at e;cases e
 refine I.step (g':=s.gens) (d':=s.drawn) (ch:=[it]) (fun b hb=>?_) (fun b o _ _ hc e _=>k b o (fun z=>hc (by simp [z])) e) (fun b o _ _ hc e _=>⟨o.slots,k b o (fun z=>hc (by simp [z])) e⟩) (fun _ _ _ _ n=>n)
  (fun b o hc e=>⟨o,k b o (fun z=>hc (by simp [z])) e⟩) (fun _ _ e=>e) (fun _ _ _ e=>e) (fun b ps e=>⟨#[],by rw [e];simp⟩) (fun m hm=>?_) (fun b u e=>?_) I.bare
 ·have e:b=it:=by simpa using hb
  subst e
  exact ⟨h1,hL,h2,h3⟩
 ·obtain ⟨o,es,ep,ho,r⟩:=hm
  exact ⟨o,es,ep,k _ o (Ne.symm hL) ho,r⟩
 ·refine (I.hok b u e).qu (fun c v hc q=>k c v ?_ q) (fun _ q=>q) fun _ _ q=>q
  rcases hc with z|z
  ·rw [z];exact nit b u e
  ·exact nit c _ z
theorem Inv.tok (I:Inv X pins σ H s) (t:Nat):Inv X pins σ H { s with toks:=t }:=I.un (h':=s.heap) (t':=t) Un.refl I.hok
theorem Inv.kept {t':Nat} (I:Inv X pins σ H s) (k:∀ b u,s.heap.get? b=some u→h'.get? b=some u):Inv X pins σ H { s with heap:=h',toks:=t' }:=I.un (Un.kept k) (I.hok.kept k)
theorem Inv.laid {a:Addr}{o:HO}{t':Nat} (I:Inv X pins σ H s) (k:∀ b u,s.heap.get? b=some u→h'.get? b=some u) (hp:s.heap.objs.size≤a) (new:bJ X.prog X.w (upd H a o) h' a o) :
  Inv X pins σ (upd H a o) { s with heap:=h',toks:=t' }:=I.un (Un.laid k hp (I.hok.fresh hp)) (I.hok.laid k hp new)
theorem Inv.write {x e:Addr}{o:HO}{t':Nat} (I:Inv X pins σ H s) (mu:Mut (H x)) (he:e=x∨H e=some (.own x)) (k:∀ b u,b≠e→s.heap.get? b=some u→h'.get? b=some u) (heo:∃ u,h'.get? e=some u)
  (new:bJ X.prog X.w (upd H x o) h' x o):Inv X pins σ (upd H x o) { s with heap:=h',toks:=t' }:=I.un (Un.write mu he k heo) (I.hok.write mu he k heo new)
theorem Inv.weak {σ':List (Option V)} (I:Inv X pins σ H s) (hl:σ'.length=σ.length) (w:∀ (i:Nat) v,σ'[i]?=some (some v)→σ[i]?=some (some v)):Inv X pins σ' H s :=
 ⟨I.ok,I.os,I.bare,I.base,let ⟨m,hn,hl'⟩:=I.loc;⟨m,hn,fun i x v e1 e2 e3=>hl' i x v e1 (w i v e2) e3⟩,I.cell,I.free,I.freeC,I.pin,I.hok,hl.trans I.len⟩
theorem Inv.eC {pins':List (Addr×Obj)} (I:Inv X pins σ H s) (h:∀ p∈pins',s.heap.get? p.1=some p.2∧H p.1=none∧p.1≠X.env.locals∧p.1∉X.fs∧∀ v,p.2.data≠.cell v):Inv X pins' σ H s :=
 ⟨I.ok,I.os,I.bare,I.base,I.loc,I.cell,I.free,I.freeC,fun p hp=>(List.mem_append.mp hp).elim (fun z=>I.pin p (List.mem_append_left _ z)) (h p),I.hok,I.len⟩
theorem g_ {N:List Str} (hN:N.Nodup) {i j:Nat}{x:Str} (a:N[i]?=some x) (b:N[j]?=some x):i=j:=by
 obtain ⟨h1,e1⟩:=List.getElem?_eq_some_iff.mp a
 obtain ⟨h2,e2⟩:=List.getElem?_eq_some_iff.mp b
 exact (List.getElem_inj hN).mp (e1.trans e2.symm)
theorem jG {M:Model}{A:Around}{E:Value→Shared→Prop}{i:Nat}{x:Str}{v:V}{u:Value}{Q:Unit→Shared→Prop} (I:Inv X pins σ H s) (hN:X.N.Nodup) (hi:X.N[i]?=some x) (hx:Loc X.env.scope x) (r:RelV v u)
  (h:∀ s',Inv X pins (σ.set i (some v)) H s'→(∃ a,Heap.SameBut a s.heap s'.heap∧(a=X.env.locals∨X.env.cells.lookup x=some a))→Q () s') (hf:X.fn x=true∨X.env.scope.names.lookup x=some .local:=by first|exact .inl rfl|exact .inr rfl|assumption):wpAny M A (storeName X.env x u) Q E s:=by
 obtain ⟨m,hn,hl⟩:=id I.loc
 have hcls:(X.env.scope.kind==.class||(X.env.scope.kind==.module&&X.env.locals != X.env.globals))=false:=by rw [I.ok.kind];rfl
 have hiσ:i < σ.length:=by rw [I.len];exact (List.getElem?_eq_some_iff.mp hi).1
 have cne:=I.cne
 have tracked:∀ {a:Addr} {h':Heap},(∃ o,s.heap.get? a=some o∧H a=none)→Heap.SameBut a s.heap h'→HOk X.prog X.w H h':=fun {a h'} ha hs b ob e=>by
  obtain ⟨_,_,hfree⟩:=ha
  refine (I.hok b ob e).qu (fun c w' hc q=>(hs.2 c ?_).trans q) (fun _ q=>q) fun _ _ q=>q
  rintro rfl
  rcases hc with rfl|hc
  ·rw [hfree] at e;cases e
  ·rw [hfree] at hc;cases hc
 rcases hx with hk|hk
 ·refine wpAny_storeName_local hk hn (fun h' hn' hs=>?_) hcls
  obtain ⟨oL,_,_,hoL,_⟩:=id hn
  refine h _ ⟨I.ok,I.os,I.bare,⟨fun b o e n hb hx=>?_,fun b o e n hb hx=>?_,I.base.free,fun b o e hx=>?_,I.base.tups,I.base.frzs,I.base.tbls⟩,⟨_,hn',fun j y v' e1 e2 e3=>?_⟩,fun y c e=>?_,I.free,I.freeC,fun p hp=>?_,tracked ⟨oL,hoL,I.free⟩ hs,by simpa using I.len⟩ ⟨_,hs,.inl rfl⟩
  ·exact (hs.2 b (Nat.ne_of_lt (Nat.lt_of_lt_of_le (Heap.lt_size e) I.ok.above))).trans (I.base.keep b o e n hb hx)
  ·obtain ⟨sl,e1⟩:=I.base.slot b o e n hb hx
   exact ⟨sl,(hs.2 b (Nat.ne_of_lt (Nat.lt_of_lt_of_le (Heap.lt_size e) I.ok.above))).trans e1⟩
  ·obtain ⟨o',e1⟩:=I.base.there b o e hx
   exact ⟨o',(hs.2 b (Nat.ne_of_lt (Nat.lt_of_lt_of_le (Heap.lt_size e) I.ok.above))).trans e1⟩
  ·by_cases hj:j=i
   ·subst hj
    rw [hi] at e1;cases e1
    rw [List.getElem?_set_self hiσ] at e2
    cases e2
    exact ⟨u,r,.inl ⟨hk,by simp⟩⟩
   ·rw [List.getElem?_set_ne (Ne.symm hj)] at e2
    obtain ⟨u',r',q⟩:=hl j y v' e1 e2 e3
    refine ⟨u',r',?_⟩
    rcases q with ⟨k,e⟩|⟨k,c,e,z⟩
    ·refine .inl ⟨k,?_⟩
     have:y≠x:=fun e=>hj (g_ hN e1 (e ▸ hi))
     simp [this,e]
    ·exact .inr ⟨k,c,e,z.sameBut hs (cne y c e)⟩
  ·obtain ⟨w',z⟩:=I.cell y c e
   exact ⟨w',z.sameBut hs (cne y c e)⟩
  ·obtain ⟨e,n,ne,nf,d⟩:=I.pin p hp
   exact ⟨(hs.2 p.1 ne).trans e,n,ne,nf,d⟩
 ·have hfn:X.fn x=true:=by
   rcases hf with z|z
   ·exact z
   ·rw [z] at hk;cases hk
  obtain ⟨c,hc⟩:=I.ok.has x (.inl hk)
  obtain ⟨w',z⟩:=I.cell x c hc
  refine wpAny_storeName_cell I.ok.kind hk hc z (fun h' hc' hs=>?_)
  obtain ⟨oc,hoc,hocd⟩:=id z
  refine h { s with heap:=h' } ⟨I.ok,I.os,I.bare,⟨fun b o e n hb hx=>?_,fun b o e n hb hx=>?_,I.base.free,fun b o e hx=>?_,I.base.tups,I.base.frzs,I.base.tbls⟩,⟨m,hn.sameBut hs (Ne.symm (cne x c hc)),fun j y v' e1 e2 e3=>?_⟩,fun y c' e=>?_,I.free,I.freeC,fun p hp=>?_,tracked ⟨oc,hoc,I.freeC x c hc⟩ hs,by simpa using I.len⟩ ⟨c,hs,.inr hc⟩
  ·exact (hs.2 b (Nat.ne_of_lt (Nat.lt_of_lt_of_le (Heap.lt_size e) (I.ok.cab x c hfn hc)))).trans (I.base.keep b o e n hb hx)
  ·obtain ⟨sl,e1⟩:=I.base.slot b o e n hb hx
   exact ⟨sl,(hs.2 b (Nat.ne_of_lt (Nat.lt_of_lt_of_le (Heap.lt_size e) (I.ok.cab x c hfn hc)))).trans e1⟩
  ·obtain ⟨o',e1⟩:=I.base.there b o e hx
   exact ⟨o',(hs.2 b (Nat.ne_of_lt (Nat.lt_of_lt_of_le (Heap.lt_size e) (I.ok.cab x c hfn hc)))).trans e1⟩
  ·by_cases hj:j=i
   ·subst hj
    rw [hi] at e1;cases e1
    rw [List.getElem?_set_self hiσ] at e2
    cases e2
    exact ⟨u,r,.inr ⟨.inl hk,c,hc,hc'⟩⟩
   ·rw [List.getElem?_set_ne (Ne.symm hj)] at e2
    obtain ⟨u',r',q⟩:=hl j y v' e1 e2 e3
    refine ⟨u',r',?_⟩
    rcases q with q|⟨k,c',e,z'⟩
    ·exact .inl q
    ·refine .inr ⟨k,c',e,z'.sameBut hs ?_⟩
     rintro rfl
     exact hj (g_ hN e1 (I.ok.inj _ _ _ e hc ▸ hi))
  ·by_cases hcc:c'=c
   ·subst hcc;exact ⟨_,hc'⟩
   ·obtain ⟨w2,z2⟩:=I.cell y c' e
    exact ⟨w2,z2.sameBut hs hcc⟩
  ·obtain ⟨e,n,ne,nf,d⟩:=I.pin p hp
   refine ⟨(hs.2 p.1 ?_).trans e,n,ne,nf,d⟩
   intro q
   rw [q,hoc] at e
   have q':oc=p.2:=Option.some.inj e
   exact d w' (by rw [←q'];exact hocd)
theorem lQ {M:Model}{A:Around}{E:Value→Shared→Prop}{i:Nat}{x:Str}{v:V}{u:Value}{Q:Unit→Shared→Prop} (I:Inv X pins σ H s) (hN:X.N.Nodup) (hi:X.N[i]?=some x) (hx:Loc X.env.scope x) (r:RelV v u)
  (h:∀ s',Inv X pins (σ.set i (some v)) H s'→Q () s') (hf:X.fn x=true∨X.env.scope.names.lookup x=some .local:=by first|exact .inl rfl|exact .inr rfl|assumption):wpAny M A (storeName X.env x u) Q E s :=
 jG I hN hi hx r (fun s' I' _=>h s' I') hf
theorem Inv.yk {s':Shared}{ch:List Addr} (I:Inv X pins σ H s) (ho:s'.os=s.os) (u:Un (frs X.stack) ch H H' s.heap s'.heap) (hok:HOk X.prog X.w H' s'.heap) (hg:AllBare s'.gens)
  (hch:∀ b∈ch,(b∈X.ex∨X.s₀.heap.objs.size≤b)∧b≠X.env.locals∧(∀ x c,X.env.cells.lookup x=some c→c≠b)∧∀ p∈X.pn++pins,p.1≠b):Inv X pins σ H' s':=by
 obtain ⟨h',g',d',t',o'⟩:=s'
 have e:o'=s.os:=ho
 subst e
 exact I.call (g':=g') (t':=t') (d':=d') u hok hg hch
end
noncomputable abbrev XK:=Value→Option Addr→Hp→Prop
noncomputable abbrev St:=List (Option V)
noncomputable abbrev VK:=V→Hp→Prop
noncomputable abbrev TE:=St→Hp→VK→Prop
noncomputable abbrev TT:=St→Hp→(Bool→Hp→Prop)→Prop
noncomputable abbrev TA:=St→Hp→(List V→Hp→Prop)→Prop
structure Ends where
 nx:St→Hp→Prop
 rt:VK
 bk:St→Hp→Prop:=fun _ _=>False
 ct:St→Hp→Prop:=fun _ _=>False
noncomputable abbrev TS:=Ends→St→Hp→Prop
noncomputable def EP (X:Cx) (pins:List (Addr×Obj)) (σ:St) (Q:VK) (u:Value) (s':Shared):Prop:=∃ v H',Inv X pins σ H' s'∧RelV v u∧Q v H'
noncomputable def TP (X:Cx) (pins:List (Addr×Obj)) (σ:St) (Q:Bool→Hp→Prop) (b:Bool) (s':Shared):Prop:=∃ H',Inv X pins σ H' s'∧Q b H'
noncomputable def AP (X:Cx) (pins:List (Addr×Obj)) (σ:St) (Q:List V→Hp→Prop) (us:List Value) (s':Shared):Prop:=∃ vs H',Inv X pins σ H' s'∧Vals vs us∧Q vs H'
noncomputable def SP (X:Cx) (pins:List (Addr×Obj)) (D:Ends) (f:Flow) (s':Shared):Prop :=
 match f with
 |.next=>∃ σ' H',Inv X pins σ' H' s'∧D.nx σ' H'
 |.brk=>∃ σ' H',Inv X pins σ' H' s'∧D.bk σ' H'
 |.cont=>∃ σ' H',Inv X pins σ' H' s'∧D.ct σ' H'
 |.ret u=>∃ v σ' H',Inv X pins σ' H' s'∧RelV v u∧D.rt v H'
noncomputable def PE (X:Cx) (e:Expr) (t:TE):Prop :=
 ∀ (pins:List (Addr×Obj)) (s:Shared) (σ:St) (H:Hp) (Q:VK),Inv X pins σ H s→t σ H Q→wpAny (model X.prog X.w) X.A (eval e X.env) (EP X pins σ Q) X.xe s
noncomputable def PT (X:Cx) (e:Expr) (t:TT):Prop :=
 ∀ (pins:List (Addr×Obj)) (s:Shared) (σ:St) (H:Hp) (Q:Bool→Hp→Prop),Inv X pins σ H s→t σ H Q→wpAny (model X.prog X.w) X.A (isTrue e X.env (eval e X.env)) (TP X pins σ Q) X.xe s
noncomputable def PW (X:Cx) (e:Expr) (t:TT):Prop :=
 ∀ (whole:Sem Value) (pins:List (Addr×Obj)) (s:Shared) (σ:St) (H:Hp) (Q:Bool→Hp→Prop),Inv X pins σ H s→t σ H Q→wpAny (model X.prog X.w) X.A (isTrue e X.env whole) (TP X pins σ Q) X.xe s
theorem PW.pt {X:Cx}{e:Expr}{t:TT} (h:PW X e t):PT X e t:=h _
noncomputable def PA (X:Cx) (es:List Expr) (t:TA):Prop :=
 ∀ (pos:Pos) (pins:List (Addr×Obj)) (s:Shared) (σ:St) (H:Hp) (Q:List V→Hp→Prop),Inv X pins σ H s→t σ H Q→wpAny (model X.prog X.w) X.A (spliced (backTo pos (starEach es X.env))) (AP X pins σ Q) X.xe s
noncomputable def PS (X:Cx) (st:Stmt) (t:TS):Prop :=
 ∀ (pins:List (Addr×Obj)) (s:Shared) (σ:St) (H:Hp) (D:Ends),Inv X pins σ H s→t D σ H→wpAny (model X.prog X.w) X.A (exec st X.env) (SP X pins D) X.xe s
noncomputable def PSs (X:Cx) (st:List Stmt) (t:TS):Prop :=
 ∀ (pins:List (Addr×Obj)) (s:Shared) (σ:St) (H:Hp) (D:Ends),Inv X pins σ H s→t D σ H→wpAny (model X.prog X.w) X.A (execs st X.env) (SP X pins D) X.xe s
theorem thn {α:Type}{t:Sem α}{Q Q':α→Shared→Prop}{M:Model}{A:Around}{E:Value→Shared→Prop}{s:Shared} (h:wpAny M A t Q E s) (hQ:∀ a s,Q a s→Q' a s):wpAny M A t Q' E s:=wpAny_mono h hQ fun _ _ x=>x
end L2
namespace L2
open PySem PySem.Spec PyProof.Rows
section
variable {X : Cx}
noncomputable def Aa (i:Nat):TE:=fun σ H Q=>∃ v,σ[i]?=some (some v)∧Q v H
noncomputable def tC (v:V):TE:=fun _ H Q=>Q v H
theorem hJ {i:Nat}{x:Str}{pos:Pos} (hN:X.N[i]?=some x) (hv:Vis X.env.scope x) (hd:(x==("__debug__":Str))=false:=by decide) (hcd:(x==("__classdict__":Str))=false:=by decide):PE X (.Name x pos) (Aa i):=by
 intro pins s σ H Q I h
 obtain ⟨v,e,h⟩:=h
 obtain ⟨m,hn,hl⟩:=I.loc
 obtain ⟨u,r,l⟩:=hl i x v hN e hv
 have fin:EP X pins σ Q u s:=⟨v,H,I,r,h⟩
 rcases l with ⟨hk,hm⟩|⟨hk,c,hc,hcell⟩
 ·exact wpAny_Name (wpAny_loadName_local I.ok.kind hk hn hm fin) hd
 ·rcases hk with hk|hk
  ·exact wpAny_Name (wpAny_loadName_cell I.ok.kind hk hc hcell fin) hd
  ·exact wpAny_Name (wpAny_loadName_free I.ok.kind hk hc hcell fin hcd) hd
theorem rq {i j pos}:PE X (.Constant (.int i) j pos) (tC (.int i)):=fun _ _ _ H _ I h=>wpAny_Constant_int ⟨.int i,H,I.tok _,⟨_,rfl⟩,h⟩
theorem vT {b j pos}:PE X (.Constant (.bool b) j pos) (tC (.bl b)):=fun _ _ _ H _ I h=>Constant_bool ⟨.bl b,H,I,rfl,h⟩
theorem rz {j pos}:PE X (.Constant .none j pos) (tC .non):=fun _ _ _ H _ I h=>Constant_none ⟨.non,H,I,rfl,h⟩
theorem nE {x j pos}:PE X (.Constant (.str x) j pos) (tC (.str x)):=fun _ _ _ H _ I h=>Calls.Constant_str ⟨.str x,H,I.tok _,⟨_,rfl⟩,h⟩
noncomputable def Gl (X:Cx) (x:Str):Prop:=X.env.kindOf x=some .globalImplicit
theorem pe {E:Value→Shared→Prop}{pins:List (Addr×Obj)}{s:Shared}{σ:St}{H:Hp}{x:Str}{u:Value}{pos:Pos}{Q:Value→Shared→Prop} (I:Inv X pins σ H s) (hg:Gl X x) (hm:X.mg x=some u) (h:Q u s)
  (hd:(x==("__debug__":Str))=false:=by decide):wpAny (model X.prog X.w) X.A (eval (.Name x pos) X.env) Q E s :=
 Calls.Name_function_global I.ok.kind hg (Calls.loadGlobal_global (by rw [I.ok.glob];exact I.mod.glob.keeps I.bk) hm h) hd
theorem dm {E:Value→Shared→Prop}{pins:List (Addr×Obj)}{s:Shared}{σ:St}{H:Hp}{x:Str}{u:Value}{pos:Pos}{Q:Value→Shared→Prop} (I:Inv X pins σ H s) (hg:Gl X x) (hm:X.mg x=none) (hv:bootBuiltins x=some u) (h:Q u s)
  (hn:x≠"__name__":=by decide) (hd:(x==("__debug__":Str))=false:=by decide):wpAny (model X.prog X.w) X.A (eval (.Name x pos) X.env) Q E s:=by
 obtain ⟨mb,h1,h2⟩:=I.mod.blt
 exact Calls.Name_function_global I.ok.kind hg (Calls.loadGlobal_builtin (by rw [I.ok.glob];exact I.mod.glob.keeps I.bk) hm (by rw [I.ok.blt];exact h1.keeps I.bk) ((h2 x hn).trans hv) h) hd
theorem ub {x:Str}{v:V}{u:Value}{pos:Pos} (hg:Gl X x) (hm:X.mg x=some u) (r:RelV v u) (hd:(x==("__debug__":Str))=false:=by decide):PE X (.Name x pos) (tC v) :=
 fun _ _ _ H _ I h=>pe I hg hm ⟨v,H,I,r,h⟩ hd
theorem uc {x:Str}{v:V}{u:Value}{pos:Pos} (hg:Gl X x) (hm:X.mg x=none) (hv:bootBuiltins x=some u) (r:RelV v u) (hn:x≠"__name__":=by decide) (hd:(x==("__debug__":Str))=false:=by decide):PE X (.Name x pos) (tC v) :=
 fun _ _ _ H _ I h=>dm I hg hm hv ⟨v,H,I,r,h⟩ hn hd
variable {a b : Expr} {ta tb : TE} {pos : Pos}
variable {tA tB' : TT} {rest : List Expr}
noncomputable def Ab (t u:TT):TT:=fun σ H Q=>t σ H fun c H1=>if c=true then u σ H1 Q else Q false H1
noncomputable def tOr (t u:TT):TT:=fun σ H Q=>t σ H fun c H1=>if c=true then Q true H1 else u σ H1 Q
noncomputable def Ac (t:TT):TT:=fun σ H Q=>t σ H fun c H1=>Q (!c) H1
theorem ud (ha:PT X a tA):PW X (.BoolOp .And [a] pos) tA:=by
 intro wh pins s σ H Q I h
 refine isTrue_and (thn (ha pins s σ H Q I h) fun c s1 e=>?_)
 cases c with
 |true=>exact isTrue_and_nil e
 |false=>exact e
theorem wy (ha:PT X a tA):PW X (.BoolOp .Or [a] pos) tA:=by
 intro wh pins s σ H Q I h
 refine isTrue_or (thn (ha pins s σ H Q I h) fun c s1 e=>?_)
 cases c with
 |false=>exact isTrue_or_nil e
 |true=>exact e
theorem wz (ha:PT X a tA) (hb:PW X (.BoolOp .And (b::rest) pos) tB'):PW X (.BoolOp .And (a::b::rest) pos) (Ab tA tB'):=by
 intro wh pins s σ H Q I h
 refine isTrue_and (thn (ha pins s σ H _ I h) fun c s1 ⟨H1,I1,q1⟩=>?_)
 cases c with
 |true=>exact hb wh pins s1 σ H1 Q I1 q1
 |false=>exact ⟨H1,I1,q1⟩
theorem yl (ha:PT X a tA) (hb:PW X (.BoolOp .Or (b::rest) pos) tB'):PW X (.BoolOp .Or (a::b::rest) pos) (tOr tA tB'):=by
 intro wh pins s σ H Q I h
 refine isTrue_or (thn (ha pins s σ H _ I h) fun c s1 ⟨H1,I1,q1⟩=>?_)
 cases c with
 |true=>exact ⟨H1,I1,q1⟩
 |false=>exact hb wh pins s1 σ H1 Q I1 q1
theorem wA (ha:PT X a tA):PT X (.UnaryOp .Not a pos) (Ac tA):=by
 intro pins s σ H Q I h
 exact isTrue_not (ha pins s σ H (fun c H1=>Q (!c) H1) I h)
noncomputable def ym (ta tb:TE):TE:=fun σ H Q=>ta σ H fun x H1=>∃ c,x=.bl c∧if c=true then tb σ H1 Q else Q (.bl false) H1
noncomputable def Ad (ta tb:TE):TE:=fun σ H Q=>ta σ H fun x H1=>∃ c,x=.bl c∧if c=true then Q (.bl true) H1 else tb σ H1 Q
noncomputable def yn (ta:TE):TE:=fun σ H Q=>ta σ H fun x H1=>∃ c,x=.bl c∧Q (.bl (!c)) H1
theorem rA {op}{t:TE} (h:PE X a t):PE X (.BoolOp op [a] pos) t:=fun pins s σ H Q I hw=>BoolOp_one (h pins s σ H Q I hw)
theorem wB (ha:PE X a ta) (hb:PE X (.BoolOp .And (b::rest) pos) tb):PE X (.BoolOp .And (a::b::rest) pos) (ym ta tb):=by
 intro pins s σ H Q I h
 refine BoolOp_and (thn (ha pins s σ H _ I h) fun v s1 ⟨x,H1,I1,r1,q1⟩=>?_)
 obtain ⟨c,rfl,q1⟩:=q1
 cases r1
 refine wpAny_truthy_bool ?_
 cases c with
 |true=>exact hb pins s1 σ H1 Q I1 q1
 |false=>exact ⟨.bl false,H1,I1,rfl,q1⟩
theorem yo (ha:PE X a ta) (hb:PE X (.BoolOp .Or (b::rest) pos) tb):PE X (.BoolOp .Or (a::b::rest) pos) (Ad ta tb):=by
 intro pins s σ H Q I h
 refine BoolOp_or (thn (ha pins s σ H _ I h) fun v s1 ⟨x,H1,I1,r1,q1⟩=>?_)
 obtain ⟨c,rfl,q1⟩:=q1
 cases r1
 refine wpAny_truthy_bool ?_
 cases c with
 |false=>exact hb pins s1 σ H1 Q I1 q1
 |true=>exact ⟨.bl true,H1,I1,rfl,q1⟩
theorem wC (ha:PE X a ta):PE X (.UnaryOp .Not a pos) (yn ta):=by
 intro pins s σ H Q I h
 refine UnaryOp_ (thn (ha pins s σ H _ I h) fun v s1 ⟨x,H1,I1,r1,q1⟩=>?_)
 obtain ⟨c,rfl,q1⟩:=q1
 cases r1
 exact not_of (wpAny_truthy_bool ⟨.bl (!c),H1,I1,rfl,q1⟩)
end
end L2
namespace L2
open PySem PySem.Spec PyProof.Rows
noncomputable def SqL (K:PySem.W.Frag) (H:Hp) (a:Addr) (xs:List V):Prop :=
 Rd H a (.lst xs) ∨
  ∃ (o:Obj) (its:Array Value) (n:Nat),K.lookup a=some o∧o.cls=.type "list"∧o.dict=none∧o.data=.seq its n∧its.size≤sizeLine∧Vals xs its.toList
noncomputable def SqT (K:PySem.W.Frag) (H:Hp) (a:Addr) (xs:List V):Prop :=
 Rd H a (.tup xs) ∨
  ∃ (o:Obj) (its:Array Value) (n:Nat),K.lookup a=some o∧o.cls=.type "tuple"∧o.data=.seq its n∧its.size≤sizeLine∧Vals xs its.toList
noncomputable def Ae:Value→Option V
 |.none=>some .non
 |.bool b=>some (.bl b)
 |.int i _=>some (.int i)
 |.str x _=>some (.str x)
 |.bytes b _=>some (.byt b)
 |.float b _=>some (.flt b)
 |.ref a=>some (.ref a)
 |.type n=>some (.ty n)
 |_=>none
theorem RelV.abs {x:V}{u:Value} (r:RelV x u):Ae u=some x:=by
 cases x with
 |non=>cases r;rfl
 |bl _=>cases r;rfl
 |int _=>obtain ⟨t,rfl⟩:=r;rfl
 |str _=>obtain ⟨t,rfl⟩:=r;rfl
 |byt _=>obtain ⟨t,rfl⟩:=r;rfl
 |flt _=>obtain ⟨t,rfl⟩:=r;rfl
 |ref _=>cases r;rfl
 |ty _=>cases r;rfl
theorem RelV.inj {x y:V}{u:Value} (r:RelV x u) (q:RelV y u):x=y:=Option.some.inj (r.abs.symm.trans q.abs)
theorem Vals.inj:∀ {xs ys:List V}{us:List Value},Vals xs us→Vals ys us→xs=ys
 |_,_,_,.nil,.nil=>rfl
 |_,_,_,.cons r t,.cons r' t'=>by rw [r.inj r',Vals.inj t t']
section
variable {X : Cx} {pins : List (Addr × Obj)} {σ : St} {H : Hp} {s : Shared} {a : Addr} {xs ys : List V}
theorem SqL.of {K:PySem.W.Frag} (h:H a=some (.lst xs)):SqL K H a xs:=.inl (.inl h)
theorem SqT.of {K:PySem.W.Frag} (h:H a=some (.tup xs)):SqT K H a xs:=.inl (.inl h)
theorem Inv.list (I:Inv X pins σ H s) (h:SqL X.K H a xs):∃ its:List Value,Vals xs its∧PlainL s.heap a its.toArray∧xs.length≤sizeLine:=by
 rcases h with h|⟨o,its,n,hk,hc,hd,hs,hz,r⟩
 ·obtain ⟨z,its,n,r,e⟩:=h.ok I.hok
  exact ⟨its,r,⟨_,n,e,rfl,rfl,rfl⟩,z⟩
 ·refine ⟨its.toList,r,⟨o,n,I.kIn a o hk,hc,hd,by simpa using hs⟩,?_⟩
  have e:=r.length
  simp only [Array.length_toList] at e
  omega
theorem Inv.tuple (I:Inv X pins σ H s) (h:SqT X.K H a xs):∃ its:List Value,Vals xs its∧IsTup s.heap a its.toArray∧xs.length≤sizeLine:=by
 rcases h with h|⟨o,its,n,hk,hc,hs,hz,r⟩
 ·obtain ⟨z,its,r,p⟩:=h.ok I.hok
  exact ⟨its,r,p,z⟩
 ·refine ⟨its.toList,r,⟨o,I.kIn a o hk,hc,n,by simpa using hs⟩,?_⟩
  have e:=r.length
  simp only [Array.length_toList] at e
  omega
theorem Inv.lR (I:Inv X pins σ H s) (h:SqL X.K H a xs) (h':SqL X.K H a ys):xs=ys:=by
 obtain ⟨its,r,⟨o,n,e,_,_,d⟩,_⟩:=I.list h
 obtain ⟨its',r',⟨o',n',e',_,_,d'⟩,_⟩:=I.list h'
 rw [e] at e';cases e'
 rw [d] at d'
 injection d' with d1 _
 have:its=its':=by simpa using congrArg Array.toList d1
 subst this
 exact r.inj r'
theorem Inv.gh (I:Inv X pins σ H s) (h:SqT X.K H a xs) (h':SqT X.K H a ys):xs=ys:=by
 obtain ⟨its,r,⟨o,e,_,n,d⟩,_⟩:=I.tuple h
 obtain ⟨its',r',⟨o',e',_,n',d'⟩,_⟩:=I.tuple h'
 rw [e] at e';cases e'
 rw [d] at d'
 injection d' with d1 _
 have:its=its':=by simpa using congrArg Array.toList d1
 subst this
 exact r.inj r'
end
noncomputable abbrev Cx.jj (X:Cx) (E:Value→Shared→Prop):Cx:={ X with xe:=E }
noncomputable abbrev Cx.nox (X:Cx):Cx:=X.jj fun _ _=>False
theorem Cx.Ok.jj {X:Cx} (ok:X.Ok) (E:Value→Shared→Prop):(X.jj E).Ok :=
 ⟨ok.mod,ok.kind,ok.glob,ok.blt,ok.above,ok.inj,ok.has,ok.cab,ok.hd,ok.frames,ok.stk,ok.exf,ok.bs,ok.bsz,ok.noex,ok.exfs,ok.gZ,ok.frf⟩
theorem Cx.Ok.dQ {X:Cx}{E:Value→Shared→Prop} (ok:(X.jj E).Ok):X.Ok :=
 ⟨ok.mod,ok.kind,ok.glob,ok.blt,ok.above,ok.inj,ok.has,ok.cab,ok.hd,ok.frames,ok.stk,ok.exf,ok.bs,ok.bsz,ok.noex,ok.exfs,ok.gZ,ok.frf⟩
section
variable {X : Cx} {pins : List (Addr × Obj)} {σ : St} {H : Hp} {s : Shared} {E : Value → Shared → Prop}
theorem Inv.jj (I:Inv X pins σ H s) (E:Value→Shared→Prop):Inv (X.jj E) pins σ H s:=⟨I.ok.jj E,I.os,I.bare,I.base,I.loc,I.cell,I.free,I.freeC,I.pin,I.hok,I.len⟩
theorem Inv.dQ (I:Inv (X.jj E) pins σ H s):Inv X pins σ H s:=⟨I.ok.dQ,I.os,I.bare,I.base,I.loc,I.cell,I.free,I.freeC,I.pin,I.hok,I.len⟩
theorem SP.dQ {D:Ends}{f:Flow}{s':Shared} (h:SP (X.jj E) pins D f s'):SP X pins D f s':=by
 cases f with
 |next=>obtain ⟨σ',H',I,q⟩:=h;exact ⟨σ',H',I.dQ,q⟩
 |brk=>obtain ⟨σ',H',I,q⟩:=h;exact ⟨σ',H',I.dQ,q⟩
 |cont=>obtain ⟨σ',H',I,q⟩:=h;exact ⟨σ',H',I.dQ,q⟩
 |ret u=>obtain ⟨v,σ',H',I,r,q⟩:=h;exact ⟨v,σ',H',I.dQ,r,q⟩
theorem PSs.nox {st:List Stmt}{t:TS} (h:PSs X.nox st t):PSs X st t:=fun pins s σ H D I hw =>
 wpAny_mono (h pins s σ H D (I.jj _) hw) (fun _ _ q=>q.dQ) fun _ _ z=>False.elim z
end
section
variable {X : Cx} {st : Stmt} {rest : List Stmt} {t u : TS} {e : Expr} {te : TE} {pos : Pos}
noncomputable def vU:TS:=fun D σ H=>D.nx σ H
noncomputable def Af (t u:TS):TS:=fun D σ H=>t { D with nx:=u D } σ H
theorem ue:PSs X [] vU:=fun _ _ σ H _ I h=>wpAny_execs_nil ⟨σ,H,I,h⟩
theorem rB (h1:PS X st t) (h2:PSs X rest u):PSs X (st::rest) (Af t u):=by
 intro pins s σ H D I h
 refine wpAny_execs_cons (thn (h1 pins s σ H { D with nx:=u D } I h) fun f s1 q=>?_)
 cases f with
 |next =>
  obtain ⟨σ',H',I',q⟩:=q
  exact h2 pins s1 σ' H' D I' q
 |ret v=>exact q
 |brk=>exact q
 |cont=>exact q
noncomputable def wD:TS:=fun D σ H=>D.bk σ H
noncomputable def yp:TS:=fun D σ H=>D.ct σ H
theorem uf:PS X (.Pass pos) vU:=fun _ _ σ H _ I h=>wpAny_Pass ⟨σ,H,I,h⟩
theorem rC:PS X (.Break pos) wD:=fun _ _ σ H _ I h=>wpAny_Break ⟨σ,H,I,h⟩
theorem lS:PS X (.Continue pos) yp:=fun _ _ σ H _ I h=>wpAny_Continue ⟨σ,H,I,h⟩
theorem Inv.quiet {pins:List (Addr×Obj)}{σ:St}{H:Hp}{s:Shared} (I:Inv X pins σ H s):interactive X.env=false:=by simp [interactive,I.ok.kind]
noncomputable def yq (te:TE):TS:=fun D σ H=>te σ H fun _ H1=>D.nx σ H1
theorem ki (he:PE X e te) (hs:swapsWith e none pos.line X.env=pure false:=by rfl):PS X (.Expr e pos) (yq te):=by
 intro pins s σ H D I h
 exact wpAny_Expr_any (thn (he pins s σ H _ I h) fun v s1 ⟨x,H1,I1,r1,q1⟩=>⟨σ,H1,I1,q1⟩) I.quiet hs
noncomputable def Ag (te:TE):TS:=fun D σ H=>te σ H D.rt
theorem wF (he:PE X e te):PS X (.Return (some e) pos) (Ag te):=by
 intro pins s σ H D I h
 exact wpAny_Return_some (thn (he pins s σ H _ I h) fun v s1 ⟨x,H1,I1,r1,q1⟩=>⟨x,σ,H1,I1,r1,q1⟩)
noncomputable def yr:TS:=fun D _ H=>D.rt .non H
theorem ug:PS X (.Return none pos) yr:=fun _ _ σ H _ I h=>wpAny_Return_none ⟨.non,σ,H,I,rfl,h⟩
noncomputable def Ah (c:TT) (t u:TS):TS:=fun D σ H=>c σ H fun b H1=>if b=true then t D σ H1 else u D σ H1
theorem yt {c:Expr}{a b:List Stmt}{tc:TT} (hc:PT X c tc) (ha:PSs X a t) (hb:PSs X b u):PS X (.If c a b pos) (Ah tc t u):=by
 intro pins s σ H D I h
 refine wpAny_If (thn (hc pins s σ H _ I h) fun d s1 ⟨H1,I1,q1⟩=>?_)
 cases d with
 |true=>exact ha pins s1 σ H1 D I1 q1
 |false=>exact hb pins s1 σ H1 D I1 q1
end
noncomputable abbrev TG:=V→St→Hp→(St→Hp→Prop)→Prop
noncomputable abbrev TGs:=List V→St→Hp→(St→Hp→Prop)→Prop
noncomputable def PG (X:Cx) (target:Expr) (t:TG):Prop :=
 ∀ (pins:List (Addr×Obj)) (s:Shared) (σ:St) (H:Hp) (v:V) (u:Value) (Q:St→Hp→Prop),Inv X pins σ H s→RelV v u→t v σ H Q →
  wpAny (model X.prog X.w) X.A (assign target X.env u) (fun _ s'=>∃ σ' H',Inv X pins σ' H' s'∧Q σ' H') X.xe s
noncomputable def PGs (X:Cx) (ts:List Expr) (t:TGs):Prop :=
 ∀ (pins:List (Addr×Obj)) (s:Shared) (σ:St) (H:Hp) (vs:List V) (us:List Value) (Q:St→Hp→Prop),Inv X pins σ H s→Vals vs us→t vs σ H Q →
  wpAny (model X.prog X.w) X.A (assignInOrder ((assignEach ts X.env).map (·.2)) us) (fun _ s'=>∃ σ' H',Inv X pins σ' H' s'∧Q σ' H') X.xe s
noncomputable abbrev uh:=V→V→V→Hp→(Hp→Prop)→Prop
noncomputable def jk (X:Cx) (t:uh):Prop :=
 ∀ (pins:List (Addr×Obj)) (s:Shared) (σ:St) (H:Hp) (o i v:V) (ov iv u:Value) (Q:Hp→Prop),Inv X pins σ H s→RelV o ov→RelV i iv→RelV v u→t o i v H Q →
  wpAny (model X.prog X.w) X.A (setItem ov iv u) (fun _ s'=>∃ H',Inv X pins σ H' s'∧Q H') X.xe s
section
variable {X : Cx} {pos : Pos}
noncomputable def pf (i:Nat):TG:=fun v σ H Q=>Q (σ.set i (some v)) H
theorem ph {i:Nat}{x:Str} (hN:X.N.Nodup) (hi:X.N[i]?=some x) (hx:Loc X.env.scope x) (hf:X.fn x=true∨X.env.scope.names.lookup x=some .local:=by first|exact .inl rfl|exact .inr rfl|assumption):PG X (.Name x pos) (pf i):=by
 intro pins s σ H v u Q I r h
 exact wpAny_assign_Name (lQ I hN hi hx r (fun s' I'=>⟨_,H,I',h⟩) hf)
noncomputable def yu:TGs:=fun vs σ H Q=>vs=[]∧Q σ H
noncomputable def vV (t:TG) (u:TGs):TGs:=fun vs σ H Q=>∃ v r,vs=v::r∧t v σ H fun σ' H'=>u r σ' H' Q
theorem ui:PGs X [] yu:=by
 intro pins s σ H vs us Q I r h
 obtain ⟨e,h⟩:=h
 subst e
 cases r
 exact assignInOrder_nil ⟨σ,H,I,h⟩
theorem rD {e:Expr}{es:List Expr}{t:TG}{u:TGs} (h1:PG X e t) (h2:PGs X es u)
  (hs:(assignEach (e::es) X.env).map (·.2)=assign e X.env::(assignEach es X.env).map (·.2):=by rfl):PGs X (e::es) (vV t u):=by
 intro pins s σ H vs us Q I r h
 obtain ⟨v,vr,e1,h⟩:=h
 subst e1
 cases r with
 |cons r rr =>
  rw [hs]
  refine assignInOrder_cons (thn (h1 pins s σ H _ _ _ I r h) fun _ s1 ⟨σ1,H1,I1,q1⟩=>?_)
  exact h2 pins s1 σ1 H1 _ _ Q I1 rr q1
noncomputable def Ai (K:PySem.W.Frag) (n:Nat) (t:TGs):TG:=fun v σ H Q=>∃ a xs,v=.ref a∧SqT K H a xs∧xs.length=n∧t xs σ H Q
theorem wG {es:List Expr}{k:Nat}{t:TGs}{n:Nat} (hc:X.calm=true) (h:PGs X es t)
  (hn:(assignEach es X.env).length=n:=by rfl) (hst:(assignEach es X.env).findIdx? (·.1)=none:=by rfl):PG X (.Tuple es k pos) (Ai X.K n t):=by
 intro pins s σ H v u Q I r hw
 obtain ⟨a,xs,e1,hq,hl,hw⟩:=hw
 subst e1
 cases r
 obtain ⟨its,rv,ht,hz⟩:=I.tuple hq
 refine assign_Tuple_tuple (I.ok.hd hc) ht (by simp [hn,←hl,rv.length]) hst fun h' hx=>?_
 have I1:Inv X pins σ H { s with heap:=h' }:=I.kept (t':=s.toks) fun b o e=>hx b o (Nat.ne_of_lt (Heap.lt_size e)) e
 exact h pins _ σ H xs _ Q I1 (by simpa using rv) hw
noncomputable def Aj (to ti:TE) (t:uh):TG:=fun v σ H Q=>to σ H fun o H1=>ti σ H1 fun i H2=>t o i v H2 fun H3=>Q σ H3
theorem wH {o i:Expr}{to ti:TE}{t:uh} (ho:PE X o to) (hi:PE X i ti) (hs:jk X t)
  (ha:∀ v,assign (.Subscript o i pos) X.env v=(do
   let ov ←holding [v] (eval o X.env)
   let iv ←holding [v,ov] (eval i X.env)
   standAt pos
   holding [v,ov,iv] (setItem ov iv v)
   release [v,ov,iv] []):=by intro _;rfl):PG X (.Subscript o i pos) (Aj to ti t):=by
 intro pins s σ H v u Q I r h
 rw [ha]
 refine wpAny_bind (wpAny_holding (thn (ho pins s σ H _ I h) fun ov s1 ⟨x,H1,I1,r1,q1⟩=>?_))
 refine wpAny_bind (wpAny_holding (thn (hi pins s1 σ H1 _ I1 q1) fun iv s2 ⟨y,H2,I2,r2,q2⟩=>?_))
 refine wpAny_bind (wpAny_standAt (wpAny_bind (wpAny_holding (thn (hs pins s2 σ H2 x y v ov iv u _ I2 r1 r2 r q2) fun _ s3 ⟨H3,I3,q3⟩=>?_))))
 exact wpAny_release ⟨σ,H3,I3,q3⟩
noncomputable def wI (te:TE) (g:TG):TS:=fun D σ H=>te σ H fun x H1=>g x σ H1 D.nx
theorem rE {tg e:Expr}{te:TE}{g:TG} (he:PE X e te) (hg:PG X tg g) (hs:swapsWithSole [tg] e pos.line X.env=pure false:=by rfl) (hw:swappedStores [tg] e X.env=pure none:=by rfl)
  (h1:(assignEach [tg] X.env).map (·.2)=[assign tg X.env]:=by rfl):PS X (.Assign [tg] e pos) (wI te g):=by
 intro pins s σ H D I h
 refine wpAny_Assign_stores (thn (he pins s σ H _ I h) fun v s1 ⟨x,H1,I1,r1,q1⟩=>?_) hs hw
 rw [h1]
 exact thn (hg pins s1 σ H1 x v _ I1 r1 q1) fun _ s2 q=>q
theorem wJ {i:Nat}{x:Str}{e:Expr}{te:TE}{pos':Pos} (hN:X.N.Nodup) (hi:X.N[i]?=some x) (hx:Loc X.env.scope x) (he:PE X e te) (hs:swapsWith e (some (.Name x pos')) pos.line X.env=pure false:=by rfl) (hf:X.fn x=true∨X.env.scope.names.lookup x=some .local:=by first|exact .inl rfl|exact .inr rfl|assumption) :
  PS X (.Assign [.Name x pos'] e pos) (wI te (pf i)):=by
 intro pins s σ H D I h
 refine wpAny_Assign_Name (thn (he pins s σ H _ I h) fun v s1 ⟨y,H1,I1,r1,q1⟩=>?_) hs
 exact lQ I1 hN hi hx r1 (fun s2 I2=>⟨_,H1,I2,q1⟩) hf
end
section
variable {X : Cx} {pos : Pos}
noncomputable def wK (c:TT) (tb:TS):TS:=fun D σ H=>∃ W:Nat→St→Hp→Prop,(∃ m,W m σ H)∧∀ m σ H,W m σ H →
 c σ H fun b H1=>if b=true then ∃ N:St→Hp→Prop,(∀ σ' H',N σ' H'→∃ m',m'<m∧W m' σ' H')∧tb { D with nx:=N,ct:=N,bk:=D.nx } σ H1 else D.nx σ H1
theorem rF {c:Expr}{body:List Stmt}{tc:TT}{tb:TS} (hp:PassesOwn (model X.prog X.w) X.A X.env X.xe) (hc:PT X c tc) (hb:PSs X body tb):PS X (.While c body [] pos) (wK tc tb):=by
 intro pins s σ H D I h
 obtain ⟨W,⟨m0,w0⟩,turn⟩:=h
 refine wpAny_While (codeAny_whileLoop (fun n s'=>∃ σ' H',Inv X pins σ' H' s'∧W n σ' H') ?_ m0 ⟨σ,H,I,w0⟩)
 rintro n s1 ⟨σ1,H1,I1,w1⟩
 refine wpAny_passesOwn hp (thn (hc pins s1 σ1 H1 _ I1 (turn n σ1 H1 w1)) fun b s2 ⟨H2,I2,q2⟩=>?_)
 cases b with
 |true =>
  obtain ⟨N,hN,q2⟩:=q2
  rw [if_pos rfl]
  refine wpAny_passesOwn hp (thn (hb pins s2 σ1 H2 _ I2 q2) fun f s3 q3=>?_)
  cases f with
  |next =>
   obtain ⟨σ3,H3,I3,n3⟩:=q3
   obtain ⟨m',hm,w3⟩:=hN σ3 H3 n3
   exact ⟨m',hm,σ3,H3,I3,w3⟩
  |cont =>
   obtain ⟨σ3,H3,I3,n3⟩:=q3
   obtain ⟨m',hm,w3⟩:=hN σ3 H3 n3
   exact ⟨m',hm,σ3,H3,I3,w3⟩
  |brk=>exact q3
  |ret v=>exact q3
 |false =>
  rw [if_neg Bool.false_ne_true]
  exact wpAny_execs_nil ⟨σ1,H2,I2,q2⟩
end
structure It where
 go:Nat→Hp→Prop
 yld:Nat→Hp→V→Hp→Prop
 stop:Nat→Hp→Prop
noncomputable def hU (X:Cx) (pins:List (Addr×Obj)) (H:Hp) (b:Addr):Prop :=
 H b=none∧b≠X.env.locals∧b∉X.fs∧(b∈X.ex∨X.s₀.heap.objs.size≤b)∧(∀ x c,X.env.cells.lookup x=some c→c≠b)∧∀ p∈X.pn++pins,p.1≠b
theorem Inv.wL {X:Cx}{pins:List (Addr×Obj)}{σ:St}{H H':Hp}{s:Shared}{b:Addr} (I:Inv X pins σ H s) (hb:s.heap.objs.size≤b) (hn:H' b=none):hU X pins H' b:=by
 refine ⟨hn,Nat.ne_of_gt (Nat.lt_of_lt_of_le I.lt hb),I.yj hb,.inr (Nat.le_trans I.sz hb),fun x c e z=>?_,fun p hp z=>?_⟩
 ·obtain ⟨v,q⟩:=I.cell x c e
  exact absurd (Nat.lt_of_lt_of_le q.lt (by rw [z];exact hb)) (Nat.lt_irrefl _)
 ·exact absurd (Nat.lt_of_lt_of_le (Heap.lt_size (I.pin p hp).1) (by rw [z];exact hb)) (Nat.lt_irrefl _)
structure Turn (P:Program) (w:World) (K:PySem.W.Frag) (tg:Expr) (J:It) (fp:List Addr) (it:Addr) (tn:Nat→Heap→Prop):Prop where
 mem:it∈fp
 obj:∀ i h,tn i h→∀ b∈fp,∃ o,h.get? b=some o∧∀ v,o.data≠.cell v
 keep:∀ i h h',tn i h→(∀ b∈fp,∀ o,h.get? b=some o→h'.get? b=some o)→tn i h'
 item:∀ (X:Cx),X.prog=P→X.w=w→X.K=K→X.calm=true→∀ (i:Nat) (pins:List (Addr×Obj)) (s:Shared) (σ:St) (H:Hp) (E:Value→Shared→Prop),Inv X pins σ H s→(∀ b∈fp,hU X pins H b)→tn i s.heap→J.go i H →
  wpAny (model P w) X.A (pyNext (.ref it)) (fun r s1=>∃ u,r=some u ∧
   wpAny (model P w) X.A (letOwnedTupleGo tg (.ref it) u) (fun _ s2=>∃ x H',Inv X pins σ H' s2∧RelV x u∧J.yld i H x H'∧tn (i+1) s2.heap∧∀ b∈fp,H' b=none) E s1) E s
 done:∀ (X:Cx),X.prog=P→X.w=w→X.K=K→X.calm=true→∀ (i:Nat) (pins:List (Addr×Obj)) (s:Shared) (σ:St) (H:Hp) (E:Value→Shared→Prop),Inv X pins σ H s→(∀ b∈fp,hU X pins H b)→tn i s.heap→J.stop i H →
  wpAny (model P w) X.A (pyNext (.ref it)) (fun r s1=>r=none∧Inv X pins σ H s1) E s
 self:∀ (A:Around) (i:Nat) (s:Shared) (Q:Value→Shared→Prop) (E:Value→Shared→Prop),tn i s.heap→Q (.ref it) s→wpAny (model P w) A (pyIter (.ref it)) Q E s
noncomputable abbrev TI:=St→Hp→(It→Hp→Prop)→Prop
noncomputable def PIE (X:Cx) (pins:List (Addr×Obj)) (σ:St) (tg:Expr) (R:It→Hp→Prop) (itv:Value) (s2:Shared):Prop :=
 ∃ (it:Addr) (fp:List Addr) (tn:Nat→Heap→Prop) (J:It) (H':Hp),itv=.ref it∧Inv X pins σ H' s2∧Turn X.prog X.w X.K tg J fp it tn∧tn 0 s2.heap∧(∀ b∈fp,hU X pins H' b)∧R J H'
noncomputable def PI (X:Cx) (tg iter:Expr) (wi:TI):Prop :=
 ∀ (pins:List (Addr×Obj)) (s:Shared) (σ:St) (H:Hp) (R:It→Hp→Prop),Inv X pins σ H s→wi σ H R →
  wpAny (model X.prog X.w) X.A (eval iter X.env) (fun v s1=>wpAny (model X.prog X.w) X.A (pyIter v) (PIE X pins σ tg R) X.xe s1) X.xe s
theorem rG {M : Model} {A : Around} {E : Value → Shared → Prop} {s : Shared} {tg : Expr} {it : Addr} {u : Value} {o : Obj} {n : String} {vs : Array Value} {Q : Unit → Shared → Prop} (ho : s.heap.get? it = some o) (hc : o.cls = .type n) (hd : o.data = .fields vs)
    (hn : ["enumerate", "zip", "dict_itemiterator", "dict_reverseitemiterator", "odict_iterator", "itertools.zip_longest", "itertools.pairwise"].contains n = false) (hQ : Q () s) : wpAny M A (letOwnedTupleGo tg (.ref it) u) Q E s := by
  unfold letOwnedTupleGo
  cases tg <;> first
    | exact wpAny_pure hQ
    | (cases u <;> first
        | exact wpAny_pure hQ
        | (refine wpAny_bind (wpAny_load ho ?_)
           rw [hc, hd]
           show wpAny M A (if (["enumerate", "zip", "dict_itemiterator", "dict_reverseitemiterator", "odict_iterator", "itertools.zip_longest", "itertools.pairwise"].contains n && vs[0]? == some (rawInt _)) = true then _ else _) Q E s
           rw [if_neg (by intro h; rw [hn, Bool.false_and] at h; cases h)]
           exact wpAny_pure hQ))
noncomputable def Itl (K:PySem.W.Frag) (a:Addr):It :=
 ⟨fun i H=>∃ xs x,SqL K H a xs∧xs[i]?=some x,fun i H x H'=>H'=H∧∀ xs,SqL K H a xs→xs[i]?=some x,fun i H=>∃ xs,SqL K H a xs∧xs.length≤i⟩
noncomputable def Itt (K:PySem.W.Frag) (a:Addr):It :=
 ⟨fun i H=>∃ xs x,SqT K H a xs∧xs[i]?=some x,fun i H x H'=>H'=H∧∀ xs,SqT K H a xs→xs[i]?=some x,fun i H=>∃ xs,SqT K H a xs∧xs.length≤i⟩
noncomputable def Itr (lo:Int) (n:Nat):It:=⟨fun i _=>i<n,fun i H x H'=>H'=H∧x=.int (lo+i),fun i _=>n≤i⟩
theorem qw {P:Program}{w:World}{K:PySem.W.Frag}{tg:Expr} (a it:Addr):Turn P w K tg (Itl K a) [it] it (fun i h=>h.IsListIter it a i) where
 mem:=by simp
 obj:=fun i h st b hb=>by
  have e:b=it:=by simpa using hb
  subst e
  obtain ⟨o,e,c,d⟩:=st
  exact ⟨o,e,fun v z=>by rw [d] at z;cases z⟩
 keep:=fun i h h' st k=>st.at fun o e=>k it (by simp) o e
 item:=by
  intro X hP hw hK hc i pins s σ H E I hf st hg
  subst hP hw hK
  obtain ⟨xs,x,hq,hx⟩:=hg
  obtain ⟨its,rv,p,hz⟩:=I.list hq
  obtain ⟨u,hu,ru⟩:=rv.get hx
  obtain ⟨f0,f1,f2,f3,f4,f5⟩:=hf it (by simp)
  refine wpAny_pyNext_list_item st p.isList (x:=u) (by simpa using hu) fun h' st' sb=>?_
  have I1:Inv X pins σ H { s with heap:=h' }:=I.turned (t':=s.toks) (fun b o hb e=>(sb.2 b hb).trans e) f0 f1 f3 f4 f5
  obtain ⟨o,e,c,d⟩:=id st'
  exact ⟨u,rfl,rG (s:={ s with heap:=h' }) e c d (by decide) ⟨x,H,I1,ru,⟨rfl,fun ys hy=>by rw [I.lR hy hq];exact hx⟩,st',fun b hb=>(hf b hb).1⟩⟩
 done:=by
  intro X hP hw hK hc i pins s σ H E I hf st hg
  subst hP hw hK
  obtain ⟨xs,hq,hx⟩:=hg
  obtain ⟨its,rv,p,hz⟩:=I.list hq
  obtain ⟨f0,f1,f2,f3,f4,f5⟩:=hf it (by simp)
  have hl:=rv.length
  exact wpAny_pyNext_list_end (I.ok.hd hc) st p.isList (by simp;omega) fun h' eb=>⟨rfl,I.turned (t':=s.toks) (fun b o hb e=>eb b o hb e) f0 f1 f3 f4 f5⟩
 self:=fun _ _ _ _ _ st h=>wpAny_pyIter_listiter st h
theorem nF {P:Program}{w:World}{K:PySem.W.Frag}{tg:Expr} (a it:Addr):Turn P w K tg (Itt K a) [it] it (fun i h=>h.IsTupleIter it a i) where
 mem:=by simp
 obj:=fun i h st b hb=>by
  have e:b=it:=by simpa using hb
  subst e
  obtain ⟨o,e,c,d⟩:=st
  exact ⟨o,e,fun v z=>by rw [d] at z;cases z⟩
 keep:=fun i h h' st k=>st.at fun o e=>k it (by simp) o e
 item:=by
  intro X hP hw hK hc i pins s σ H E I hf st hg
  subst hP hw hK
  obtain ⟨xs,x,hq,hx⟩:=hg
  obtain ⟨its,rv,p,hz⟩:=I.tuple hq
  obtain ⟨u,hu,ru⟩:=rv.get hx
  obtain ⟨f0,f1,f2,f3,f4,f5⟩:=hf it (by simp)
  refine wpAny_pyNext_tuple_item st (show s.heap.IsTuple a its.toArray from p) (x:=u) (by simpa using hu) fun h' st' sb=>?_
  have I1:Inv X pins σ H { s with heap:=h' }:=I.turned (t':=s.toks) (fun b o hb e=>(sb.2 b hb).trans e) f0 f1 f3 f4 f5
  obtain ⟨o,e,c,d⟩:=id st'
  exact ⟨u,rfl,rG (s:={ s with heap:=h' }) e c d (by decide) ⟨x,H,I1,ru,⟨rfl,fun ys hy=>by rw [I.gh hy hq];exact hx⟩,st',fun b hb=>(hf b hb).1⟩⟩
 done:=by
  intro X hP hw hK hc i pins s σ H E I hf st hg
  subst hP hw hK
  obtain ⟨xs,hq,hx⟩:=hg
  obtain ⟨its,rv,p,hz⟩:=I.tuple hq
  obtain ⟨f0,f1,f2,f3,f4,f5⟩:=hf it (by simp)
  have hl:=rv.length
  exact wpAny_pyNext_tuple_end (I.ok.hd hc) st (show s.heap.IsTuple a its.toArray from p) (by simp;omega) fun h' eb=>⟨rfl,I.turned (t':=s.toks) (fun b o hb e=>eb b o hb e) f0 f1 f3 f4 f5⟩
 self:=fun _ _ _ _ _ st h=>wpAny_pyIter_tupleiter st h
theorem nG {P:Program}{w:World}{K:PySem.W.Frag}{tg:Expr} (it:Addr) (lo:Int) (n:Nat):Turn P w K tg (Itr lo n) [it] it (fun i h=>IsRangeIter h it (lo+(i:Nat) * 1) ((n:Int) - (i:Nat)) 1) where
 mem:=by simp
 obj:=fun i h st b hb=>by
  have e:b=it:=by simpa using hb
  subst e
  exact ⟨_,st,fun v z=>by
   have z':Data.fields _=Data.cell v:=z
   cases z'⟩
 keep:=fun i h h' st k=>k it (by simp) _ st
 item:=by
  intro X hP hw hK hc i pins s σ H E I hf st hg
  subst hP hw hK
  obtain ⟨f0,f1,f2,f3,f4,f5⟩:=hf it (by simp)
  have W:=Walks.range (prog:=X.prog) (w:=X.w) (I.ok.hd hc) it lo 1 n
  refine W.item i s _ _ hg st fun v h' tk hv st' kk=>?_
  obtain ⟨t,rfl⟩:=hv
  have I1:Inv X pins σ H { s with heap:=h',toks:=tk }:=I.turned (fun b o hb e=>kk b o (by simpa using hb) e) f0 f1 f3 f4 f5
  refine ⟨_,rfl,rG (s:={ s with heap:=h',toks:=tk }) (n:="range_iterator") st' rfl rfl (by decide) ⟨.int (lo+i),H,I1,⟨t,?_⟩,⟨rfl,rfl⟩,st',fun b hb=>(hf b hb).1⟩⟩
  rw [Int.mul_one]
 done:=by
  intro X hP hw hK hc i pins s σ H E I hf st hg
  subst hP hw hK
  obtain ⟨f0,f1,f2,f3,f4,f5⟩:=hf it (by simp)
  exact wpAny_pyNext_range_end (I.ok.hd hc) st (by have:n≤i:=hg;omega) fun h' eb=>⟨rfl,I.turned (t':=s.toks) (fun b o hb e=>eb b o hb e) f0 f1 f3 f4 f5⟩
 self:=fun _ _ _ _ _ st h=>wpAny_pyIter_rangeiter st h
end L2
namespace L2
open PySem PySem.Spec PyProof.Rows
section
variable {X : Cx} {tg : Expr}
noncomputable def yw (K:PySem.W.Frag) (tl:TE):TI:=fun σ H R=>tl σ H fun x H1=>∃ a,x=.ref a∧(∃ xs,SqL K H1 a xs)∧R (Itl K a) H1
noncomputable def Ak (K:PySem.W.Frag) (tl:TE):TI:=fun σ H R=>tl σ H fun x H1=>∃ a,x=.ref a∧(∃ xs,SqT K H1 a xs)∧R (Itt K a) H1
theorem uj {l:Expr}{tl:TE} (hl:PE X l tl):PI X tg l (yw X.K tl):=by
 intro pins s σ H R I h
 refine thn (hl pins s σ H _ I h) fun v s1 ⟨x,H1,I1,r1,q1⟩=>?_
 obtain ⟨a,e,⟨xs,hq⟩,q⟩:=q1
 subst e
 cases r1
 obtain ⟨its,rv,p,hz⟩:=I1.list hq
 refine wpAny_pyIter_list p.isList ?_
 refine ⟨s1.heap.objs.size,[s1.heap.objs.size],_,_,H1,rfl,I1.kept (t':=s1.toks) fun b o e=>Heap.get?_push_of_some _ e,qw a _,⟨_,Heap.get?_push_size _ rfl,rfl,rfl⟩,fun b hb=>?_,q⟩
 have e:b=s1.heap.objs.size:=by simpa using hb
 subst e
 exact I1.wL (Nat.le_refl _) (I1.hok.fresh (Nat.le_refl _))
theorem wM {l:Expr}{tl:TE} (hl:PE X l tl):PI X tg l (Ak X.K tl):=by
 intro pins s σ H R I h
 refine thn (hl pins s σ H _ I h) fun v s1 ⟨x,H1,I1,r1,q1⟩=>?_
 obtain ⟨a,e,⟨xs,hq⟩,q⟩:=q1
 subst e
 cases r1
 obtain ⟨its,rv,p,hz⟩:=I1.tuple hq
 refine wpAny_pyIter_tuple (show s1.heap.IsTuple a its.toArray from p) ?_
 refine ⟨s1.heap.objs.size,[s1.heap.objs.size],_,_,H1,rfl,I1.kept (t':=s1.toks) fun b o e=>Heap.get?_push_of_some _ e,nF a _,⟨_,Heap.get?_push_size _ rfl,rfl,rfl⟩,fun b hb=>?_,q⟩
 have e:b=s1.heap.objs.size:=by simpa using hb
 subst e
 exact I1.wL (Nat.le_refl _) (I1.hok.fresh (Nat.le_refl _))
theorem lT {pins:List (Addr×Obj)}{σ:St}{H:Hp}{s:Shared}{R:It→Hp→Prop}{E:Value→Shared→Prop}{lo hi:Int}{t u v:Tok}{tk:Nat} (I:Inv X pins σ H s) (h1:-(2 ^ 62)≤lo) (h2:lo<2 ^ 62) (h3:-(2 ^ 62)≤hi) (h4:hi<2 ^ 62)
  (q:R (Itr lo (hi - lo).toNat) H):wpAny (model X.prog X.w) X.A (pyIter (.ref s.heap.objs.size)) (PIE X pins σ tg R) E { s with heap:=s.heap.push { cls:=.type "range",data:=.fields #[.int lo t,.int hi u,.int 1 v] },toks:=tk }:=by
 refine wpAny_pyIter_range (IsRange.new ..) (small_one h1 h2 h3 h4) ?_
 have I1:Inv X pins σ H { s with heap:=s.heap.push { cls:=.type "range",data:=.fields #[.int lo t,.int hi u,.int 1 v] },toks:=tk }:=I.kept fun b o e=>Heap.get?_push_of_some _ e
 refine ⟨(s.heap.push { cls:=.type "range",data:=.fields #[.int lo t,.int hi u,.int 1 v] }).objs.size,[(s.heap.push { cls:=.type "range",data:=.fields #[.int lo t,.int hi u,.int 1 v] }).objs.size],_,_,H,rfl,
  I1.kept (t':=tk) fun b o e=>Heap.get?_push_of_some _ e,nG _ lo (hi - lo).toNat,?_,fun b hb=>?_,q⟩
 ·have e1:lo+((0:Nat):Int) * 1=lo:=by simp
  have e2:(((hi - lo).toNat:Nat):Int) - ((0:Nat):Int)=Builtin.Range.rangeSize lo hi 1:=by rw [rangeSize_one];split <;> omega
  show IsRangeIter _ _ (lo+((0:Nat):Int) * 1) ((((hi - lo).toNat:Nat):Int) - ((0:Nat):Int)) 1
  rw [e1,e2]
  exact Heap.get?_push_size _ rfl
 ·have e:b=(s.heap.push { cls:=.type "range",data:=.fields #[.int lo t,.int hi u,.int 1 v] }).objs.size:=by simpa using hb
  subst e
  exact I1.wL (Nat.le_refl _) (I1.hok.fresh (Nat.le_refl _))
noncomputable def yx (ta:TA):TI:=fun σ H R=>ta σ H fun vs H1=>∃ j:Int,vs=[.int j]∧-(2 ^ 62)≤j∧j<2 ^ 62∧R (Itr 0 j.toNat) H1
noncomputable def yy (ta:TA):TI:=fun σ H R=>ta σ H fun vs H1=>∃ i j:Int,vs=[.int i,.int j]∧(-(2 ^ 62)≤i∧i<2 ^ 62∧-(2 ^ 62)≤j∧j<2 ^ 62)∧R (Itr i (j - i).toNat) H1
theorem qx {a:Expr}{ta:TA}{p pos:Pos} (hg:Gl X "range") (hm:X.mg "range"=none) (ha:PA X [a] ta) (hs:starEach [a] X.env=[(false,eval a X.env)]:=by rfl):PI X tg (.Call (.Name "range" p) [a] [] pos) (yx ta):=by
 intro pins s σ H R I h
 refine Call_ (dm I hg hm boot_range (PyProof.Rows.callWith_type1 (thn (ha pos pins s σ H _ I h) fun us s1 ⟨vs,H1,I1,r1,q1⟩=>?_) hs rfl))
 obtain ⟨j,e,q1,q2,q⟩:=q1
 subst e
 cases r1 with
 |cons r rr =>
  cases rr
  obtain ⟨t,rfl⟩:=r
  exact call_range_1 (lT I1 (by omega) (by omega) q1 q2 (by simpa using q))
theorem qy {a b:Expr}{ta:TA}{p pos:Pos} (hg:Gl X "range") (hm:X.mg "range"=none) (ha:PA X [a,b] ta) (hs:starEach [a,b] X.env=[(false,eval a X.env),(false,eval b X.env)]:=by rfl) (hs2:starEach [b] X.env=[(false,eval b X.env)]:=by rfl) :
  PI X tg (.Call (.Name "range" p) [a,b] [] pos) (yy ta):=by
 intro pins s σ H R I h
 refine Call_ (dm I hg hm boot_range (PyProof.Rows.callWith_type1 (thn (ha pos pins s σ H _ I h) fun us s1 ⟨vs,H1,I1,r1,q1⟩=>?_) (by rw [hs,hs2]) (by rw [hs2];rfl)))
 obtain ⟨i,j,e,⟨q1,q2,q3,q4⟩,q⟩:=q1
 subst e
 cases r1 with
 |cons r rr =>
  cases rr with
  |cons r' rr =>
   cases rr
   obtain ⟨t,rfl⟩:=r
   obtain ⟨t',rfl⟩:=r'
   exact call_range_2 (lT I1 q1 q2 q3 q4 q)
noncomputable def Al (wi:TI) (g:TG) (tb:TS):TS:=fun D σ H=>wi σ H fun J H1=>∃ W:Nat→Nat→St→Hp→Prop,(∃ m,W 0 m σ H1)∧∀ i m σ H,W i m σ H →
 (J.stop i H∧D.nx σ H)∨(J.go i H∧∃ N:St→Hp→Prop,(∀ σ' H',N σ' H'→∃ m',m'<m∧W (i+1) m' σ' H')∧∀ x H',J.yld i H x H'→g x σ H' fun σ2 H2=>tb { D with nx:=N,ct:=N,bk:=D.nx } σ2 H2)
noncomputable def hV (fp:List Addr) (h:Heap):List (Addr×Obj):=fp.filterMap fun b=>(h.get? b).map fun o=>(b,o)
theorem dn {fp:List Addr}{h:Heap}{b:Addr}{o:Obj} (hb:b∈fp) (e:h.get? b=some o):(b,o)∈hV fp h:=List.mem_filterMap.mpr ⟨b,hb,by rw [e];rfl⟩
theorem qz {fp:List Addr}{h:Heap}{p:Addr×Obj} (hp:p∈hV fp h):p.1∈fp∧h.get? p.1=some p.2:=by
 obtain ⟨b,hb,e⟩:=List.mem_filterMap.mp hp
 cases q:h.get? b with
 |none=>rw [q] at e;cases e
 |some o =>
  rw [q] at e
  have e':(b,o)=p:=Option.some.inj e
  subst e'
  exact ⟨hb,q⟩
theorem Inv.pinned {pins:List (Addr×Obj)}{σ:St}{H:Hp}{s:Shared}{fp:List Addr} (I:Inv X pins σ H s) (hf:∀ b∈fp,hU X pins H b) (ho:∀ b∈fp,∃ o,s.heap.get? b=some o∧∀ v,o.data≠.cell v):Inv X (pins++hV fp s.heap) σ H s :=
 I.eC fun p hp=>(List.mem_append.mp hp).elim (fun z=>I.pin p (List.mem_append_right _ z)) fun z=>by
  obtain ⟨hb,e⟩:=qz z
  obtain ⟨f0,f1,f2,_⟩:=hf p.1 hb
  obtain ⟨o,e',d⟩:=ho p.1 hb
  rw [e] at e';cases e'
  exact ⟨e,f0,f1,f2,d⟩
theorem Inv.hW {pins pl:List (Addr×Obj)}{σ:St}{H:Hp}{s:Shared} (I:Inv X (pins++pl) σ H s):Inv X pins σ H s:=I.eC fun p hp=>I.pin p (List.mem_append_right _ (List.mem_append_left _ hp))
theorem wN {iter:Expr}{body:List Stmt}{wi:TI}{g:TG}{tb:TS}{pos:Pos} (hp:PassesOwn (model X.prog X.w) X.A X.env X.xe) (hc:X.calm=true) (hi:PI X tg iter wi) (hg:PG X tg g) (hb:PSs X body tb)
  (hs:∀ x,foldedSetIterable iter X.env x=pure x:=by intro _;rfl):PS X (.For tg iter body [] pos) (Al wi g tb):=by
 intro pins s σ H D I h
 refine wpAny_For (thn (hi pins s σ H _ I h) fun v s1 h1=>thn h1 fun itv s2 h2=>?_) hs
 obtain ⟨it,fp,tn,J,H2,e,I2,T,st2,f2,W,⟨m0,w0⟩,turn⟩:=h2
 subst e
 have stat:∀ {H':Hp},(∀ b∈fp,H' b=none)→∀ b∈fp,hU X pins H' b:=fun hn b hb=>⟨hn b hb,(f2 b hb).2⟩
 refine codeAny_forLoop_any (fun n s'=>∃ i σ' H',Inv X pins σ' H' s'∧tn i s'.heap∧(∀ b∈fp,H' b=none)∧W i n σ' H') ?_ m0 ⟨0,σ,H2,I2,st2,fun b hb=>(f2 b hb).1,w0⟩
 rintro n s3 ⟨i,σ3,H3,I3,st3,fr3,w3⟩
 rcases turn i n σ3 H3 w3 with ⟨stop,qn⟩|⟨go,N,hN,step⟩
 ·refine wpAny_passesOwn hp (thn (T.done X rfl rfl rfl hc i pins s3 σ3 H3 X.xe I3 (stat fr3) st3 stop) fun r s4 ⟨hr,I4⟩=>?_)
  subst hr
  exact wpAny_execs_nil ⟨σ3,H3,I4,qn⟩
 ·refine wpAny_passesOwn hp (thn (T.item X rfl rfl rfl hc i pins s3 σ3 H3 X.xe I3 (stat fr3) st3 go) fun r s4 ⟨u,hr,h4⟩=>?_)
  subst hr
  refine wpAny_passesOwn hp (thn h4 fun _ s5 ⟨x,H5,I5,r5,y5,st5,fr5⟩=>?_)
  have I5':=I5.pinned (stat fr5) (T.obj _ _ st5)
  refine wpAny_passesOwn hp (thn (hg _ s5 σ3 H5 x u _ I5' r5 (step x H5 y5)) fun _ s6 ⟨σ6,H6,I6,q6⟩=>?_)
  refine wpAny_passesOwn hp (thn (hb _ s6 σ6 H6 _ I6 q6) fun f s7 q7=>?_)
  have again:∀ {σ7:St} {H7:Hp},Inv X (pins++hV fp s5.heap) σ7 H7 s7→N σ7 H7→∃ m,m<n∧∃ i σ' H',Inv X pins σ' H' s7∧tn i s7.heap∧(∀ b∈fp,H' b=none)∧W i m σ' H':=fun {σ7 H7} I7 n7=>by
   obtain ⟨m',hm,w7⟩:=hN σ7 H7 n7
   refine ⟨m',hm,i+1,σ7,H7,I7.hW,T.keep _ _ _ st5 fun b hb o e=>(I7.pin (b,o) (List.mem_append_right _ (List.mem_append_right _ (dn hb e)))).1,fun b hb=>?_,w7⟩
   obtain ⟨o,e,d⟩:=T.obj _ _ st5 b hb
   exact (I7.pin (b,o) (List.mem_append_right _ (List.mem_append_right _ (dn hb e)))).2.1
  cases f with
  |next=>obtain ⟨σ7,H7,I7,n7⟩:=q7;exact again I7 n7
  |cont=>obtain ⟨σ7,H7,I7,n7⟩:=q7;exact again I7 n7
  |brk=>obtain ⟨σ7,H7,I7,q7⟩:=q7;exact ⟨σ7,H7,I7.hW,q7⟩
  |ret v=>obtain ⟨x7,σ7,H7,I7,r7,q7⟩:=q7;exact ⟨x7,σ7,H7,I7.hW,r7,q7⟩
end
end L2
namespace L2
open PySem PySem.Spec PyProof.Rows
noncomputable abbrev R2:=V→V→Hp→VK→Prop
noncomputable def OpR (X:Cx) (f:Value→Value→Sem Value) (r:R2):Prop :=
 ∀ (pins:List (Addr×Obj)) (s:Shared) (σ:St) (H:Hp) (x y:V) (v u:Value) (Q:VK),Inv X pins σ H s→RelV x v→RelV y u→r x y H Q →
  wpAny (model X.prog X.w) X.A (f v u) (EP X pins σ Q) X.xe s
noncomputable def gx (X:Cx) (f:Value) (r:List V→Hp→VK→Prop):Prop :=
 ∀ (pins:List (Addr×Obj)) (s:Shared) (σ:St) (H:Hp) (xs:List V) (us:List Value) (Q:VK),Inv X pins σ H s→Vals xs us→r xs H Q →
  wpAny (model X.prog X.w) X.A (call f us) (EP X pins σ Q) X.xe s
noncomputable def Am (X:Cx) (r:V→Hp→(Bool→Hp→Prop)→Prop):Prop :=
 ∀ (pins:List (Addr×Obj)) (s:Shared) (σ:St) (H:Hp) (x:V) (v:Value) (Q:Bool→Hp→Prop),Inv X pins σ H s→RelV x v→r x H Q →
  wpAny (model X.prog X.w) X.A (truthy v) (TP X pins σ Q) X.xe s
noncomputable def rI (C:Int→Int→Prop) (g:Int→Int→V):R2:=fun x y H Q=>∃ i j,x=.int i∧y=.int j∧C i j∧Q (g i j) H
noncomputable def rI0 (g:Int→Int→V):R2:=fun x y H Q=>∃ i j,x=.int i∧y=.int j∧Q (g i j) H
section
variable {X : Cx} {a b c : Expr} {ta tb tc : TE} {pos : Pos}
theorem opI {f:Value→Value→Sem Value}{C:Int→Int→Prop}{g:Int→Int→Int}
  (rule:∀ (i j:Int) (t u:Tok) (s:Shared) (Q:Value→Shared→Prop) (E:Value→Shared→Prop),C i j→Q (.int (g i j) s.toks) { s with toks:=s.toks+1 }→wpAny (model X.prog X.w) X.A (f (.int i t) (.int j u)) Q E s) :
  OpR X f (rI C fun i j=>.int (g i j)):=by
 intro pins s σ H x y v u Q I rx ry h
 obtain ⟨i,j,rfl,rfl,hc,q⟩:=h
 obtain ⟨t,rfl⟩:=rx
 obtain ⟨t',rfl⟩:=ry
 exact rule i j t t' s _ _ hc ⟨.int (g i j),H,I.tok _,⟨_,rfl⟩,q⟩
theorem yz {f:Value→Value→Sem Value}{g:Int→Int→Int}
  (rule:∀ (i j:Int) (t u:Tok) (s:Shared) (Q:Value→Shared→Prop) (E:Value→Shared→Prop),Q (.int (g i j) s.toks) { s with toks:=s.toks+1 }→wpAny (model X.prog X.w) X.A (f (.int i t) (.int j u)) Q E s) :
  OpR X f (rI0 fun i j=>.int (g i j)):=by
 intro pins s σ H x y v u Q I rx ry h
 obtain ⟨i,j,rfl,rfl,q⟩:=h
 obtain ⟨t,rfl⟩:=rx
 obtain ⟨t',rfl⟩:=ry
 exact rule i j t t' s _ _ ⟨.int (g i j),H,I.tok _,⟨_,rfl⟩,q⟩
theorem wO {f:Value→Value→Sem Value}{g:Int→Int→Bool}
  (rule:∀ (i j:Int) (t u:Tok) (s:Shared) (Q:Value→Shared→Prop) (E:Value→Shared→Prop),Q (.bool (g i j)) s→wpAny (model X.prog X.w) X.A (f (.int i t) (.int j u)) Q E s) :
  OpR X f (rI0 fun i j=>.bl (g i j)):=by
 intro pins s σ H x y v u Q I rx ry h
 obtain ⟨i,j,rfl,rfl,q⟩:=h
 obtain ⟨t,rfl⟩:=rx
 obtain ⟨t',rfl⟩:=ry
 exact rule i j t t' s _ _ ⟨.bl (g i j),H,I,rfl,q⟩
noncomputable def An (i j:Int):Prop:=0<j∧j<1073741824
noncomputable def Ao (i j:Int):Prop:=0≤j∧j≤1000000∧i.natAbs<2 ^ 64
noncomputable def wQ (i j:Int):Prop:=(-(2 ^ 64)<i∧i<2 ^ 64)∨(-(2 ^ 64)<j∧j<2 ^ 64)
theorem wQ.ok {i j:Int} (h:wQ i j):IntMulOk i j:=by
 rcases h with ⟨h1,h2⟩|⟨h1,h2⟩
 ·exact .of_left (intBits_le_64 h1 h2)
 ·exact .of_right (intBits_le_64 h1 h2)
theorem cQ:OpR X (binaryOp .Add) (rI0 fun i j=>.int (i+j)):=yz fun _ _ _ _ _ _ _ q=>add_int q
theorem nH:OpR X (binaryOp .Sub) (rI0 fun i j=>.int (i - j)):=yz fun _ _ _ _ _ _ _ q=>sub_int q
theorem kj:OpR X (binaryOp .Mult) (rI wQ fun i j=>.int (i * j)):=opI fun _ _ _ _ _ _ _ hc q=>mul_int q hc.ok
theorem um:OpR X (binaryOp .FloorDiv) (rI An fun i j=>.int (i / j)):=opI fun i j _ _ _ _ _ hc q=>by
 have h1:(0:Int)<j:=hc.1
 have h2:j<1073741824:=hc.2
 exact floordiv_int (by omega) (by rw [Int.fdiv_eq_ediv_of_nonneg i (by omega)];exact q) (.inl (PyProof.noPylong_small (by omega)))
theorem bc:OpR X (binaryOp .Mod) (rI (fun _ j=>0<j) fun i j=>.int (i % j)):=opI fun i j _ _ _ _ _ hc q=>by
 have h1:(0:Int)<j:=hc
 exact mod_int' (by omega) (by rw [Int.fmod_eq_emod_of_nonneg i (by omega)];exact q)
theorem kl:OpR X (binaryOp .Pow) (rI Ao fun i j=>.int (i ^ j.toNat)):=opI fun _ _ _ _ _ _ _ hc q=>pow_int_small hc.1 hc.2.1 hc.2.2 q
end
section
variable {X : Cx} {a b c : Expr} {ta tb tc : TE} {pos : Pos}
theorem yA:OpR X (compareOp .Lt) (rI0 fun i j=>.bl (decide (i<j))):=wO fun _ _ _ _ _ _ _ q=>lt_int q
theorem yB:OpR X (compareOp .Gt) (rI0 fun i j=>.bl (decide (j<i))):=wO fun _ _ _ _ _ _ _ q=>gt_int q
theorem yC:OpR X (compareOp .GtE) (rI0 fun i j=>.bl (decide (j≤i))):=wO fun _ _ _ _ _ _ _ q=>ge_int q
noncomputable def yD (K:PySem.W.Frag) (x:V) (H:Hp) (k:Bool):Prop :=
 match x with
 |.non=>k=false
 |.bl b=>k=b
 |.int i=>k=(i != 0)
 |.str y=>y.length≤sizeLine∧k=((y.length:Int) != 0)
 |.byt y=>y.size≤sizeLine∧k=((y.size:Int) != 0)
 |.ref p=>(∃ xs,SqL K H p xs∧k=!xs.isEmpty)∨(∃ xs,SqT K H p xs∧k=!xs.isEmpty)∨∃ kvs,H p=some (.dK kvs)∧k=!kvs.isEmpty
 |_=>False
theorem nI {κ:Type}{kvs:List (κ×V)}{vs:List (κ×Value)} (r:KV kvs vs):(!vs.isEmpty)=!kvs.isEmpty:=by
 cases r <;> rfl
theorem hZ {xs:List V}{its:List Value} (r:Vals xs its):(!its.toArray.isEmpty)=!xs.isEmpty:=by
 cases r <;> simp
theorem fc:(sizeLine:Nat)<2 ^ 63:=by rw [sizeLine_eq];decide
theorem wR:Am X (fun x H Q=>∃ k,yD X.K x H k∧Q k H):=by
 intro pins s σ H x v Q I rx h
 obtain ⟨k,e,q⟩:=h
 have hl:=fc
 have hs:sizeLine=16777216:=sizeLine_eq
 cases x with
 |non =>
  cases rx
  have e':k=false:=e
  subst e'
  exact truthy_none ⟨H,I,q⟩
 |bl b =>
  cases rx
  have e':k=b:=e
  subst e'
  exact wpAny_truthy_bool ⟨H,I,q⟩
 |int i =>
  obtain ⟨t,rfl⟩:=rx
  have e':k=(i != 0):=e
  subst e'
  exact PySem.P.truthy_int ⟨H,I,q⟩
 |str y =>
  obtain ⟨t,rfl⟩:=rx
  obtain ⟨hy,e'⟩:y.length≤sizeLine∧k=((y.length:Int) != 0):=e
  subst e'
  exact PySem.P.truthy_str (by omega) ⟨H,I.tok _,q⟩
 |byt y =>
  obtain ⟨t,rfl⟩:=rx
  obtain ⟨hy,e'⟩:y.size≤sizeLine∧k=((y.size:Int) != 0):=e
  subst e'
  exact PySem.W.truthy_bytes (by omega) ⟨H,I.tok _,q⟩
 |ref p =>
  cases rx
  have e':(∃ xs,SqL X.K H p xs∧k=!xs.isEmpty)∨(∃ xs,SqT X.K H p xs∧k=!xs.isEmpty)∨∃ kvs,H p=some (.dK kvs)∧k=!kvs.isEmpty:=e
  rcases e' with ⟨xs,hx,e'⟩|⟨xs,hx,e'⟩|⟨kvs,hx,e'⟩
  ·subst e'
   obtain ⟨its,r,pl,hz⟩:=I.list hx
   have hlen:=r.length
   exact wpAny_truthy_list pl.isList (by simp only [List.size_toArray];omega) ⟨H,I.tok _,by rw [hZ r];exact q⟩
  ·subst e'
   obtain ⟨its,r,pl,hz⟩:=I.tuple hx
   have hlen:=r.length
   exact truthy_tuple pl (by simp only [List.size_toArray];omega) ⟨H,I.tok _,by rw [hZ r];exact q⟩
  ·subst e'
   obtain ⟨hz,hS,vs,r,m⟩:kvs.length≤sizeLine∧(p==sysModules)=false∧∃ vs,KV kvs vs∧s.heap.DictOf (aQ X.prog X.w) p vs:=I.hok p _ hx
   have hlen:kvs.length=vs.length:=Paired.length r
   exact wpAny_truthy_dict hS m (by omega) ⟨H,I.tok _,by rw [nI r];exact q⟩
 |_=>exact (show False from e).elim
theorem rH (ha:PE X a ta) (he:∀ whole,isTrue a X.env whole=(do let v ←whole;standAt a.pos;holding [v] (truthy v))) :
  PT X a (fun σ H Q=>ta σ H fun x H'=>∃ k,yD X.K x H' k∧Q k H'):=by
 intro pins s σ H Q I h
 exact isTrue_plain (thn (ha pins s σ H _ I h) fun v s1 ⟨x,H1,I1,r1,q1⟩=>wR pins s1 σ H1 x v Q I1 r1 q1) (he _)
theorem nJ:OpR X (binaryOp .Add) (fun x y H Q=>∃ i j,x=.str i∧y=.str j∧i.length+j.length≤sizeLine∧Q (.str (i++j)) H):=by
 intro pins s σ H x y v u Q I rx ry h
 obtain ⟨i,j,rfl,rfl,hz,q⟩:=h
 obtain ⟨t,rfl⟩:=rx
 obtain ⟨t',rfl⟩:=ry
 exact add_str (fun t' tk=>⟨.str (i++j),H,I.tok _,⟨_,rfl⟩,q⟩) hz
theorem vals1 {x:V}{us:List Value} (r:Vals [x] us):∃ u,us=[u]∧RelV x u:=by
 cases r with
 |cons r1 r2=>cases r2;exact ⟨_,rfl,r1⟩
theorem vals2 {x y:V}{us:List Value} (r:Vals [x,y] us):∃ u w',us=[u,w']∧RelV x u∧RelV y w':=by
 cases r with
 |cons r1 r2 =>
  cases r2 with
  |cons r3 r4=>cases r4;exact ⟨_,_,rfl,r1,r3⟩
theorem km:gx X (.type "str") (fun xs H Q=>∃ i,xs=[.int i]∧i.natAbs.log2<1920∧Q (.str (toString i)) H):=by
 intro pins s σ H xs us Q I r h
 obtain ⟨i,rfl,hz,q⟩:=h
 obtain ⟨u,rfl,t,rfl⟩:=vals1 r
 exact PySem.P.str_of_int hz ⟨.str _,H,I.tok _,⟨_,rfl⟩,q⟩
end
end L2
namespace L2
open PySem PySem.Spec PyProof.Rows
structure AX (h:Heap) (x dx C:Addr) (mA:Str→Option Value):Prop where
 obj:h.get? x=some (PySem.W.instObj C dx)
 ns:h.Ns1 dx mA
 ne:dx≠x
section
variable {prog : Program} {w : World} {A : Around} {E : Value → Shared → Prop} {s : Shared} {K : PySem.W.Frag} {x dx C f : Addr} {mA : Str → Option Value} {name : Str} {v : Value}
end
theorem ji.some_of {v:V}{o:Option Value} (r:ji (some v) o):∃ u,o=some u∧RelV v u:=by
 cases o with
 |none=>exact (show False from r).elim
 |some u=>exact ⟨u,rfl,r⟩
section
variable {P : Program} {w : World} {H H' : Hp} {h h' : Heap} {a C dx : Addr} {fs fs' : List (Str × V)}
end
structure Cls (K:PySem.W.Frag) (C:Addr):Prop where
 pg:PySem.W.plainGet K C Str.empty=true
 hd:PySem.W.hasDictIn K C=true
 po:PySem.W.plainOver K C=true
 sa:PySem.W.findIn K (.ref C) "__setattr__"=some (some (.builtin "object.__setattr__"))
structure Con (K:PySem.W.Frag) (C:Addr) (f:Str) (v:V) (u:Value):Prop where
 at_:PySem.W.findIn K (.ref C) f=some (some u)
 rel:RelV v u
 get:PySem.W.specialIn K u "__get__"=some none
 cp:PySem.W.copiedNames.contains f=false
structure Meth (K:PySem.W.Frag) (C:Addr) (m:Str) (f:Addr):Prop where
 at_:PySem.W.findIn K (.ref C) m=some (some (.ref f))
 fn:PySem.W.isFn K (.ref f)=true
 kp:PySem.W.keepIn K (.ref f)=true
section
variable {X : Cx} {pins : List (Addr × Obj)} {σ : St} {H : Hp} {s : Shared} {a C dx : Addr} {fs : List (Str × V)} {f : Str} {v : V} {A : Around} {E : Value → Shared → Prop}
end
section
variable {X : Cx} {o e value : Expr} {f : Str} {pos pos' tpos : Pos} {ta tv : TE}
end
section
variable {X : Cx} {pins : List (Addr × Obj)} {σ : St} {H : Hp} {s : Shared} {A : Around} {E : Value → Shared → Prop} {Q : Value → Shared → Prop} {c : Value} {b : Bool}
inductive h_ (K:PySem.W.Frag) (H:Hp):V→Value→Prop where
 |non:h_ K H .non (.type "NoneType")
 |bl (x:Bool):h_ K H (.bl x) (.type "bool")
 |int (i:Int):h_ K H (.int i) (.type "int")
 |str (x:Str):h_ K H (.str x) (.type "str")
 |flt (x:UInt64):h_ K H (.flt x) (.type "float")
 |lst {a:Addr} {xs:List V} (e:H a=some (.lst xs)):h_ K H (.ref a) (.type "list")
 |frz {a:Addr} {o:Obj} {xs:List V} (e:H a=some (.frz o (.lst xs))):h_ K H (.ref a) (.type "list")
 |tup {a:Addr} {xs:List V} (e:H a=some (.tup xs)):h_ K H (.ref a) (.type "tuple")
 |dK {a:Addr} {kvs:List (Key×V)} (e:H a=some (.dK kvs)):h_ K H (.ref a) (.type "dict")
 |dT {a:Addr} {kvs:List (List Key×V)} (e:H a=some (.dT kvs)):h_ K H (.ref a) (.type "dict")
 |ins {a C dx:Addr} {fs:List (Str×V)} (e:H a=some (.ins C dx fs)) (cl:Cls K C) (ha:PySem.W.findIn K (.ref C) "__class__"=some (some (.builtin "object.__class__")))
   (hn:PySem.W.specialIn K (.builtin "object.__class__") "__get__"=some (some (.builtin "getset_descriptor.__get__"))) (htk:PySem.W.takesIn K (.builtin "object.__class__")=some true)
   (hm:PySem.W.mroIn K C (.type "object")=some true):h_ K H (.ref a) (.ref C)
end
end L2
namespace L2
open PySem PySem.Spec PyProof.Rows
structure fF (k:Nat) (A:Around):Prop where
 hd:A.handled=none
 dp:A.depth+3 * k+5<recursionLimit
 un:A.units+16 * k+200<cLine
 gd:A.guards=some []
theorem fF.deeper {k:Nat}{A:Around} (r:fF (k+1) A) (env:Env):fF k (A.deeper env) :=
 ⟨r.hd,by have:=r.dp;show A.depth+1+3 * k+5 < _;omega,by have:=r.un;show A.units+3+16 * k+200 < _;omega,r.gd⟩
theorem fF.depth {k:Nat}{A:Around} (r:fF k A):A.depth<recursionLimit:=by have:=r.dp;omega
noncomputable def Ap:TA:=fun _ H Q=>Q [] H
noncomputable def yE (ta:TE) (tr:TA):TA:=fun σ H Q=>ta σ H fun x H1=>tr σ H1 fun xs H2=>Q (x::xs) H2
section
variable {X : Cx} {e : Expr} {es : List Expr} {te : TE} {t : TA} {pos : Pos}
theorem kn:PA X [] Ap:=fun _ _ _ _ H Q I h=>Calls.spliced_nil ⟨[],H,I,.nil,h⟩
theorem fG (ha:PE X e te) (hr:PA X es t) (hs:starEach (e::es) X.env=(false,eval e X.env)::starEach es X.env:=by rfl):PA X (e::es) (yE te t):=by
 intro pos pins s σ H Q I h
 rw [hs]
 show wpAny _ _ (spliced ((false,eval e X.env)::backTo pos (starEach es X.env))) _ _ s
 refine Calls.spliced_cons (thn (ha pins s σ H _ I h) fun u s1 ⟨x,H1,I1,r1,q1⟩=>?_)
 exact thn (hr pos pins s1 σ H1 _ I1 q1) fun us s2 ⟨xs,H2,I2,r2,q2⟩=>⟨x::xs,H2,I2,.cons r1 r2,q2⟩
end
noncomputable abbrev Sp:=List V→Hp→VK→XK→Prop
noncomputable abbrev CXT:=List Env→Hp→Shared→XK→Value→Shared→Prop
structure uo (P:Program) (w:World) (K:PySem.W.Frag) (mg:Str→Option Value) (base:Heap) (A:Around) (outer:List Env) (s:Shared) (H:Hp):Prop where
 frames:A.frames=some outer
 mod:Mod K mg base
 bs:∀ b o,base.get? b=some o→s.heap.get? b=some o∧H b=none
 bsz:base.objs.size≤s.heap.objs.size
 gZ:s.heap.FunFrames base outer
 frf:∀ b∈frs outer,H b=none
 hok:HOk P w H s.heap
 bare:AllBare s.gens
noncomputable def CE (outer:List Env) (P:Program) (w:World) (H:Hp) (s:Shared) (Q:VK) (u:Value) (s':Shared):Prop :=
 ∃ v H',s'.os=s.os∧AllBare s'.gens∧Un (frs outer) [] H H' s.heap s'.heap∧HOk P w H' s'.heap∧RelV v u∧Q v H'
noncomputable def CR (CX:CXT) (outer:List Env) (P:Program) (w:World) (H:Hp) (s:Shared) (Q:VK) (E:XK) (r:Result) (s':Shared):Prop :=
 match r with
 |.ok (.ret u)=>CE outer P w H s Q u s'
 |.ok _=>False
 |.error e=>CX outer H s E e s'
structure lU (P:Program) (w:World) (K:PySem.W.Frag) (mg:Str→Option Value) (base:Heap) (CX:CXT) (k:Nat) (f:Addr) (fd:FuncData) (ps:List Str) (sp:Sp):Prop where
 len:∀ vs H Q E,sp vs H Q E→vs.length=ps.length
 run:∀ (A:Around) (outer:List Env) (s:Shared) (H:Hp) (args:Args) (us:List Value) (vs:List V) (Q:VK) (E:XK),fF k A→uo P w K mg base A outer s H→BindsTo s fd args (ps.zip us)→Vals vs us→sp vs H Q E →
  codeAny (model P w) A (.call (.ref f) args) (CR CX outer P w H s Q E) s
section
variable {X : Cx} {pins : List (Addr × Obj)} {σ : St} {H : Hp} {s s' : Shared}
theorem Inv.Aq (I:Inv X pins σ H s):uo X.prog X.w X.K X.mg X.base X.A X.stack s H :=
 ⟨I.ok.frames,I.ok.mod,I.bs,Nat.le_trans I.ok.bsz I.sz,I.stack,I.pd,I.hok,I.bare⟩
theorem Inv.after {Q:VK}{u:Value} (I:Inv X pins σ H s) (h:CE X.stack X.prog X.w H s Q u s'):EP X pins σ Q u s':=by
 obtain ⟨v,H',os,bare,un,hok,r,q⟩:=h
 obtain ⟨hh,g,d,t,os'⟩:=s'
 obtain rfl:os'=s.os:=os
 exact ⟨v,H',I.call (h':=hh) (g':=g) (d':=d) (t':=t) (ch:=[]) un hok bare (fun b z=>absurd z (by simp)),r,q⟩
end
noncomputable def Binds (K:PySem.W.Frag) (fd:FuncData) (ps:List Str) (ds:List Value):Prop :=
 ∀ (s:Shared) (us:List Value),K.In s.heap→(us++ds).length=ps.length→BindsTo s fd ⟨us,[]⟩ (ps.zip (us++ds))
theorem Binds.all {K:PySem.W.Frag}{fd:FuncData}{ps:List Str} (h:∀ us:List Value,us.length=ps.length→bindArgs fd ⟨us,[]⟩=pure (ps.zip us)):Binds K fd ps []:=fun s us _ hl=>by
 rw [List.append_nil] at hl ⊢
 exact .of_eq (h us hl)
noncomputable def Passes (CX:CXT) (X:Cx) (E:XK):Prop:=∀ (pins:List (Addr×Obj)) (σ:St) (H:Hp) (s:Shared) (e:Value) (s':Shared),Inv X pins σ H s→CX X.stack H s E e s'→X.xe e s'
section
variable {X : Cx} {CX : CXT} {k : Nat} {f C : Addr} {fd : FuncData} {ps : List Str} {sp : Sp} {dvs : List V} {ds : List Value} {E : XK} {x m : Str} {p pos apos : Pos} {e o : Expr} {es : List Expr} {ta : TE} {t : TA}
theorem wU {pins:List (Addr×Obj)}{σ:St}{H:Hp}{s:Shared}{Q:VK}{us:List Value}{vs:List V} (F:lU X.prog X.w X.K X.mg X.base CX k f fd ps sp) (hr:fF k X.A) (hb:Binds X.K fd ps ds) (hd:Vals dvs ds) (hx:Passes CX X E)
  (I:Inv X pins σ H s) (r:Vals vs us) (h:sp (vs++dvs) H Q E):wpAny (model X.prog X.w) X.A (call (.ref f) us) (EP X pins σ Q) X.xe s:=by
 have r2:Vals (vs++dvs) (us++ds):=r.append hd
 have hl:(us++ds).length=ps.length:=by rw [←r2.length];exact F.len _ _ _ _ h
 refine wpAny_call (codeAny_mono (F.run X.A X.stack s H ⟨us,[]⟩ (us++ds) (vs++dvs) Q E hr I.Aq (hb s us I.kIn hl) r2 h) fun r s' hq=>?_)
 cases r with
 |error e=>exact hx pins σ H s e s' I hq
 |ok fl =>
  cases fl with
  |ret u=>exact I.after hq
  |next=>exact False.elim hq
  |brk=>exact False.elim hq
  |cont=>exact False.elim hq
structure Mk (K:PySem.W.Frag) (C f:Addr):Prop where
 makes:PySem.W.makesIn K C=true
 init:PySem.W.findIn K (.ref C) "__init__"=some (some (.ref f))
 fn:PySem.W.isFn K (.ref f)=true
 kp:PySem.W.keepIn K (.ref C)=true
end
section
variable {X : Cx} {CX : CXT} {k : Nat} {f C : Addr} {fd : FuncData} {ps ks : List Str} {sp : Sp} {E : XK} {x m : Str} {p pos apos kpos : Pos} {e o : Expr} {es : List Expr} {kws : List Keyword} {te ta : TE} {t tk : TA} {nm : Option Str}
structure Ar (K:PySem.W.Frag) (fd:FuncData) (ps ks:List Str) (g:List Value→List Value→List Value) (gV:List V→List V→List V):Prop where
 to:∀ (s:Shared) (us ws:List Value),K.In s.heap→(g us ws).length=ps.length→BindsTo s fd ⟨us,ks.zip ws⟩ (ps.zip (g us ws))
 rel:∀ {vs:List V} {us:List Value} {zs:List V} {ws:List Value},Vals vs us→Vals zs ws→Vals (gV vs zs) (g us ws)
variable {g : List Value → List Value → List Value} {gV : List V → List V → List V}
end
structure aD (N P:List Str) (sc:Scope):Prop where
 kind:sc.kind=.function
 co:sc.isCoroutine=false
 gen:sc.isGenerator=false
 nd:N.Nodup
 pre:N.take P.length=P
 par:∀ x∈P,sc.names.lookup x=some .local∨sc.names.lookup x=some .cell
 nofree:∀ y∈sc.names,y.2≠.free
theorem jH {kindOf:Str→Option NameKind}{x:Str}:∀ {binds:List (Str×Value)}{m:Str→Option Value},(∀ v,(x,v)∉binds)→bindL kindOf binds m x=m x
 |[],_,_=>rfl
 |(n,v)::r,m,h=>by
  unfold bindL
  rw [jH fun w hw=>h w (List.mem_cons_of_mem _ hw)]
  split
  ·have:x≠n:=by rintro rfl;exact h v List.mem_cons_self
   simp [this]
  ·rfl
theorem jI {kindOf:Str→Option NameKind}{x:Str}:∀ {binds:List (Str×Value)}{m:Str→Option Value},(∀ v,(x,v)∉binds)→bindC kindOf binds m x=m x
 |[],_,_=>rfl
 |(n,v)::r,m,h=>by
  unfold bindC
  rw [jI fun w hw=>h w (List.mem_cons_of_mem _ hw)]
  split
  ·rfl
  ·have:x≠n:=by rintro rfl;exact h v List.mem_cons_self
   simp [this]
theorem jJ {kindOf:Str→Option NameKind}{x:Str}{v:Value}:∀ {P:List Str}{vs:List Value}{i:Nat}{m:Str→Option Value},P.Nodup→P[i]?=some x→vs[i]?=some v→kindOf x=some .local →
  bindL kindOf (P.zip vs) m x=some v
 |[],_,_,_,_,h,_,_=>by simp at h
 |_::_,[],_,_,_,_,h,_=>by simp at h
 |p::P,w::vs,0,m,nd,h1,h2,hk=>by
  simp at h1 h2;subst h1;subst h2
  show bindL kindOf ((p,w)::P.zip vs) m p=_
  unfold bindL
  rw [jH fun v hv=>(List.nodup_cons.mp nd).1 (List.of_mem_zip hv).1,if_pos hk]
  simp
 |p::P,w::vs,i+1,m,nd,h1,h2,hk=>by
  show bindL kindOf ((p,w)::P.zip vs) m x=_
  unfold bindL
  exact jJ (i:=i) (List.nodup_cons.mp nd).2 (by simpa using h1) (by simpa using h2) hk
theorem jK {kindOf:Str→Option NameKind}{x:Str}{v:Value}:∀ {P:List Str}{vs:List Value}{i:Nat}{m:Str→Option Value},P.Nodup→P[i]?=some x→vs[i]?=some v→kindOf x≠some .local →
  bindC kindOf (P.zip vs) m x=some v
 |[],_,_,_,_,h,_,_=>by simp at h
 |_::_,[],_,_,_,_,h,_=>by simp at h
 |p::P,w::vs,0,m,nd,h1,h2,hk=>by
  simp at h1 h2;subst h1;subst h2
  show bindC kindOf ((p,w)::P.zip vs) m p=_
  unfold bindC
  rw [jI fun v hv=>(List.nodup_cons.mp nd).1 (List.of_mem_zip hv).1,if_neg hk]
  simp
 |p::P,w::vs,i+1,m,nd,h1,h2,hk=>by
  show bindC kindOf ((p,w)::P.zip vs) m x=_
  unfold bindC
  exact jK (i:=i) (List.nodup_cons.mp nd).2 (by simpa using h1) (by simpa using h2) hk
noncomputable def start (N:List Str) (vs:List V):St:=vs.map some++List.replicate (N.length - vs.length) none
noncomputable def nK (CX:CXT) (P:Program) (w:World) (K:PySem.W.Frag) (mg:Str→Option Value) (base:Heap) (N:List Str) (qual:Str) (scope:Scope) (f:Addr) (cd:Value) (A:Around) (outer:List Env) (s:Shared) (H:Hp) (E:XK):Cx where
 prog:=P
 w:=w
 K:=K
 mg:=mg
 base:=base
 A:=A.deeper (envOfC qual scope s.heap.objs.size f cd)
 N:=N
 s₀:=s
 H₀:=H
 env:=envOfC qual scope s.heap.objs.size f cd
 outer:=outer
 stack:=envOfC qual scope s.heap.objs.size f cd::outer
 ex:=[]
 calm:=true
 fn:=fun _=>true
 pn:=[]
 xe:=fun e s'=>wpAny (model P w) (A.deeper (envOfC qual scope s.heap.objs.size f cd)) (leaving (envOfC qual scope s.heap.objs.size f cd) e) (fun _ s''=>CX outer H s E e s'') (fun e' s''=>CX outer H s E e' s'') s'
theorem lV {sc:Scope}{n:Nat}{x:Str} (h:sc.names.lookup x=some .cell):∃ c,(cellsFrom n sc.names []).lookup x=some c:=by
 have q:=PySem.W.cellsFrom_some sc.names n [] (.inl h)
 exact Option.isSome_iff_exists.mp q
theorem qA {CX:CXT}{P:Program}{w:World}{K:PySem.W.Frag}{mg:Str→Option Value}{base:Heap}{N ps:List Str}{qual:Str}{scope:Scope}{f:Addr}{cd:Value}{A:Around}{outer:List Env}{s s1:Shared}{H:Hp}{E:XK}{us:List Value}{vs:List V}
  (S:aD N ps scope) (hd:A.handled=none) (e0:uo P w K mg base A outer s H) (hl:vs.length=ps.length) (r:Vals vs us)
  (x:InCallC s s.heap.objs.size (bindL (envOfC qual scope s.heap.objs.size f cd).kindOf (ps.zip us) fun _=>none) (cellsFrom (s.heap.objs.size+1) scope.names []) (bindC (envOfC qual scope s.heap.objs.size f cd).kindOf (ps.zip us) fun _=>none) s1) :
  Inv (nK CX P w K mg base N qual scope f cd A outer s H E) [] (start N vs) H s1:=by
 have hpl:ps.length≤N.length:=by have:=congrArg List.length S.pre;rw [List.length_take] at this;omega
 obtain ⟨h1,tk,rfl,hk⟩:=x.done
 have noA:∀ b:Addr,b∉(nK CX P w K mg base N qual scope f cd A outer s H E).ex:=fun b z=>absurd (show b∈([]:List Addr) from z) (by simp)
 refine ⟨⟨e0.mod,S.kind,rfl,rfl,Nat.le_refl _,fun y z c h1 h2=>?_,fun y hy=>?_,fun y c _ h=>?_,fun _=>hd,Around.frames_deeper e0.frames,.inr ⟨rfl,rfl⟩,fun b z=>absurd z (noA b),e0.bs,e0.bsz,fun b _ _=>noA b,fun b z=>absurd z (noA b),e0.gZ,e0.frf⟩,
  rfl,e0.bare,Un.kept hk,⟨_,x.toInCall.ns,fun i y v h1 h2 h3=>?_⟩,fun y c h=>⟨_,x.cell y c h⟩,e0.hok.fresh (Nat.le_refl _),fun y c h=>?_,fun p hp=>absurd (show p∈([]:List (Addr×Obj)) from hp) (by simp),e0.hok.kept hk,?_⟩
 ·exact name_of_addr x.apart (PySem.mem_of_lookup h1) (PySem.mem_of_lookup h2)
 ·have hy:scope.names.lookup y=some .cell∨scope.names.lookup y=some .free:=hy
  rcases hy with hy|hy
  ·exact lV hy
  ·exact absurd rfl (S.nofree _ (PySem.mem_of_lookup hy))
 ·exact Nat.le_of_lt (x.above y c (PySem.mem_of_lookup h))
 ·have hi:i<vs.length:=by
   unfold start at h2
   by_cases hi:i<vs.length
   ·exact hi
   ·rw [List.getElem?_append_right (by simpa using hi)] at h2
    rw [List.getElem?_replicate] at h2
    split at h2 <;> cases h2
  have ha:vs[i]?=some v:=by
   unfold start at h2
   rw [List.getElem?_append_left (by simpa using hi),List.getElem?_map] at h2
   cases e:vs[i]? with
   |none=>rw [e] at h2;cases h2
   |some a=>rw [e] at h2;cases h2;rfl
  obtain ⟨u,hu,rv⟩:=r.get ha
  have hp:ps[i]?=some y:=by
   rw [←S.pre,List.getElem?_take_of_lt (by omega)];exact h1
  have ndP:ps.Nodup:=by rw [←S.pre];exact S.nd.sublist (List.take_sublist _ _)
  refine ⟨u,rv,?_⟩
  rcases S.par y (List.mem_of_getElem? hp) with k|k
  ·exact .inl ⟨k,jJ ndP hp hu k⟩
  ·obtain ⟨c,e⟩:=lV (n:=s.heap.objs.size+1) k
   refine .inr ⟨.inl k,c,e,?_⟩
   have q:=x.cell y c e
   rw [jK ndP hp hu (by show scope.names.lookup y≠_;rw [k];decide)] at q
   exact q
 ·exact e0.hok.fresh (Nat.le_of_lt (x.above y c (PySem.mem_of_lookup h)))
 ·unfold start
  show _=N.length
  rw [List.length_append,List.length_map,List.length_replicate]
  omega
theorem yF {CX:CXT}{P:Program}{w:World}{K:PySem.W.Frag}{mg:Str→Option Value}{base:Heap}{k:Nat}{f:Addr}{name qual:Str}{params:Arguments}{body:List Stmt}{scope:Scope}{dV kV doc pm cdv ct oc:Value}{an od:Option Addr}
  {osl:Array (Option Value)} {N ps:List Str} {sp:Sp} (lk:K.lookup f=some ⟨oc,od,.func (PySem.W.fnOf name qual params body scope dV kV doc pm an cdv ct),osl⟩) (hcd:PySem.W.codeIn K cdv qual=true) (S:aD N ps scope)
  (len:∀ vs H Q E,sp vs H Q E→vs.length=ps.length)
  (hbody:∀ (A:Around) (outer:List Env) (s:Shared) (H:Hp) (vs:List V) (Q:VK) (E:XK),fF k (A.deeper (envOfC qual scope s.heap.objs.size f cdv))→sp vs H Q E →
   ∃ t,PSs (nK CX P w K mg base N qual scope f cdv A outer s H E) body t∧t { nx:=fun _ H'=>Q .non H',rt:=Q } (start N vs) H) :
  lU P w K mg base CX (k+1) f (PySem.W.fnOf name qual params body scope dV kV doc pm an cdv ct) ps sp:=by
 refine ⟨len,fun A outer s H args us vs Q E hr e0 hb r hsp=>?_⟩
 have hl:=len _ _ _ _ hsp
 have KX:K.In s.heap:=e0.mod.kin.keeps fun b o e=>(e0.bs b o e).1
 have lim:s.heap.NoLimit:=e0.mod.nolimit.keeps fun b o e=>(e0.bs b o e).1
 have hkind:∀ y∈ps.zip us,scope.names.lookup y.1=some .local∨(scope.names.lookup y.1=some .cell∧((cellsFrom (s.heap.objs.size+1) scope.names []).lookup y.1).isSome=true):=fun ⟨n,v⟩ hy=>by
  rcases S.par n (List.of_mem_zip hy).1 with q|q
  ·exact .inl q
  ·exact .inr ⟨q,PySem.W.cellsFrom_some _ _ _ (.inl q)⟩
 refine codeAny_call_function hr.depth (KX _ _ lk) rfl S.co S.gen rfl (PySem.W.codeRec_of KX hcd) (hb _ _ _ _ ?_)
 refine wpAny_newFunctionEnv_cells S.kind hkind fun env he s1 x=>?_
 subst he
 refine ⟨lim.keeps x.toInCall.keep,codeAny_func ?_⟩
 obtain ⟨t,ht,hq⟩:=hbody A outer s H vs Q E (hr.deeper _) hsp
 have I:Inv (nK CX P w K mg base N qual scope f cdv A outer s H E) [] (start N vs) H s1:=qA S hr.hd e0 hl r x
 refine wpAny_mono (ht [] s1 (start N vs) H _ I hq) (fun fl s' hs=>?_) fun e s' hs=>hs
 have fin:∀ {σ':St} {H':Hp} {v:V} {u:Value},Inv (nK CX P w K mg base N qual scope f cdv A outer s H E) [] σ' H' s'→RelV v u→Q v H'→CE outer P w H s Q u s' :=
  fun {σ' H' v u} J rv q=>⟨v,H',J.os,J.bare,J.base,J.hok,rv,q⟩
 cases fl with
 |ret u =>
  obtain ⟨v,σ',H',J,rv,q⟩:=hs
  exact fin J rv q
 |next =>
  obtain ⟨σ',H',J,q⟩:=hs
  exact fin (v:=V.non) (u:=Value.none) J rfl q
 |brk =>
  obtain ⟨_,_,_,q⟩:=hs
  exact False.elim q
 |cont =>
  obtain ⟨_,_,_,q⟩:=hs
  exact False.elim q
end L2
namespace L2
open PySem PySem.Spec PyProof.Rows
section
variable {X : Cx} {x : Str} {p pos : Pos} {e : Expr} {es : List Expr} {t : TA} {id T : String} {r : List V → Hp → VK → Prop}
end
end L2
namespace HT
open PySem PyProof.Rows
section
open PySem.SeqAt
open PySem.AutoSeq1 (wpAny_loadPart')
open PySem.MeetsSeq PySem.MeetsSeq2 PySem.MeetsSeq3
end
section
variable {prog : Program} {w : World} {A : Around} {E : Value → Shared → Prop} {s : Shared}
noncomputable def sIx (n d:Nat):Option Int→Nat
 |none=>d
 |some v=>if v<0 then (v+(n:Int)).toNat else min v.toNat n
theorem pj (n d k:Nat):sIx n d (some (k:Int))=min k n:=by
 show (if (k:Int)<0 then ((k:Int)+(n:Int)).toNat else min (k:Int).toNat n)=min k n
 rw [if_neg (by omega),Int.toNat_natCast]
theorem wV (n d:Nat) (hd:d≤n) (o:Option Int):sIx n d o≤n:=by
 cases o with
 |none=>exact hd
 |some v =>
  show (if v<0 then (v+(n:Int)).toNat else min v.toNat n)≤n
  by_cases hv:v<0
  ·rw [if_pos hv];omega
  ·rw [if_neg hv];exact Nat.min_le_right _ _
theorem pq (v:Int) (n d:Nat):(if v<0 then max (v+(n:Int)) 0 else min v (n:Int))=((sIx n d (some v):Nat):Int):=by
 show (if v<0 then max (v+(n:Int)) 0 else min v (n:Int))=(((if v<0 then (v+(n:Int)).toNat else min v.toNat n):Nat):Int)
 by_cases hv:v<0
 ·simp only [if_pos hv];omega
 ·simp only [if_neg hv];omega
theorem nL (lo hi:Option Int) (n:Nat):Builtin.Slice.sliceAdjust lo hi 1 (n:Int)=(((sIx n 0 lo:Nat):Int),((sIx n n hi:Nat):Int)):=by
 have h1:¬ ((1:Int)<0):=by omega
 unfold Builtin.Slice.sliceAdjust
 simp only [h1,if_false]
 refine Prod.ext ?_ ?_
 ·cases lo with
  |none=>rfl
  |some v=>exact pq v n 0
 ·cases hi with
  |none=>rfl
  |some v=>exact pq v n n
theorem nM (i j:Nat):Builtin.Slice.slicePlaces (i:Int) (j:Int) 1=j - i:=by
 unfold Builtin.Slice.slicePlaces
 have h1:(1:Int) > 0:=by omega
 simp only [h1,if_true,Int.ediv_one]
 split <;> omega
theorem ia {v:Value}{o:Option Int}{Q:Option Int→Shared→Prop} (p:IsPart v o) (h:Q o s):wpAny (model prog w) A (Builtin.Slice.slicePartIndex v) Q E s:=by
 cases p with
 |none=>exact slicePart_none h
 |int i t=>exact slicePart_int h
theorem cX {sl:Addr}{vl vu:Value}{lo hi:Option Int}{n:Nat}{Q:Int×Int×Nat→Shared→Prop} (hs:s.heap.IsSliceOf sl vl vu .none) (pl:IsPart vl lo) (pu:IsPart vu hi)
  (h:Q (((sIx n 0 lo:Nat):Int),1,sIx n n hi - sIx n 0 lo) s):wpAny (model prog w) A (Builtin.Slice.sliceApplied (.ref sl) (pure (n:Int))) Q E s:=by
 obtain ⟨os,hos,hcs,hds⟩:=id hs
 unfold Builtin.Slice.sliceApplied Builtin.Slice.sliceFields
 refine wpAny_bind (wpAny_bind (wpAny_field hos hds (x:=vl) rfl (wpAny_bind (wpAny_field hos hds (x:=vu) rfl (wpAny_bind (wpAny_field hos hds (x:=.none) rfl (wpAny_pure ?_)))))))
 refine wpAny_bind (slicePart_none ?_)
 show wpAny _ _ (if ((1:Int)==0)=true then _ else _) _ _ s
 rw [if_neg (by decide)]
 refine wpAny_bind (ia pl (wpAny_bind (ia pu (wpAny_bind (wpAny_pure ?_)))))
 show wpAny _ _ (match Builtin.Slice.sliceAdjust lo hi 1 (n:Int) with|(lo,hi)=>pure (lo,(1:Int),Builtin.Slice.slicePlaces lo hi 1)) _ _ s
 rw [nL lo hi n]
 show wpAny _ _ (pure (((sIx n 0 lo:Nat):Int),(1:Int),Builtin.Slice.slicePlaces ((sIx n 0 lo:Nat):Int) ((sIx n n hi:Nat):Int) 1)) _ _ s
 rw [nM]
 exact wpAny_pure h
theorem rJ (xs:Array Value) (i k:Nat):((List.range k).filterMap fun (m:Nat)=>xs[((i:Int)+(m:Int) * 1).toNat]?).toArray=((xs.toList.drop i).take k).toArray:=by
 have e:(fun (m:Nat)=>xs[((i:Int)+(m:Int) * 1).toNat]?)=fun m=>xs[i+m]?:=by
  funext m
  have:((i:Int)+(m:Int) * 1).toNat=i+m:=by omega
  rw [this]
 rw [e]
 have:=pick_run xs i k
 rw [List.filterMap_map] at this
 have e2:((fun x=>xs[x]?) ∘ fun x=>i+x)=fun m=>xs[i+m]?:=rfl
 rw [e2] at this
 rw [this]
theorem fH {t sl:Addr}{items:Array Value}{vl vu:Value}{lo hi:Option Int}{Q:Value→Shared→Prop} (ht:IsTup s.heap t items) (hs:s.heap.IsSliceOf sl vl vu .none) (pl:IsPart vl lo) (pu:IsPart vu hi)
  (hw:¬ (sIx items.size 0 lo=0∧sIx items.size items.size hi=items.size))
  (h:Q (.ref s.heap.objs.size) { s with heap:=s.heap.push { cls:=.type "tuple",data:=.seq ((items.toList.drop (sIx items.size 0 lo)).take (sIx items.size items.size hi - sIx items.size 0 lo)).toArray } })
  (hsz:items.size≤sizeLine):wpAny (model prog w) A (getItem (.ref t) (.ref sl)) Q E s:=by
 have htake:sizeOk (.seq ((items.toList.drop (sIx items.size 0 lo)).take (sIx items.size items.size hi - sIx items.size 0 lo)).toArray):=by
  show ((items.toList.drop (sIx items.size 0 lo)).take (sIx items.size items.size hi - sIx items.size 0 lo)).toArray.size≤sizeLine
  rw [List.size_toArray,List.length_take,List.length_drop,Array.length_toList]
  omega
 have hj:sIx items.size items.size hi≤items.size:=wV _ _ (Nat.le_refl _) hi
 obtain ⟨os,hos,hcs,hds⟩:=id hs
 have hTs:s.TypeIs (.ref sl) "slice":=⟨os,hos,hcs⟩
 unfold getItem
 try with_reducible refine wpAny_holding ?_
 first|refine wpAny_bind (wpAny_pure ?_)|skip
 refine wpAny_bind (wpAny_sequenceKey ht.typeIs (by decide) ?_)
 refine wpAny_bind (wpAny_callSpecial?_slot (name:=Str.ofString "__getitem__") ht.typeIs PyProof.Rows.slot_tuple_getitem
  (wpAny_call_entry PyProof.Rows.slot_tuple_getitem ht.typeIs entry_tuple_getitem ?_ (args_tuple_getitem _ _)))
 show wpAny _ _ (Builtin.Tuple.tupleItemsOf (.ref t) >>= _) _ _ s
 refine wpAny_bind (tupleItemsOf_ ht ?_)
 refine wpAny_bind (wpAny_typeOf hTs ?_)
 rw [if_pos (by decide)]
 refine wpAny_bind (cX hs pl pu ?_)
 have hno:¬ ((((sIx items.size 0 lo:Nat):Int)==0&&(1:Int)==1&&(sIx items.size items.size hi - sIx items.size 0 lo)==items.size)=true):=by
  intro q
  rw [Bool.and_eq_true,Bool.and_eq_true] at q
  have q1:((sIx items.size 0 lo:Nat):Int)=0:=eq_of_beq q.1.1
  have q2:sIx items.size items.size hi - sIx items.size 0 lo=items.size:=eq_of_beq q.2
  exact hw ⟨by omega,by omega⟩
 show wpAny _ _ (if (((sIx items.size 0 lo:Nat):Int)==0&&(1:Int)==1&&(sIx items.size items.size hi - sIx items.size 0 lo)==items.size)=true then _ else _) _ _ s
 rw [if_neg hno,rJ]
 first
  |exact wpAny_bind (m:=Builtin.Tuple.tupleExact _) (wpAny_newObj_type (wpAny_pure ⟨_,rfl,wpAny_pure h⟩) htake)
  |exact wpAny_bind (m:=Builtin.Tuple.tupleExact _) (wpAny_newObj_type (wpAny_bind (wpAny_pure (wpAny_pure ⟨_,rfl,wpAny_pure h⟩))) htake)
  |exact wpAny_bind (wpAny_bind (m:=Builtin.Tuple.tupleExact _) (wpAny_newObj_type (wpAny_pure (wpAny_pure ⟨_,rfl,wpAny_pure h⟩)) htake))
  |exact wpAny_bind (wpAny_bind (m:=Builtin.Tuple.tupleExact _) (wpAny_newObj_type (wpAny_pure ⟨_,rfl,wpAny_pure h⟩) htake))
end
end HT
namespace L2
open PySem PySem.Spec PyProof.Rows
noncomputable abbrev TO:=St→Hp→(Option Int→Hp→Prop)→Prop
noncomputable def PO (X:Cx) (e:Option Expr) (t:TO):Prop :=
 ∀ (pins:List (Addr×Obj)) (s:Shared) (σ:St) (H:Hp) (Q:Option Int→Hp→Prop),Inv X pins σ H s→t σ H Q →
  wpAny (model X.prog X.w) X.A (evalPart e X.env) (fun u s'=>∃ o H',Inv X pins σ H' s'∧IsPart u o∧Q o H') X.xe s
noncomputable def uq:TO:=fun _ H Q=>Q none H
noncomputable def yG (t:TE):TO:=fun σ H Q=>t σ H fun x H1=>∃ i,x=.int i∧Q (some i) H1
section
variable {X : Cx} {e : Expr} {te : TE} {lo hi : Option Expr} {tl th : TO} {pos p2 : Pos}
theorem ur:PO X none uq:=by
 intro pins s σ H Q I h
 rw [evalPart_none]
 exact wpAny_pure ⟨none,H,I,.none,h⟩
theorem uu (h:PE X e te):PO X (some e) (yG te):=by
 intro pins s σ H Q I hw
 rw [evalPart_some]
 refine thn (h pins s σ H _ I hw) fun u s1 ⟨x,H1,I1,r1,q1⟩=>?_
 obtain ⟨i,rfl,q⟩:=q1
 obtain ⟨t,rfl⟩:=r1
 exact ⟨some i,H1,I1,.int i t,q⟩
noncomputable def SlR (X:Cx) (r:V→Option Int→Option Int→Hp→VK→Prop):Prop :=
 ∀ (pins:List (Addr×Obj)) (s:Shared) (σ:St) (H:Hp) (x:V) (v vl vu:Value) (lo hi:Option Int) (sl:Addr) (Q:VK),Inv X pins σ H s→RelV x v→s.heap.IsSliceOf sl vl vu .none→IsPart vl lo→IsPart vu hi→r x lo hi H Q →
  ∃ T id,typeLookup (.type T) "__getitem__"=pure (some (.builtin id))∧s.TypeIs v T∧wpAny (model X.prog X.w) X.A (getItem v (.ref sl)) (EP X pins σ Q) X.xe s
theorem SlR.or {r r':V→Option Int→Option Int→Hp→VK→Prop} (h:SlR X r) (h':SlR X r'):SlR X (fun x lo hi H Q=>r x lo hi H Q∨r' x lo hi H Q):=by
 intro pins s σ H x v vl vu lo hi sl Q I rx hs pl pu q
 rcases q with q|q
 ·exact h pins s σ H x v vl vu lo hi sl Q I rx hs pl pu q
 ·exact h' pins s σ H x v vl vu lo hi sl Q I rx hs pl pu q
noncomputable def tSl (r:V→Option Int→Option Int→Hp→VK→Prop) (te:TE) (tl th:TO):TE:=fun σ H Q=>te σ H fun x H1=>tl σ H1 fun l H2=>th σ H2 fun u H3=>r x l u H3 Q
theorem rK {r:V→Option Int→Option Int→Hp→VK→Prop} (hr:SlR X r) (he:PE X e te) (hl:PO X lo tl) (hu:PO X hi th):PE X (.Subscript e (.Slice lo hi none p2) pos) (tSl r te tl th):=by
 intro pins s σ H Q I h
 refine Subscript_ (thn (he pins s σ H _ I h) fun v s1 ⟨x,H1,I1,r1,q1⟩=>?_)
 refine wpAny_Slice (thn (hl pins s1 σ H1 _ I1 q1) fun vl s2 ⟨l,H2,I2,pl,q2⟩=>thn (hu pins s2 σ H2 _ I2 q2) fun vu s3 ⟨u,H3,I3,pu,q3⟩=>?_)
 rw [evalPart_none]
 refine wpAny_pure ?_
 have I4:Inv X pins σ H3 { s3 with heap:=s3.heap.push { cls:=.type "slice",data:=.fields #[vl,vu,.none] } }:=I3.kept (t':=s3.toks) fun b ob q=>Heap.get?_push_of_some _ q
 obtain ⟨T,id,hT,ht,hg⟩:=hr pins { s3 with heap:=s3.heap.push { cls:=.type "slice",data:=.fields #[vl,vu,.none] } } σ H3 x v vl vu l u s3.heap.objs.size Q I4 r1 (Heap.IsSliceOf.new ..) pl pu q3
 show wpAny (model X.prog X.w) X.A (subscriptTail e (.Slice lo hi none p2) v (.ref s3.heap.objs.size)) (EP X pins σ Q) X.xe { s3 with heap:=s3.heap.push { cls:=.type "slice",data:=.fields #[vl,vu,.none] } }
 exact tail_any (ops:=[.ref s3.heap.objs.size,v]) ht hT hg (by with_unfolding_all rfl)
noncomputable def lW (xs:List V) (lo hi:Option Int):List V:=(xs.drop (HT.sIx xs.length 0 lo)).take (HT.sIx xs.length xs.length hi - HT.sIx xs.length 0 lo)
theorem gy (xs:List V) (lo hi:Option Int):(lW xs lo hi).length≤xs.length:=by
 unfold lW
 rw [List.length_take,List.length_drop]
 omega
noncomputable def yH (K:PySem.W.Frag):V→Option Int→Option Int→Hp→VK→Prop:=fun x lo hi H Q=>∃ a xs,x=.ref a∧SqT K H a xs ∧
 ¬ (HT.sIx xs.length 0 lo=0∧HT.sIx xs.length xs.length hi=xs.length)∧∀ p,H p=none→Q (.ref p) (upd H p (.tup (lW xs lo hi)))
theorem wW:SlR X (yH X.K):=by
 intro pins s σ H x v vl vu lo hi sl Q I rx hs pl pu h
 obtain ⟨a,xs,rfl,hx,hw,q⟩:=h
 cases rx
 obtain ⟨its,r,ht,hz⟩:=I.tuple hx
 have hlen:its.toArray.size=xs.length:=by rw [List.size_toArray];exact r.length.symm
 refine ⟨"tuple",_,PyProof.Rows.slot_tuple_getitem.lookup,ht.typeIs,?_⟩
 refine HT.fH ht hs pl pu (by rw [hlen];exact hw) ?_ (by rw [hlen];exact hz)
 rw [hlen]
 refine ⟨.ref s.heap.objs.size,_,I.laid (t':=s.toks) (o:=.tup (lW xs lo hi)) (fun b ob q=>Heap.get?_push_of_some _ q) (Nat.le_refl _) ?_,rfl,q _ (I.hok.fresh (Nat.le_refl _))⟩
 exact ⟨Nat.le_trans (gy xs lo hi) hz,_,(r.drop (HT.sIx xs.length 0 lo)).take (HT.sIx xs.length xs.length hi - HT.sIx xs.length 0 lo),IsTup.new _ _⟩
end
end L2
namespace L2
open PySem PySem.Spec PyProof.Rows
noncomputable def ixN (n:Nat) (i:Int):Option Nat:=if 0≤i then (if i<n then some i.toNat else none) else if -(n:Int)≤i then some (i+n).toNat else none
noncomputable def atI {α:Type} (xs:List α) (i:Int):Option α:=(ixN xs.length i).bind fun j=>xs[j]?
theorem pv {n:Nat}{i:Int}{j:Nat} (h:ixN n i=some j):seqIndex? i n=some j∧j<n∧-(n:Int)≤i∧i<n:=by
 unfold ixN at h
 by_cases h0:0≤i
 ·rw [if_pos h0] at h
  by_cases h1:i<n
  ·rw [if_pos h1] at h
   have e:i.toNat=j:=Option.some.inj h
   exact ⟨by rw [seqIndex_of h0 h1,e],by omega,by omega,h1⟩
  ·rw [if_neg h1] at h;cases h
 ·rw [if_neg h0] at h
  by_cases h1:-(n:Int)≤i
  ·rw [if_pos h1] at h
   have e:(i+n).toNat=j:=Option.some.inj h
   exact ⟨by rw [seqIndex_neg (by omega) h1,e],by omega,h1,by omega⟩
  ·rw [if_neg h1] at h;cases h
theorem ko {α:Type}{xs:List α}{i:Int}{v:α} (h:atI xs i=some v):∃ j,seqIndex? i xs.length=some j∧xs[j]?=some v∧j<xs.length∧-(xs.length:Int)≤i∧i<xs.length:=by
 unfold atI at h
 cases e:ixN xs.length i with
 |none=>rw [e] at h;cases h
 |some j =>
  rw [e] at h
  obtain ⟨h1,h2,h3,h4⟩:=pv e
  exact ⟨j,h1,h,h2,h3,h4⟩
theorem bZ {α:Type}{xs:List α}{j:Nat}{v:α} (h:xs[j]?=some v):atI xs (j:Int)=some v:=by
 have hj:j<xs.length:=(List.getElem?_eq_some_iff.mp h).1
 have e:ixN xs.length (j:Int)=some j:=by
  unfold ixN
  rw [if_pos (by omega),if_pos (by omega)];simp
 unfold atI;rw [e];exact h
noncomputable def kq (b:Expr):Prop:=∀ o i,subscripted b false o i=operate [o,i] (getItem o i)
noncomputable def IxR (X:Cx) (r:R2):Prop :=
 ∀ (value slice:Expr) (pins:List (Addr×Obj)) (s:Shared) (σ:St) (H:Hp) (x y:V) (v u:Value) (Q:VK),Inv X pins σ H s→RelV x v→RelV y u→r x y H Q →
  subscripted slice false v u=operate [v,u] (getItem v u)→wpAny (model X.prog X.w) X.A (subscriptTail value slice v u) (EP X pins σ Q) X.xe s
noncomputable def MtR (X:Cx) (id:String) (r:V→List V→Hp→VK→Prop):Prop :=
 ∀ (pins:List (Addr×Obj)) (s:Shared) (σ:St) (H:Hp) (x:V) (xs:List V) (v:Value) (us:List Value) (Q:VK),Inv X pins σ H s→RelV x v→Vals xs us→r x xs H Q →
  wpAny (model X.prog X.w) X.A (call (.builtin id) (v::us)) (EP X pins σ Q) X.xe s
section
variable {X : Cx} {a b : Expr} {ta tb : TE} {pos : Pos}
noncomputable def As (K:PySem.W.Frag):R2:=fun x y H Q=>∃ p xs i v,x=.ref p∧y=.int i∧SqL K H p xs∧atI xs i=some v∧Q v H
noncomputable def Au (K:PySem.W.Frag):R2:=fun x y H Q=>∃ p xs i v,x=.ref p∧y=.int i∧SqT K H p xs∧atI xs i=some v∧Q v H
noncomputable def Av:R2:=fun x y H Q=>∃ z i c,x=.str z∧y=.int i∧z.length≤sizeLine∧atI z.cps.toList i=some c∧Q (.str ⟨#[c]⟩) H
theorem uw:IxR X (As X.K):=by
 intro value slice pins s σ H x y v u Q I rx ry h hs
 obtain ⟨p,xs,i,z,rfl,rfl,hq,he,q⟩:=h
 cases rx
 obtain ⟨t,rfl⟩:=ry
 obtain ⟨its,r,pl,hz⟩:=I.list hq
 obtain ⟨j,h1,h2,h3,h4,h5⟩:=ko he
 obtain ⟨w,ew,rw'⟩:=r.get h2
 have hl:=r.length
 have hn:=fc
 have fin:EP X pins σ Q w s:=⟨z,H,I,rw',q⟩
 by_cases h0:0≤i
 ·have hj:i.toNat=j:=by
   rw [seqIndex_of h0 h5] at h1
   exact Option.some.inj h1
  exact item_listR pl.isList h0 (by omega) (by rw [hj];simpa using ew) fin hs
 ·have hj:(i+(its.toArray.size:Int)).toNat=j:=by
   rw [seqIndex_neg (by omega) h4] at h1
   rw [List.size_toArray,←hl]
   exact Option.some.inj h1
  exact subscriptTail_builtinR (x:=w) pl.isList.typeIs slot_list_getitem.lookup
   (wpAny_getItem_list_neg (Q:=fun r s'=>r=w∧EP X pins σ Q r s') pl.isList (by omega) (by rw [List.size_toArray] <;> omega) (by omega) (by rw [hj];simpa using ew) ⟨rfl,fin⟩) hs
theorem wX:IxR X (Au X.K):=by
 intro value slice pins s σ H x y v u Q I rx ry h hs
 obtain ⟨p,xs,i,z,rfl,rfl,hq,he,q⟩:=h
 cases rx
 obtain ⟨t,rfl⟩:=ry
 obtain ⟨its,r,pl,hz⟩:=I.tuple hq
 obtain ⟨j,h1,h2,h3,h4,h5⟩:=ko he
 obtain ⟨w,ew,rw'⟩:=r.get h2
 have hl:=r.length
 have hn:=fc
 have fin:EP X pins σ Q w s:=⟨z,H,I,rw',q⟩
 exact subscriptTail_builtinR (x:=w) pl.typeIs slot_tuple_getitem.lookup
  (getItem_tuple (j:=j) (Q:=fun r s'=>r=w∧EP X pins σ Q r s') pl (by omega) (by omega) (by rw [List.size_toArray,←hl];exact h1) (by simpa using ew) ⟨rfl,fin⟩) hs
theorem ib:IxR X Av:=by
 intro value slice pins s σ H x y v u Q I rx ry h hs
 obtain ⟨z,i,c,rfl,rfl,hz,he,q⟩:=h
 obtain ⟨t,rfl⟩:=rx
 obtain ⟨t',rfl⟩:=ry
 obtain ⟨j,h1,h2,h3,h4,h5⟩:=ko he
 have hl:z.cps.toList.length=z.length:=by simp [Str.length]
 rw [hl] at h1 h4 h5
 have hn:=fc
 exact tail_any (typeIs_str s z t) slot_str_getitem.lookup (getItem_str (c:=c) (by
  have e1:decide (i < -(2 ^ 63:Int))=false:=decide_eq_false (by omega)
  have e2:decide (i ≥ 2 ^ 63)=false:=decide_eq_false (by omega)
  rw [e1,e2,Bool.or_false]) (by rw [h1];simpa using h2) ⟨.str ⟨#[c]⟩,H,I.tok _,⟨_,rfl⟩,q⟩) hs
theorem nN (its:List Value) (n j:Nat) (u:Value):Obj.mapSeq (·.setIfInBounds j u) { cls:=.type "list",data:=.seq its.toArray n }={ cls:=.type "list",data:=.seq (its.set j u).toArray n }:=by
 simp [Obj.mapSeq]
theorem Inv.lst {pins:List (Addr×Obj)}{σ:St}{H:Hp}{s:Shared}{p:Addr}{xs:List V} (I:Inv X pins σ H s) (h:H p=some (.lst xs)) :
  ∃ (its:List Value) (n:Nat),Vals xs its∧s.heap.get? p=some { cls:=.type "list",data:=.seq its.toArray n }∧xs.length≤sizeLine:=by
 obtain ⟨z,its,n,r,e⟩:=I.hok p _ h
 exact ⟨its,n,r,e,z⟩
theorem Inv.wY {pins:List (Addr×Obj)}{σ:St}{H:Hp}{s:Shared}{p:Addr}{xs ys:List V}{its its':List Value}{n n':Nat}{f:Obj→Obj} (I:Inv X pins σ H s) (h:H p=some (.lst xs))
  (ho:s.heap.get? p=some { cls:=.type "list",data:=.seq its.toArray n }) (hf:f { cls:=.type "list",data:=.seq its.toArray n }={ cls:=.type "list",data:=.seq its'.toArray n' }) (r:Vals ys its') (hz:ys.length≤sizeLine) (t:Nat) :
  Inv X pins σ (upd H p (.lst ys)) { s with heap:=s.heap.update p f,toks:=t }:=by
 have e:(s.heap.update p f).get? p=some { cls:=.type "list",data:=.seq its'.toArray n' }:=by
  rw [Heap.get?_update_self f ho (by rw [hf] <;> rfl),hf]
 refine I.write (x:=p) (e:=p) (by rw [h];trivial) (.inl rfl) (fun b u hb q=>(Heap.get?_update_other _ _ (Ne.symm hb)).trans q) ⟨_,e⟩ ?_
 exact ⟨hz,its',n',r,e⟩
noncomputable def yI:V→V→V→Hp→(Hp→Prop)→Prop:=fun o i v H Q=>∃ p xs k j,o=.ref p∧i=.int k∧H p=some (.lst xs)∧ixN xs.length k=some j∧Q (upd H p (.lst (xs.set j v)))
theorem set_list:jk X yI:=by
 intro pins s σ H o i v ov iv u Q I ro ri rv h
 obtain ⟨p,xs,k,j,rfl,rfl,hp,hj,q⟩:=h
 cases ro
 obtain ⟨t,rfl⟩:=ri
 obtain ⟨its,n,r,ho,hz⟩:=I.lst hp
 obtain ⟨h1,h2,h3,h4⟩:=pv hj
 have hl:=r.length
 have hn:=fc
 have I':Inv X pins σ (upd H p (.lst (xs.set j v))) { s with heap:=s.heap.update p (Obj.mapSeq (·.setIfInBounds j u)) } :=
  I.wY hp ho (nN its n j u) (r.set rv j) (by rw [List.length_set];exact hz) s.toks
 by_cases h0:0≤k
 ·have hk:k.toNat=j:=by
   rw [seqIndex_of h0 h4] at h1
   exact Option.some.inj h1
  exact PySem.W.ki_setAt ho h0 (by omega) (by rw [List.size_toArray,←hl];exact h4) (by rw [hk];exact ⟨_,I',q⟩)
 ·have hk:(k+(its.toArray.size:Int)).toNat=j:=by
   rw [seqIndex_neg (by omega) h3] at h1
   rw [List.size_toArray,←hl]
   exact Option.some.inj h1
  exact PySem.W.ki_setBack ho (by omega) (by rw [List.size_toArray,←hl];exact h3) (by omega) (by rw [hk];exact ⟨_,I',q⟩)
theorem kr (lo hi:Option Int) (n:Nat):(sliceBounds lo hi none n).1=((HT.sIx n 0 lo:Nat):Int)∧(sliceBounds lo hi none n).2.1=((HT.sIx n n hi:Nat):Int)∧(sliceBounds lo hi none n).2.2=1:=by
 refine ⟨?_,?_,rfl⟩
 ·cases lo with
  |none=>simp [sliceBounds,HT.sIx]
  |some i =>
   simp only [sliceBounds,HT.sIx,Option.getD_none,show (1:Int) > 0 by decide,if_true]
   by_cases h:i<0
   ·simp only [h,if_true] <;> omega
   ·simp only [h,if_false] <;> omega
 ·cases hi with
  |none=>simp [sliceBounds,HT.sIx]
  |some i =>
   simp only [sliceBounds,HT.sIx,Option.getD_none,show (1:Int) > 0 by decide,if_true]
   by_cases h:i<0
   ·simp only [h,if_true] <;> omega
   ·simp only [h,if_false] <;> omega
theorem jl (its:List Value) (lo hi:Option Int):slicePick its.toArray lo hi none=((its.drop (HT.sIx its.length 0 lo)).take (HT.sIx its.length its.length hi - HT.sIx its.length 0 lo)).toArray:=by
 obtain ⟨h1,h2,h3⟩:=kr lo hi its.toArray.size
 unfold slicePick
 rw [h1,h2,h3]
 simp only [sliceRange_one,pick_run,List.size_toArray] <;> rfl
noncomputable def yJ (K:PySem.W.Frag):V→Option Int→Option Int→Hp→VK→Prop:=fun x lo hi H Q=>∃ a xs,x=.ref a∧SqL K H a xs∧∀ p,H p=none→Q (.ref p) (upd H p (.lst (lW xs lo hi)))
theorem uz:SlR X (yJ X.K):=by
 intro pins s σ H x v vl vu lo hi sl Q I rx hs pl pu h
 obtain ⟨a,xs,rfl,hx,q⟩:=h
 cases rx
 obtain ⟨its,r,ht,hz⟩:=I.list hx
 have hlen:=r.length
 refine ⟨"list",_,slot_list_getitem.lookup,ht.isList.typeIs,?_⟩
 refine wpAny_getItem_list_slice ht.isList hs pl pu .none (by simp) ?_ (by rw [List.size_toArray] <;> omega)
 rw [jl,←hlen]
 refine ⟨.ref s.heap.objs.size,_,I.laid (t':=s.toks) (o:=.lst (lW xs lo hi)) (fun b ob q=>Heap.get?_push_of_some _ q) (Nat.le_refl _) ?_,rfl,q _ (I.hok.fresh (Nat.le_refl _))⟩
 exact ⟨Nat.le_trans (gy xs lo hi) hz,_,0,(r.drop (HT.sIx xs.length 0 lo)).take (HT.sIx xs.length xs.length hi - HT.sIx xs.length 0 lo),Heap.get?_push_size _ rfl⟩
theorem fI:gx X (.builtin "len") (fun xs H Q=>∃ p ys,xs=[.ref p]∧(SqL X.K H p ys∨SqT X.K H p ys)∧Q (.int ys.length) H):=by
 intro pins s σ H xs us Q I r h
 obtain ⟨p,ys,rfl,hq,q⟩:=h
 obtain ⟨u,rfl,rx⟩:=vals1 r
 cases rx
 have hn:=fc
 rcases hq with hq|hq
 ·obtain ⟨its,r',pl,hz⟩:=I.list hq
  have hlen:=r'.length
  exact Calls.call_len_list pl.isList (by simp only [List.size_toArray] <;> omega) ⟨.int ys.length,H,I.tok _,⟨s.toks+1,by rw [List.size_toArray,hlen]⟩,q⟩
 ·obtain ⟨its,r',pl,hz⟩:=I.tuple hq
  have hlen:=r'.length
  exact len_tuple pl (by simp only [List.size_toArray] <;> omega) ⟨.int ys.length,H,I.tok _,⟨s.toks+1,by rw [List.size_toArray,hlen]⟩,q⟩
theorem ku:gx X (.builtin "len") (fun xs H Q=>∃ z,xs=[.str z]∧z.length≤sizeLine∧Q (.int z.length) H):=by
 intro pins s σ H xs us Q I r h
 obtain ⟨z,rfl,hz,q⟩:=h
 obtain ⟨u,rfl,t,rfl⟩:=vals1 r
 have hn:=fc
 exact len_str (by omega) ⟨.int z.length,H,I.tok _,⟨_,rfl⟩,q⟩
theorem fJ:gx X (.type "list") (fun xs H Q=>∃ p ys,xs=[.ref p]∧(SqL X.K H p ys∨SqT X.K H p ys)∧∀ l,H l=none→Q (.ref l) (upd H l (.lst ys))):=by
 intro pins s σ H xs us Q I r h
 obtain ⟨p,ys,rfl,hq,q⟩:=h
 obtain ⟨u,rfl,rx⟩:=vals1 r
 cases rx
 have fin:∀ (its:List Value),Vals ys its→ys.length≤sizeLine→∀ (h':Heap) (c':Nat),(∀ b o',s.heap.get? b=some o'→h'.get? b=some o') →
   h'.get? s.heap.objs.size=some { cls:=.type "list",dict:=none,data:=.seq its.toArray c',slots:=#[] }→EP X pins σ Q (.ref s.heap.objs.size) { s with heap:=h' }:=fun its r' hz h' c' kp e =>
  ⟨.ref s.heap.objs.size,_,I.laid (t':=s.toks) kp (Nat.le_refl _) (show bJ X.prog X.w _ h' _ (.lst ys) from ⟨hz,its,c',r',e⟩),rfl,q _ (I.hok.fresh (Nat.le_refl _))⟩
 rcases hq with hq|hq
 ·obtain ⟨its,r',pl,hz⟩:=I.list hq
  have hlen:=r'.length
  obtain ⟨o,ho,hc,n,hd⟩:=pl.isList
  exact call_list_seq p (.inl rfl) ho hc hd (fun h' c' kp e=>fin its r' hz h' c' kp e) (by simp only [List.size_toArray] <;> omega)
 ·obtain ⟨its,r',pl,hz⟩:=I.tuple hq
  have hlen:=r'.length
  obtain ⟨o,ho,hc,n,hd⟩:=pl
  exact call_list_seq p (.inr rfl) ho hc hd (fun h' c' kp e=>fin its r' hz h' c' kp e) (by simp only [List.size_toArray] <;> omega)
theorem eV:gx X (.type "tuple") (fun xs H Q=>∃ p ys,xs=[.ref p]∧((SqL X.K H p ys∧∀ l,H l=none→Q (.ref l) (upd H l (.tup ys)))∨(SqT X.K H p ys∧Q (.ref p) H))):=by
 intro pins s σ H xs us Q I r h
 obtain ⟨p,ys,rfl,h⟩:=h
 obtain ⟨u,rfl,rx⟩:=vals1 r
 cases rx
 rcases h with ⟨hq,q⟩|⟨hq,q⟩
 ·obtain ⟨its,r',pl,hz⟩:=I.list hq
  have hlen:=r'.length
  refine call_tuple_list pl.isList (fun h' kp=>?_) (by simp only [List.size_toArray] <;> omega)
  have I1:Inv X pins σ H { s with heap:=h' }:=I.kept (t':=s.toks) kp
  have I2:Inv X pins σ (upd H h'.objs.size (.tup ys)) { s with heap:=h'.push { cls:=.type "tuple",data:=.seq its.toArray } } :=
   I1.laid (t':=s.toks) (fun b o e=>Heap.get?_push_of_some _ e) (Nat.le_refl _) (show bJ X.prog X.w _ _ _ (.tup ys) from ⟨hz,its,r',IsTup.new _ _⟩)
  exact ⟨.ref h'.objs.size,_,I2,rfl,q _ (I1.hok.fresh (Nat.le_refl _))⟩
 ·obtain ⟨its,r',pl,hz⟩:=I.tuple hq
  exact call_tuple_same pl ⟨.ref p,H,I,rfl,q⟩
noncomputable def tyV (K:PySem.W.Frag) (T:String) (x:V) (H:Hp):Prop:=match x with
 |.str _=>T="str"
 |.int _=>T="int"
 |.ref p=>(T="list"∧∃ xs,SqL K H p xs)∨(T="tuple"∧∃ o,K.lookup p=some o∧o.cls=.type "tuple"∧o.dict=none) ∨
   (T="dict"∧((∃ kvs,H p=some (.dK kvs))∨∃ kvs,H p=some (.dT kvs)))∨(T="set"∧∃ S n,H p=some (.set S n))
 |_=>False
theorem nO {pins:List (Addr×Obj)}{σ:St}{H:Hp}{s:Shared}{T:String}{x:V}{v:Value} (I:Inv X pins σ H s) (r:RelV x v) (ty:tyV X.K T x H) :
  s.TypeIs v T∧∀ a,v=.ref a→∃ ob,s.heap.get? a=some ob∧ob.dict=none:=by
 cases x with
 |str z =>
  obtain ⟨t,rfl⟩:=r
  cases (show T="str" from ty)
  exact ⟨typeIs_str s z t,fun _ e=>nomatch e⟩
 |int i =>
  obtain ⟨t,rfl⟩:=r
  cases (show T="int" from ty)
  exact ⟨typeIs_int s i t,fun _ e=>nomatch e⟩
 |ref p =>
  cases r
  rcases ty with ⟨rfl,xs,hq⟩|⟨rfl,o,hk,hc,hd⟩|⟨rfl,hk⟩|⟨rfl,S,n,hk⟩
  ·obtain ⟨its,_,pl,_⟩:=I.list hq
   refine ⟨pl.isList.typeIs,fun a e=>?_⟩
   cases e
   obtain ⟨o,n,e,c,hd,_⟩:=pl
   exact ⟨o,e,hd⟩
  ·refine ⟨⟨o,I.kIn p o hk,hc⟩,fun a e=>?_⟩
   cases e
   exact ⟨o,I.kIn _ o hk,hd⟩
  ·have z:∃ o,s.heap.get? p=some o∧o.ExactDict:=by
    rcases hk with ⟨kvs,hk⟩|⟨kvs,hk⟩
    ·obtain ⟨_,_,_,_,o,_,_,e,ex,_⟩:=I.hok p _ hk
     exact ⟨o,e,ex⟩
    ·obtain ⟨_,_,_,_,o,_,_,e,ex,_⟩:=I.hok p _ hk
     exact ⟨o,e,ex⟩
   obtain ⟨o,e,ex⟩:=z
   refine ⟨⟨o,e,ex.1⟩,fun a e2=>?_⟩
   cases e2
   exact ⟨o,e,ex.2.1⟩
  ·obtain ⟨o,_,_,_,e,ex,_⟩:=I.hok p _ hk
   refine ⟨⟨o,e,ex.1⟩,fun a e2=>?_⟩
   cases e2
   exact ⟨o,e,ex.2.1⟩
 |_=>exact False.elim ty
noncomputable def tBM (K:PySem.W.Frag) (T:String) (r:V→List V→Hp→VK→Prop) (to:TE) (t:TA):TE:=fun σ H Q=>to σ H fun x H1=>tyV K T x H1∧t σ H1 fun xs H2=>r x xs H2 Q
variable {o e : Expr} {es : List Expr} {to : TE} {t : TA} {name : Str} {apos cpos : Pos} {T id : String} {r : V → List V → Hp → VK → Prop}
theorem vW (pa:PlainAttrs T) (slot:Slot T name id) (hty:typeOf (.builtin id)=pure (.type "method_descriptor")) (hm:MtR X id r) (ho:PE X o to) (ha:PA X (e::es) t)
  (hbase:attributeBase o name X.env (eval o X.env)=eval o X.env:=by rfl)
  (hfew:((backTo cpos (starEach (e::es) X.env)).all (fun x=>!x.1)&&(backToKw cpos (keywordEach [] X.env)).all (fun x=>x.1.isSome)
   && decide ((e::es).length+([]:List Keyword).length+(if ([]:List Keyword).isEmpty then 0 else 1)<30))=true:=by rfl)
  (hline:(apos.endLine==cpos.line)=true:=by rfl) (hs:starEach (e::es) X.env=(false,eval e X.env)::starEach es X.env:=by rfl) (hplain:(backTo cpos (starEach es X.env)).any (·.1)=false:=by rfl) :
  PE X (.Call (.Attribute o name apos) (e::es) [] cpos) (tBM X.K T r to t):=by
 intro pins s σ H Q I h
 refine wpAny_Call_method_late hbase hfew hline rfl (thn (ho pins s σ H _ I h) fun v s1 ⟨x,H1,I1,r1,ty,q1⟩=>?_)
 obtain ⟨h1,h2⟩:=nO I1 r1 ty
 refine ⟨T,id,pa,slot,hty,h1,h2,?_⟩
 have hA:=ha cpos pins s1 σ H1 _ I1 q1
 rw [hs] at hA ⊢
 refine Calls.callWith_builtin (by show (false||(backTo cpos (starEach es X.env)).any (·.1))=false;rw [hplain] <;> rfl) (Calls.evalArgs_plain ?_)
 exact thn hA fun us s2 ⟨vs,H2,I2,r2,q2⟩=>hm pins s2 σ H2 x vs v us Q I2 r1 r2 q2
end
end L2
namespace L2
open PySem PySem.Spec PyProof.Rows
noncomputable def MtM (X:Cx) (id:String) (r:V→List V→Hp→VK→Prop):Prop :=
 ∀ (pins:List (Addr×Obj)) (s:Shared) (σ:St) (H:Hp) (x:V) (xs:List V) (v:Value) (us:List Value) (Q:VK),Inv X pins σ H s→RelV x v→Vals xs us→r x xs H Q →
  wpAny (model X.prog X.w) X.A (call (.builtin id) (v::us)) (EP X pins σ Q) X.xe s
theorem Vals.one:∀ {x:V}{us:List Value},Vals [x] us→∃ u,us=[u]∧RelV x u
 |_,_,.cons r .nil=>⟨_,rfl,r⟩
theorem Vals.reverse {xs:List V}{us:List Value} (h:Vals xs us):Vals xs.reverse us.reverse:=by
 induction h with
 |nil=>exact .nil
 |cons r t ih=>rw [List.reverse_cons,List.reverse_cons];exact Vals.append ih (.cons r .nil)
section
variable {X : Cx} {pins : List (Addr × Obj)} {σ : St} {H : Hp} {s : Shared} {l b : Addr} {xs ys zs : List V}
theorem Inv.kz {its its':List Value}{n:Nat}{f:Array Value→Array Value}{t':Nat} (I:Inv X pins σ H s) (hH:H l=some (.lst xs))
  (e:s.heap.get? l=some { cls:=.type "list",data:=.seq its.toArray n }) (hf:f its.toArray=its'.toArray) (hv:Vals ys its') (hz:ys.length≤sizeLine) :
  Inv X pins σ (upd H l (.lst ys)) { s with heap:=s.heap.update l (Obj.mapSeq f),toks:=t' }:=by
 have q:=PySem.IsL.update e f
 rw [hf] at q
 refine I.write (x:=l) (e:=l) (by rw [hH];exact trivial) (.inl rfl) (fun b' u hb hu=>(Heap.get?_update_other s.heap (Obj.mapSeq f) (Ne.symm hb)).trans hu) ⟨_,q⟩ ?_
 exact ⟨hz,its',_,hv,q⟩
theorem Inv.Aw {its:List Value}{t':Nat} (I:Inv X pins σ H s) (hv:Vals ys its) (hz:ys.length≤sizeLine) :
  Inv X pins σ (upd H s.heap.objs.size (.lst ys)) { s with heap:=s.heap.push { cls:=.type "list",data:=.seq its.toArray },toks:=t' } :=
 I.laid (fun _ _ q=>Heap.get?_push_of_some _ q) (Nat.le_refl _) ⟨hz,its,0,hv,Heap.get?_push_size _ rfl⟩
theorem Inv.fresh (I:Inv X pins σ H s):H s.heap.objs.size=none:=I.hok.fresh (Nat.le_refl _)
theorem Inv.yK (I:Inv X pins σ H s) (hH:H l=some (.lst xs)):xs.length≤sizeLine∧∃ (its:List Value) (n:Nat),Vals xs its∧xs.length=its.length∧s.heap.get? l=some { cls:=.type "list",data:=.seq its.toArray n }:=by
 obtain ⟨z,its,n,r,e⟩:=I.hok l _ hH
 exact ⟨z,its,n,r,r.length,e⟩
theorem rL {n:Nat} (h:n≤sizeLine):Builtin.List.listTooLong n=false:=by
 unfold Builtin.List.listTooLong
 exact decide_eq_false (by omega)
end
section
variable {X : Cx}
noncomputable def uA:V→List V→Hp→VK→Prop:=fun x vs H Q=>∃ l xs y,x=.ref l∧vs=[y]∧H l=some (.lst xs)∧xs.length<sizeLine∧Q .non (upd H l (.lst (xs++[y])))
theorem qB:MtM X "list.append" uA:=by
 intro pins s σ H x vs v us Q I rx rv h
 obtain ⟨l,xs,y,rfl,rfl,hH,hz,q⟩:=h
 cases rx
 obtain ⟨u,rfl,ru⟩:=rv.one
 obtain ⟨z,its,n,r,hl,e⟩:=I.yK hH
 refine call_meets F.slot_list_append ⟨_,e,rfl⟩ F.entry_list_append (F.args_list_append_2 _ _) (PySem.list_append l its.toArray n u (by rw [List.size_toArray];omega)) ⟨e,?_⟩
 refine ⟨.non,_,I.kz (its':=its++[u]) hH e (by simp) (r.append (.cons ru .nil)) ?_,rfl,q⟩
 rw [List.length_append,List.length_singleton]
 omega
end
section
variable {prog : Program} {w : World} {A : Around} {E : Value → Shared → Prop} {s : Shared}
set_option maxRecDepth 100000 in
end
section
variable {X : Cx}
end
end L2
namespace Att
open PySem PySem.W PySem.Calls PyProof.Rows
theorem gM {P:Params}{h:Heap}:∀ (ns:List Int) (vs:List Value),WellAll P h vs (ns.map WData.int)→IntsAre vs ns:=by
 intro ns
 induction ns with
 |nil =>
  intro vs w
  rw [List.map_nil] at w
  cases w
  exact .nil
 |cons n ns ih =>
  intro vs w
  rw [List.map_cons] at w
  cases w with
  |cons a b =>
   cases a
   exact .cons _ _ (ih _ b)
theorem qC {l:OpenLaw}{n:Nat} (hn:l.most=some n) {P:Params}{h:Heap}{args:List WData}{vals:List Value}
  (hpre:l.row.toRowW.claim.pre args=true) (hwl:WellAll P h vals args) :
  ∃ a vs ns,vals=[Value.ref a]∧args=[WData.list (ns.map WData.int)]∧h.get? a=some { cls:=.type "list",data:=.seq vs.toArray }∧IntsAre vs ns∧ns.length≤n:=by
 have hsh:WShape.hasAll [] args [.list .int]=true:=(pre_splitW hpre).1
 have hc:l.pre.holds [] { args:=args }=true:=(pre_splitW hpre).2
 obtain ⟨d,r,rfl,h1,h2⟩:=hasAllW_cons hsh
 obtain rfl:=hasAllW_nil h2
 obtain ⟨xs,rfl,h3⟩:=hasW_list h1
 obtain ⟨ns,rfl⟩:=items_int h3
 have hlen:ns.length≤n:=by
  unfold OpenLaw.pre at hc
  have h4:(WTm.not (.lt (.lit (.int (n:Int))) (.len (.arg 0)))).holds [] { args:=[.list (ns.map .int)] }=true:=by
   have h4:=(holds_andW hc).1
   rw [hn] at h4
   exact h4
  have h5:=condW_of h4 (w_not (w_lt w_lit (w_len_list (w_arg rfl))))
  rw [List.length_map] at h5
  refine Nat.le_of_not_lt fun q=>?_
  have q':(n:Int)<((ns.length:Nat):Int):=by omega
  first
   |(rw [decide_eq_true q'] at h5;exact absurd h5 (by decide))
   |(simp at h5;omega)
 cases hwl with
 |cons w1 w2 =>
  cases w2
  cases w1 with
  |list ho hall=>exact ⟨_,_,ns,rfl,rfl,ho,gM ns _ hall,hlen⟩
theorem qD (l:OpenLaw) (args:List WData):l.row.toRowW.claim.post args (.bool true) args=true :=
 postW_of (r:=l.row.toRowW) (X:=(true==true))
  (show WShape.has [] (.bool true) .bool=true by first|rfl|decide|simp [WShape.has,WShape.arms,WShape.armsAll])
  (show (WTm.eq .res (.lit (.bool true))).value [] { args:=args,res:=some (.bool true),after:=args }=some (.bool (true==true)) from w_eq_bool (w_res rfl) w_lit) rfl
theorem lX {l:OpenLaw}{n:Nat}{q:Program}{loose:List Str}{XP:(Str→Option Value)→Heap→Prop}{YP:World→Heap→Prop}{d:DefRec}
  (hn:l.most=some n) (hdf:d.params.defaults=[])
  (call:∀ (w:World) (s₀ s₁:Shared) (mg mb:Str→Option Value) (fa:Addr) (o:Obj) (pm cd doc:Value) (a:Addr) (vs:List Value) (ns:List Int),
   Ground q loose [] XP w s₀ mg mb s₁.heap→YP w s₁.heap →
   s₁.heap.get? fa=some o→o.data=.func (docDef d.name d.params d.body d.scope pm cd doc)→s₁.heap.CodeRec cd d.name→mg d.name=some (.ref fa) →
   s₁.heap.get? a=some { cls:=.type "list",data:=.seq vs.toArray }→IntsAre vs ns→ns.length≤n→s₁.gens=#[] →
   codeAny (model l.prog w) callerA (.call (.ref fa) ⟨[.ref a],[]⟩) (fun r s'=>r=.ok (.ret (.bool true))∧OldK s₁.heap s'.heap∧s'.os=s₁.os∧AllBare s'.gens) s₁) :
  WalkO q loose XP YP l.row.toRowW d [] (fun f vs=>PySem.call f vs):=by
 intro w s₀ s₁ mg mb G Y fa o pm cd doc dV kV ho hd hcd hD hmg hg args vals as hpre hlay hrd hwl hlo
 obtain rfl:dV=.none:=Dflts.none hD hdf
 obtain rfl:kV=.none:=Dflts.noKw hD
 obtain ⟨a,vs,ns,rfl,rfl,hobj,hints,hlen⟩:=qC hn hpre hwl
 refine enter_call (codeAny_mono (call w s₀ s₁ mg mb fa o pm cd doc a vs ns G Y ho (fd_plain hd) hcd hmg hobj hints hlen hg) fun r s' hq=>?_)
 obtain ⟨rfl,h2,h3,h4⟩:=hq
 exact ⟨.inl ⟨.bool true,.bool true,[],rfl,fun _=>rfl,.bool true,qD l _,fun _=>⟨List.Pairwise.nil,fun _ hm=>(nomatch hm)⟩⟩,h2,h3,h4⟩
section
variable {prog : Program} {w : World} {A : Around} {E : Value → Shared → Prop} {s : Shared} {K : Frag}
end
end Att
namespace L2
open PySem PySem.Spec PyProof.Rows
theorem jL:∀ {vs:List Value}{ns:List Int},IntsAre vs ns→Vals (ns.map V.int) vs
 |_,_,.nil=>.nil
 |_,_,.cons n t h=>.cons ⟨t,rfl⟩ (jL h)
noncomputable def wZ (H:Hp):Prop:=∀ b,H b=none∨∃ o xs,H b=some (.frz o (.lst xs))
theorem rM {P:Program}{w:World}{K:PySem.W.Frag}{mg mb:Str→Option Value}{CX:CXT}{k:Nat}{fa a:Addr}{fd:FuncData}{x:Str}{sp:Sp}{s₁:Shared}{vs:List Value}{ns:List Int}
  (KX:K.In s₁.heap) (hns:s₁.heap.Ns mainGlobals mg) (hb:s₁.heap.Ns builtinsNs mb) (hbb:∀ x:Str,x≠"__name__"→mb x=bootBuiltins x) (hlim:s₁.heap.NoLimit) (hg:s₁.gens=#[])
  (ha:s₁.heap.get? a=some { cls:=.type "list",data:=.seq vs.toArray }) (hi:IntsAre vs ns) (hl:ns.length≤sizeLine) (hr:fF k callerA)
  (F:∀ base:Heap,K.In base→base.Ns mainGlobals mg→lU P w K mg base CX k fa fd [x] sp) (hbind:∀ (s:Shared) (u:Value),BindsTo s fd ⟨[u],[]⟩ [(x,u)])
  (hsp:∀ H:Hp,wZ H→SqL K H a (ns.map V.int)→sp [.ref a] H (fun v _=>v=.bl true) fun _ _ _=>False)
  (hCX:∀ H e s',CX [] H s₁ (fun _ _ _=>False) e s'→False) :
  codeAny (model P w) callerA (.call (.ref fa) ⟨[.ref a],[]⟩) (fun r s'=>r=.ok (.ret (.bool true))∧OldK s₁.heap s'.heap∧s'.os=s₁.os∧AllBare s'.gens) s₁:=by
 have rv:=jL hi
 have lenV:=hi.length
 have core:∀ H:Hp,wZ H→SqL K H a (ns.map V.int)→HOk P w H s₁.heap→(∀ b,H b≠none→b=a)→(H a≠none→K.lookup a=none) →
   codeAny (model P w) callerA (.call (.ref fa) ⟨[.ref a],[]⟩) (fun r s'=>r=.ok (.ret (.bool true))∧OldK s₁.heap s'.heap∧s'.os=s₁.os∧AllBare s'.gens) s₁:=by
  intro H hO hS hok hA hK
  have gW:∀ {b:Addr} {o:Obj},s₁.heap.get? b=some o→H b=none→(kh s₁.heap H).get? b=some o:=fun e n=>rp e n
  have noA:∀ {b:Addr} {o:Obj} {es:Array DictEntry} {ep:Nat},s₁.heap.get? b=some o→o.data=.dict es ep→H b=none:=fun {b o es ep} e d=>by
   cases q:H b with
   |none=>rfl
   |some u =>
    have e':b=a:=hA b (by rw [q];simp)
    subst e'
    rw [ha] at e;cases e
    have d':Data.seq vs.toArray _=Data.dict es ep:=d
    cases d'
  have nsK:∀ {b:Addr} {m:Str→Option Value},s₁.heap.Ns b m→(kh s₁.heap H).Ns b m:=fun {b m} ⟨o,es,ep,e,d,r⟩=>⟨o,es,ep,gW e (noA e d),d,r⟩
  have hKb:K.In (kh s₁.heap H):=fun b o e=>gW (KX b o e) (by
   cases q:H b with
   |none=>rfl
   |some u =>
    have e':b=a:=hA b (by rw [q];simp)
    subst e'
    rw [hK (by rw [q];simp)] at e;cases e)
  have hM:Mod K mg (kh s₁.heap H):=⟨hKb,nsK hns,⟨mb,nsK hb,hbb⟩,let ⟨mc,h1,h2⟩:=hlim;⟨mc,nsK h1,h2⟩⟩
  have e0:uo P w K mg (kh s₁.heap H) callerA [] s₁ H:=⟨rfl,hM,fun b o e=>ua e,Nat.le_of_eq (qv _ _),trivial,fun b hb=>absurd (show b∈([]:List Addr) from hb) (by simp),hok,.of_eq hg⟩
  refine codeAny_mono ((F _ hKb (nsK hns)).run callerA [] s₁ H ⟨[.ref a],[]⟩ [.ref a] [.ref a] _ _ hr e0 (hbind s₁ (.ref a)) (.cons rfl .nil) (hsp H hO hS)) fun r s' h=>?_
  cases r with
  |error e=>exact (hCX H e s' h).elim
  |ok fl =>
   cases fl with
   |next=>exact False.elim h
   |brk=>exact False.elim h
   |cont=>exact False.elim h
   |ret u =>
    obtain ⟨v,H',os,bare,un,hok',r',q⟩:=h
    have q':v=.bl true:=q
    subst q'
    obtain rfl:u=Value.bool true:=r'
    refine ⟨rfl,OldK.of_keep fun b o e=>?_,os,bare⟩
    cases q:H b with
    |none=>exact un.keep b o e q (by intro z;exact absurd (show b∈([]:List Addr) from z) (by simp)) (by simp)
    |some u =>
     rcases hO b with z|⟨ob,xs,z⟩
     ·rw [q] at z;cases z
     ·have z2:=un.frzs b ob _ z
      obtain ⟨e1,_⟩:=hok b _ z
      obtain ⟨e2,_⟩:=hok' b _ z2
      rw [e] at e1;cases e1
      exact e2
 cases hk:K.lookup a with
 |some o =>
  have e:=KX a o hk
  rw [ha] at e
  cases e
  refine core (fun _=>none) (fun _=>.inl rfl) (.inr ⟨_,vs.toArray,_,hk,rfl,rfl,rfl,by rw [List.size_toArray,lenV];exact hl,by simpa using rv⟩) (fun b u z=>by have z':(none:Option HO)=some u:=z;cases z') (fun b z=>absurd rfl z) fun z=>absurd rfl z
 |none =>
  refine core (fun b=>if b=a then some (.frz { cls:=.type "list",data:=.seq vs.toArray } (.lst (ns.map V.int))) else none) (fun b=>?_) (.inl (.inr ⟨{ cls:=.type "list",data:=.seq vs.toArray },if_pos rfl⟩)) (fun b u z=>?_) (fun b z=>?_) fun _=>hk
  ·by_cases hb:b=a
   ·exact .inr ⟨_,_,if_pos hb⟩
   ·exact .inl (if_neg hb)
  ·by_cases hb:b=a
   ·have z':=(if_pos hb).symm.trans z
    cases z'
    subst hb
    exact ⟨ha,by rw [List.length_map];exact hl,vs,_,rv,ha⟩
   ·have z':=(if_neg hb).symm.trans z
    cases z'
  ·by_cases hb:b=a
   ·exact hb
   ·exact absurd (if_neg hb) z
end L2
namespace L2
open PySem PySem.Spec PyProof.Rows
theorem uB {l:PySem.W.OpenLaw}{n k:Nat}{q:Program}{loose:List Str}{XP:(Str→Option Value)→Heap→Prop}{YP:World→Heap→Prop}{d:DefRec}{K:Params→PySem.W.Frag}{CX:World→CXT}{sp:World→Sp}{x:Str}
  (hn:l.most=some n) (hn2:n≤sizeLine) (hdf:d.params.defaults=[]) (hr:fF k callerA)
  (hY:∀ (w:World) (h:Heap),YP w h→(K w.params).In h)
  (F:∀ (w:World) (mg:Str→Option Value) (fa:Addr) (h:Heap),(K w.params).In h→h.Ns mainGlobals mg→mg d.name=some (.ref fa) →
   ∃ fd:FuncData,(∀ (s:Shared) (u:Value),BindsTo s fd ⟨[u],[]⟩ [(x,u)]) ∧
    ∀ base:Heap,(K w.params).In base→base.Ns mainGlobals mg→lU l.prog w (K w.params) mg base (CX w) k fa fd [x] (sp w))
  (hsp:∀ (w:World) (H:Hp) (a:Addr) (ns:List Int),ns.length≤n→wZ H→SqL (K w.params) H a (ns.map V.int)→sp w [.ref a] H (fun v _=>v=.bl true) fun _ _ _=>False)
  (hCX:∀ (w:World) (H:Hp) (s:Shared) (e:Value) (s':Shared),CX w [] H s (fun _ _ _=>False) e s'→False) :
  PySem.W.WalkO q loose XP YP l.row.toRowW d [] (fun f vs=>PySem.call f vs):=by
 refine Att.lX hn hdf fun w s₀ s₁ mg mb fa o pm cd doc a vs ns G Y ho hd hcd hmg hobj hints hlen hg=>?_
 have KX:=hY w _ Y
 obtain ⟨fd,hb,hF⟩:=F w mg fa _ KX G.T.g hmg
 exact rM KX G.T.g G.T.b G.T.builtins G.T.nolimit hg hobj hints (Nat.le_trans hlen hn2) hr hF hb (fun H hO hS=>hsp w H a ns hlen hO hS) fun H e s'=>hCX w H s₁ e s'
end L2
namespace L2
open PySem PySem.Spec PyProof.Rows
noncomputable def aH (s:Stmt):Arguments:=match s with
 |.FunctionDef _ a _ _ _ _ _ _ _ _=>a
 |_=>{ posonlyargs:=[],args:=[],vararg:=none,kwonlyargs:=[],kw_defaults:=[],kwarg:=none,defaults:=[] }
noncomputable def aj (s:Stmt):List Stmt:=match s with
 |.FunctionDef _ _ b _ _ _ _ _ _ _=>b
 |_=>[]
noncomputable def aa (s:Stmt):Scope:=match s with
 |.FunctionDef _ _ _ _ _ _ sc _ _ _=>sc
 |_=>{ kind:=.function,names:=[],isGenerator:=false,isCoroutine:=false }
noncomputable abbrev CX0:CXT:=fun _ _ _ _ _ _=>False
noncomputable abbrev E0:XK:=fun _ _ _=>False
theorem yL {X:Cx}:Passes CX0 X E0:=fun _ _ _ _ _ _ _ h=>h.elim
structure Fun (K:PySem.W.Frag) (x qual:Str) (st:Stmt) (f:Addr) (fd:FuncData):Prop where
 ex:∃ (oc:Value) (od:Option Addr) (kV doc pm:Value) (an:Option Addr) (cdv ct:Value) (osl:Array (Option Value)),
  fd=PySem.W.fnOf x qual (aH st) (aj st) (aa st) .none kV doc pm an cdv ct∧K.lookup f=some ⟨oc,od,.func fd,osl⟩∧PySem.W.codeIn K cdv qual=true
 kp:PySem.W.keepIn K (.ref f)=true
section
variable {P : Program} {w : World} {K : PySem.W.Frag} {mg : Str → Option Value} {base : Heap}
theorem Fun.ok {x qual:Str}{st:Stmt}{f:Addr}{fd:FuncData}{N ps:List Str}{k:Nat}{sp:Sp} (F:Fun K x qual st f fd) (S:aD N ps (aa st)) (len:∀ vs H Q E,sp vs H Q E→vs.length=ps.length)
  (hbody:∀ (cdv:Value) (A:Around) (outer:List Env) (s:Shared) (H:Hp) (vs:List V) (Q:VK) (E:XK),fF k (A.deeper (envOfC qual (aa st) s.heap.objs.size f cdv))→sp vs H Q E →
   ∃ t,PSs (nK CX0 P w K mg base N qual (aa st) f cdv A outer s H E).nox (aj st) t∧t { nx:=fun _ H'=>Q .non H',rt:=Q } (start N vs) H):lU P w K mg base CX0 (k+1) f fd ps sp:=by
 obtain ⟨oc,od,kV,doc,pm,an,cdv,ct,osl,rfl,lk,hcd⟩:=F.ex
 refine yF lk hcd S len fun A outer s H vs Q E hr hsp=>?_
 obtain ⟨t,h,q⟩:=hbody cdv A outer s H vs Q E hr hsp
 exact ⟨t,h.nox,q⟩
theorem Fun.binds {x qual:Str}{st:Stmt}{f:Addr}{fd:FuncData}{ps:List Str} (F:Fun K x qual st f fd)
  (h:∀ (kV doc pm:Value) (an:Option Addr) (cdv ct:Value) (us:List Value),us.length=ps.length→bindArgs (PySem.W.fnOf x qual (aH st) (aj st) (aa st) .none kV doc pm an cdv ct) ⟨us,[]⟩=pure (ps.zip us)):Binds K fd ps []:=by
 obtain ⟨oc,od,kV,doc,pm,an,cdv,ct,osl,rfl,lk,hcd⟩:=F.ex
 exact .all (h kV doc pm an cdv ct)
theorem bj {x qual:Str}{st:Stmt}{f:Addr}{oc:Value}{od an:Option Addr}{osl:Array (Option Value)}{kV doc pm cdv ct:Value} (l:K.lookup f=some ⟨oc,od,.func (PySem.W.fnOf x qual (aH st) (aj st) (aa st) .none kV doc pm an cdv ct),osl⟩)
  (c:PySem.W.codeIn K cdv qual=true) (k:PySem.W.keepIn K (.ref f)=true):Fun K x qual st f (PySem.W.fnOf x qual (aH st) (aj st) (aa st) .none kV doc pm an cdv ct):=⟨⟨oc,od,kV,doc,pm,an,cdv,ct,osl,rfl,l,c⟩,k⟩
end
theorem qE {n:Nat} (h:n≤1000):n<sizeLine:=Nat.lt_of_le_of_lt h (by decide)
section
variable {X : Cx}
end
noncomputable def yM (H H':Hp):Prop:=∀ b o,H b=some o→H' b=some o
end L2
namespace L2
open PySem PySem.Spec PyProof.Rows
section
variable {κ : Type} [DecidableEq κ]
noncomputable def fK (kvs:List (κ×V)) (k:κ):Option V:=(kvs.find? fun kv=>decide (kv.1=k)).map (·.2)
noncomputable def putK (kvs:List (κ×V)) (k:κ) (v:V):List (κ×V) :=
 if (kvs.any fun kv=>decide (kv.1=k))=true then kvs.map (fun kv=>if kv.1=k then (kv.1,v) else kv) else kvs++[(k,v)]
theorem dR {p:κ×V}{r:List (κ×V)}{k:κ} (e:p.1=k):fK (p::r) k=some p.2:=by simp [fK,List.find?_cons,e]
theorem dS {p:κ×V}{r:List (κ×V)}{k:κ} (e:¬ p.1=k):fK (p::r) k=fK r k:=by simp [fK,List.find?_cons,e]
theorem ic (k:κ):∀ kvs:List (κ×V),(kvs.any fun kv=>decide (kv.1=k))=(fK kvs k).isSome
 |[]=>rfl
 |p::r=>by
  rw [List.any_cons]
  by_cases e:p.1=k
  ·simp only [dR e,decide_eq_true e,Bool.true_or,Option.isSome_some]
  ·rw [dS e,decide_eq_false e,Bool.false_or];exact ic k r
theorem gz (kvs:List (κ×V)) (k:κ) (v:V):(putK kvs k v).length≤kvs.length+1:=by
 unfold putK
 split
 ·rw [List.length_map];omega
 ·rw [List.length_append,List.length_cons,List.length_nil];omega
theorem ji.cY {o:Option V}{u:Option Value} (r:ji o u):o.isSome=u.isSome:=by
 cases o with
 |none=>cases u with
  |none=>rfl
  |some _=>exact (show False from r).elim
 |some _=>cases u with
  |none=>exact (show False from r).elim
  |some _=>rfl
theorem KV.val {kvs:List (κ×V)}{vs:List (κ×Value)} (r:KV kvs vs) (k:κ):ji (fK kvs k) (valueAt vs k):=by
 unfold KV at r
 induction r with
 |nil=>exact True.intro
 |@cons p q ps qs h t ih =>
  obtain ⟨h1,h2⟩:=h
  by_cases e:p.1=k
  ·have e':q.1=k:=h1.symm.trans e
   have b:valueAt (q::qs) k=some q.2:=by simp [valueAt,List.find?_cons,e']
   rw [dR e,b];exact h2
  ·have e':¬ q.1=k:=fun z=>e (h1.trans z)
   have b:valueAt (q::qs) k=valueAt qs k:=by simp [valueAt,List.find?_cons,e']
   rw [dS e,b];exact ih
theorem KV.any {kvs:List (κ×V)}{vs:List (κ×Value)} (r:KV kvs vs) (k:κ):(kvs.any fun kv=>decide (kv.1=k))=vs.any fun kv=>decide (kv.1=k):=by
 unfold KV at r
 induction r with
 |nil=>rfl
 |cons h t ih=>rw [List.any_cons,List.any_cons,ih,h.1]
theorem KV.w9 {kvs:List (κ×V)}{vs:List (κ×Value)} (r:KV kvs vs) (k:κ) {y:V}{u:Value} (ry:RelV y u) :
  KV (kvs.map fun kv=>if kv.1=k then (kv.1,y) else kv) (vs.map fun kv=>if kv.1=k then (kv.1,u) else kv):=by
 unfold KV at r ⊢
 induction r with
 |nil=>exact .nil
 |@cons p q ps qs h t ih =>
  rw [List.map_cons,List.map_cons]
  refine .cons ?_ ih
  obtain ⟨h1,h2⟩:=h
  by_cases e:p.1=k
  ·rw [if_pos e,if_pos (h1.symm.trans e)];exact ⟨h1,ry⟩
  ·rw [if_neg e,if_neg (fun z=>e (h1.trans z))];exact ⟨h1,h2⟩
theorem KV.put {kvs:List (κ×V)}{vs:List (κ×Value)} (r:KV kvs vs) (k:κ) {y:V}{u:Value} (ry:RelV y u):KV (putK kvs k y) (stored vs k u):=by
 unfold putK stored
 rw [r.any k]
 by_cases e:(vs.any fun kv=>decide (kv.1=k))=true
 ·rw [if_pos e,if_pos e];exact r.w9 k ry
 ·rw [if_neg e,if_neg e];exact Paired.snoc r ⟨rfl,ry⟩
theorem KV.length {kvs:List (κ×V)}{vs:List (κ×Value)} (r:KV kvs vs):kvs.length=vs.length:=Paired.length r
end
theorem lY {P:Program}{w:World}{k:Key}{u:Value} (r:RelV (kV k) u):(aQ P w).is k u=true:=by
 cases k with
 |inl i=>obtain ⟨t,e⟩:=(show ∃ t,u=Value.int i t from r);subst e;exact lO P w i t
 |inr x=>obtain ⟨t,e⟩:=(show ∃ t,u=Value.str x t from r);subst e;exact lP P w x t
theorem jM {P:Program}{w:World}:∀ {ks:List Key}{us:List Value},Vals (ks.map kV) us→ItemsAre (aQ P w) ks us
 |[],_,r=>by rw [List.map_nil] at r;cases r;exact .nil
 |k::ks,_,r=>by
  rw [List.map_cons] at r
  cases r with
  |cons h t=>exact .cons (lY h) (jM t)
noncomputable abbrev KT (H:Hp):List (List Key×V)→List (List Key×Addr×Value)→Prop:=Paired fun p q=>p.1=q.1∧H q.2.1=some (.tup (p.1.map kV))∧RelV p.2 q.2.2
theorem KT.val {H:Hp}{kvs:List (List Key×V)}{xs:List (List Key×Addr×Value)} (r:KT H kvs xs) (k:List Key):ji (fK kvs k) ((atKey xs k).map (·.2)):=by
 induction r with
 |nil=>exact True.intro
 |@cons p q ps qs h t ih =>
  obtain ⟨h1,_,h2⟩:=h
  by_cases e:p.1=k
  ·have e':q.1=k:=h1.symm.trans e
   have b:atKey (q::qs) k=some q.2:=by simp [atKey,List.find?_cons,e']
   rw [dR e,b];exact h2
  ·have e':¬ q.1=k:=fun z=>e (h1.trans z)
   have b:atKey (q::qs) k=atKey qs k:=by simp [atKey,List.find?_cons,e']
   rw [dS e,b];exact ih
theorem KT.w9 {H:Hp}{kvs:List (List Key×V)}{xs:List (List Key×Addr×Value)} (r:KT H kvs xs) (k:List Key) {y:V}{u:Value} (ry:RelV y u) :
  KT H (kvs.map fun kv=>if kv.1=k then (kv.1,y) else kv) (xs.map (putAt k u)):=by
 induction r with
 |nil=>exact .nil
 |@cons p q ps qs h t ih =>
  rw [List.map_cons,List.map_cons]
  refine .cons ?_ ih
  obtain ⟨h1,h2,h3⟩:=h
  unfold putAt
  by_cases e:p.1=k
  ·rw [if_pos e,if_pos (h1.symm.trans e)];exact ⟨h1,h2,ry⟩
  ·rw [if_neg e,if_neg (fun z=>e (h1.trans z))];exact ⟨h1,h2,h3⟩
theorem KT.put {H:Hp}{kvs:List (List Key×V)}{xs:List (List Key×Addr×Value)} (r:KT H kvs xs) (k:List Key) {b:Addr}{y:V}{u:Value} (hb:H b=some (.tup (k.map kV))) (ry:RelV y u) :
  KT H (putK kvs k y) (storedH xs k b u):=by
 have e:(kvs.any fun kv=>decide (kv.1=k))=(atKey xs k).isSome:=by
  rw [ic,(r.val k).cY,Option.isSome_map]
 unfold putK storedH
 rw [e]
 by_cases q:(atKey xs k).isSome=true
 ·rw [if_pos q,if_pos q];exact r.w9 k ry
 ·rw [if_neg q,if_neg q];exact Paired.snoc r ⟨rfl,hb,ry⟩
theorem KT.keeps {H H':Hp}{kvs:List (List Key×V)}{xs:List (List Key×Addr×Value)} (r:KT H kvs xs) (ht:∀ b ys,H b=some (.tup ys)→H' b=some (.tup ys)):KT H' kvs xs :=
 Paired.wx r fun _ _ z=>⟨z.1,ht _ _ z.2.1,z.2.2⟩
section
variable {P : Program} {w : World} {H : Hp} {h : Heap} {a : Addr}
theorem vX {u:HO} (ok:HOk P w H h) (e:Rd H a u):bJ P w H h a u:=e.ok ok
theorem lZ {kvs:List (Key×V)} (ok:HOk P w H h) (e:Rd H a (.dK kvs)):kvs.length≤sizeLine∧(a==sysModules)=false∧∃ vs,KV kvs vs∧h.DictOf (aQ P w) a vs :=
 show bJ P w H h a (.dK kvs) from vX ok e
theorem vY {kvs:List (Key×V)} (ok:HOk P w H h) (e:H a=some (.dK kvs)):kvs.length≤sizeLine∧(a==sysModules)=false∧∃ vs,KV kvs vs∧h.DictOf (aQ P w) a vs:=lZ ok (.inl e)
theorem ie {ks:List Key} (ok:HOk P w H h) (e:H a=some (.tup (ks.map kV))):(tupleKind (aQ P w)).is h ks a:=by
 obtain ⟨_,its,r,o,h1,h2,n,h3⟩:=(show bJ P w H h a (.tup (ks.map kV)) from ok a _ e)
 exact ⟨o,its.toArray,n,h1,h2,h3,by simpa using jM r⟩
theorem l0 {kvs:List (List Key×V)} (ok:HOk P w H h) (e:Rd H a (.dT kvs)):kvs.length≤sizeLine∧(a==sysModules)=false ∧
  ∃ xs,KT H kvs xs∧h.DictOfH (tupleKind (aQ P w)) a xs:=by
 obtain ⟨z,y,xs,r,o,es,ep,h1,h2,h3,h4,h5⟩:=(show bJ P w H h a (.dT kvs) from vX ok e)
 refine ⟨z,y,xs,r,o,es,ep,h1,h2,h3,h4,fun x hx=>?_,h5⟩
 have all:∀ {l:List (List Key×V)} {m:List (List Key×Addr×Value)},KT H l m→∀ x∈m,(tupleKind (aQ P w)).is h x.1 x.2.1:=by
  intro l m q
  induction q with
  |nil=>intro x hx;exact nomatch hx
  |@cons p q ps qs hq t ih =>
   intro x hx
   rcases List.mem_cons.mp hx with e|hx
   ·subst e
    exact ie ok (by rw [←hq.1];exact hq.2.1)
   ·exact ih x hx
 exact all r x hx
theorem yN {kvs:List (List Key×V)} (ok:HOk P w H h) (e:H a=some (.dT kvs)):kvs.length≤sizeLine∧(a==sysModules)=false ∧
  ∃ xs,KT H kvs xs∧h.DictOfH (tupleKind (aQ P w)) a xs:=l0 ok (.inl e)
end
noncomputable def jm (H:Hp) (a:Addr) (y:V) (r:Option V):Prop :=
 (∃ kvs k,Rd H a (.dK kvs)∧y=kV k∧r=fK kvs k)∨∃ kvs k b,Rd H a (.dT kvs)∧y=.ref b∧H b=some (.tup (k.map kV))∧r=fK kvs k
noncomputable def rN (H:Hp) (a:Addr) (y v:V) (H':Hp):Prop :=
 (∃ kvs k,H a=some (.dK kvs)∧y=kV k∧kvs.length<sizeLine∧H'=upd H a (.dK (putK kvs k v))) ∨
 ∃ kvs k b,H a=some (.dT kvs)∧y=.ref b∧H b=some (.tup (k.map kV))∧kvs.length<sizeLine∧H'=upd H a (.dT (putK kvs k v))
theorem jm.k {H:Hp}{a:Addr}{kvs:List (Key×V)}{k:Key} (e:H a=some (.dK kvs)):jm H a (kV k) (fK kvs k):=.inl ⟨kvs,k,.inl e,rfl,rfl⟩
theorem rN.k {H:Hp}{a:Addr}{kvs:List (Key×V)}{k:Key}{v:V} (e:H a=some (.dK kvs)) (hl:kvs.length<sizeLine):rN H a (kV k) v (upd H a (.dK (putK kvs k v))):=.inl ⟨kvs,k,e,rfl,hl,rfl⟩
section
variable {X : Cx} {pins : List (Addr × Obj)} {σ : St} {H : Hp} {s : Shared} {a : Addr} {y v : V} {u r : Value} {o : Option V} {A : Around} {E : Value → Shared → Prop}
theorem Inv.big (I:Inv X pins σ H s):sysModules<s.heap.objs.size:=by
 have h:mainGlobals<s.heap.objs.size:=(I.mod.glob.keeps I.bk).lt
 exact Nat.lt_trans (by decide) h
theorem qF {Q:Value→Shared→Prop} (hu:A.units+1<cLine) (I:Inv X pins σ H s) (g:jm H a y (some v)) (ry:RelV y u) (h:∀ w' s',Inv X pins σ H s'→RelV v w'→Q w' s') :
  wpAny (model X.prog X.w) A (getItem (.ref a) u) Q E s:=by
 rcases g with ⟨kvs,k,e,ey,l⟩|⟨kvs,k,b,e,ey,eb,l⟩
 ·subst ey
  obtain ⟨z,hd,vs,rel,dd⟩:=lZ I.hok e
  obtain ⟨w',hw,rw'⟩:=ji.some_of (v:=v) (o:=valueAt vs k) (by rw [l];exact rel.val k)
  exact wpAny_getItem_of (lY ry) dd.mapOf hw (h w' _ (I.tok _) rw')
 ·subst ey
  cases (show u=Value.ref b from ry)
  obtain ⟨z,hd,xs,rel,dd⟩:=l0 I.hok e
  obtain ⟨w',hw,rw'⟩:=ji.some_of (v:=v) (o:=(atKey xs k).map (·.2)) (by rw [l];exact rel.val k)
  obtain ⟨p,hp,hp2⟩:=Option.map_eq_some_iff.mp hw
  refine wpAny_getItem_heap (tupleKind_room_in1 hu) (ie I.hok eb) dd hp ?_
  rw [hp2]
  exact h w' _ (I.tok _) rw'
theorem Ax {Q:Value→Shared→Prop} (hu:A.units+1<cLine) (I:Inv X pins σ H s) (g:jm H a y o) (ry:RelV y u) (h:∀ s',Inv X pins σ H s'→Q (.bool o.isSome) s') :
  wpAny (model X.prog X.w) A (compareOp .In u (.ref a)) Q E s:=by
 rcases g with ⟨kvs,k,e,ey,l⟩|⟨kvs,k,b,e,ey,eb,l⟩
 ·subst ey
  obtain ⟨z,hd,vs,rel,dd⟩:=lZ I.hok e
  refine wpAny_in_of (lY ry) hd dd.mapOf ?_
  rw [←(rel.val k).cY,←l]
  exact h _ (I.tok _)
 ·subst ey
  cases (show u=Value.ref b from ry)
  obtain ⟨z,hd,xs,rel,dd⟩:=l0 I.hok e
  refine wpAny_in_heap (tupleKind_room_in1 hu) (ie I.hok eb) hd dd ?_
  have q:=(rel.val k).cY
  rw [Option.isSome_map] at q
  rw [←q,←l]
  exact h _ (I.tok _)
theorem uC {Q:Value→Shared→Prop} (hu:A.units+1<cLine) (I:Inv X pins σ H s) (g:jm H a y o) (ry:RelV y u) (h:∀ s',Inv X pins σ H s'→Q (.bool (!o.isSome)) s') :
  wpAny (model X.prog X.w) A (compareOp .NotIn u (.ref a)) Q E s:=by
 rcases g with ⟨kvs,k,e,ey,l⟩|⟨kvs,k,b,e,ey,eb,l⟩
 ·subst ey
  obtain ⟨z,hd,vs,rel,dd⟩:=lZ I.hok e
  refine wpAny_notIn_of (lY ry) hd dd.mapOf ?_
  rw [←(rel.val k).cY,←l]
  exact h _ (I.tok _)
 ·subst ey
  cases (show u=Value.ref b from ry)
  obtain ⟨z,hd,xs,rel,dd⟩:=l0 I.hok e
  refine wpAny_notIn_heap (tupleKind_room_in1 hu) (ie I.hok eb) hd dd ?_
  have q:=(rel.val k).cY
  rw [Option.isSome_map] at q
  rw [←q,←l]
  exact h _ (I.tok _)
theorem pz {h':Heap}{t':Nat}{ob:HO} (I:Inv X pins σ H s) (mu:Mut (H a)) (hs:Heap.SameBut a s.heap h') (he:∃ q,h'.get? a=some q) (new:bJ X.prog X.w (upd H a ob) h' a ob) :
  Inv X pins σ (upd H a ob) { s with heap:=h',toks:=t' } :=
 I.write (x:=a) (e:=a) mu (.inl rfl) (fun b q hb z=>(hs.2 b hb).trans z) he new
theorem w_ {P:Program}{w:World}{H':Hp}{h':Heap}{kvs:List (Key×V)}{vs:List (Key×Value)} (z:kvs.length≤sizeLine) (hd:(a==sysModules)=false) (rel:KV kvs vs) (dd:h'.DictOf (aQ P w) a vs) :
  bJ P w H' h' a (.dK kvs):=⟨z,hd,vs,rel,dd⟩
theorem qG {H':Hp}{Q:Unit→Shared→Prop} (hu:A.units+1<cLine) (I:Inv X pins σ H s) (g:rN H a y v H') (ry:RelV y u) (rv:RelV v r) (h:∀ s',Inv X pins σ H' s'→Q () s') :
  wpAny (model X.prog X.w) A (setItem (.ref a) u r) Q E s:=by
 rcases g with ⟨kvs,k,e,ey,l,eH⟩|⟨kvs,k,b,e,ey,eb,l,eH⟩
 ·subst ey eH
  obtain ⟨z,hd,vs,rel,dd⟩:=vY I.hok e
  have hz:vs.length≤sizeLine:=by rw [←rel.length];exact z
  have hl:(putK kvs k v).length≤sizeLine:=by have:=gz kvs k v;omega
  refine wpAny_setItem_pairs (hsz:=hz) (lY ry) dd fun h' dd' hs=>h _ ?_
  have he:∃ q,h'.get? a=some q:=let ⟨q,_,_,hq,_⟩:=dd';⟨q,hq⟩
  exact pz I (by rw [e];exact True.intro) hs he (w_ hl hd (rel.put k rv) dd')
 ·subst ey eH
  cases (show u=Value.ref b from ry)
  obtain ⟨z,hd,xs,rel,dd⟩:=yN I.hok e
  have hz:xs.length≤sizeLine:=by rw [←Paired.length rel];exact z
  have hl:(putK kvs k v).length≤sizeLine:=by have:=gz kvs k v;omega
  refine wpAny_setItem_heap (hsz:=hz) (tupleKind_room_in1 hu) (ie I.hok eb) dd fun h' dd' hs=>h _ ?_
  obtain ⟨q,es,ep,hq,h2,h3,h4,_,h5⟩:=dd'
  refine pz I (by rw [e];exact True.intro) hs ⟨q,hq⟩ ⟨hl,hd,_,(rel.put k eb rv).keeps fun c ys ec=>?_,q,es,ep,hq,h2,h3,h4,h5⟩
  rw [aI (rn ec e (fun z=>nomatch z))]
  exact ec
end
section
variable {X : Cx} {pins : List (Addr × Obj)} {σ : St} {H : Hp} {s : Shared} {a : Addr} {kvs : List (Key × V)} {k : Key} {u : Value} {A : Around} {E : Value → Shared → Prop}
end
theorem l5 {X:Cx}{pins:List (Addr×Obj)}{σ:St}{H:Hp}{s:Shared}{a:Addr}{y:V}{o:Option V} (I:Inv X pins σ H s) (g:jm H a y o):s.TypeIs (.ref a) "dict":=by
 rcases g with ⟨kvs,k,e,_,_⟩|⟨kvs,k,b,e,_,_,_⟩
 ·obtain ⟨_,_,vs,_,dd⟩:=lZ I.hok e
  exact dd.typeIs
 ·obtain ⟨_,_,xs,_,dd⟩:=l0 I.hok e
  exact dd.typeIs
section
variable {X : Cx} {o i e value : Expr} {pos pos' tpos : Pos} {td ty tv : TE}
end
theorem rO {P:Program}{w:World}{H:Hp} (h:Heap) (hb:sysModules<h.objs.size):bJ P w H (h.push { cls:=.type "dict",data:=.dict #[] }) h.objs.size (.dK []) :=
 ⟨Nat.zero_le _,beq_eq_false_iff_ne.mpr (Ne.symm (Nat.ne_of_lt hb)),[],.nil,Heap.DictOf.new h⟩
noncomputable def xa:TE:=fun _ H Q=>∀ p,H p=none→Q (.ref p) (upd H p (.dK []))
section
variable {X : Cx} {pos : Pos}
theorem rP:PE X (.Dict [] [] pos) xa:=fun pins s σ H Q I h =>
 wpAny_Dict_empty ⟨.ref s.heap.objs.size,_,I.laid (a:=s.heap.objs.size) (o:=.dK []) (t':=s.toks) (fun _ _ q=>Heap.get?_push_of_some _ q) (Nat.le_refl _) (rO s.heap I.big),rfl,h _ (I.hok.fresh (Nat.le_refl _))⟩
end
structure M1 (X:Cx) (o:Expr) (m:Str) (apos:Pos) (e:Expr) (cpos:Pos):Prop where
 base:attributeBase o m X.env (eval o X.env)=eval o X.env
 few:((backTo cpos (starEach [e] X.env)).all (fun x=>!x.1)&&(backToKw cpos (keywordEach [] X.env)).all (fun x=>x.1.isSome)
  && decide (([e]:List Expr).length+([]:List Keyword).length+(if ([]:List Keyword).isEmpty then 0 else 1)<30))=true
 line:(apos.endLine==cpos.line)=true
 trees:backTo cpos (starEach [e] X.env)=[(false,eval e X.env)]
structure M2 (X:Cx) (o:Expr) (m:Str) (apos:Pos) (e f:Expr) (cpos:Pos):Prop where
 base:attributeBase o m X.env (eval o X.env)=eval o X.env
 few:((backTo cpos (starEach [e,f] X.env)).all (fun x=>!x.1)&&(backToKw cpos (keywordEach [] X.env)).all (fun x=>x.1.isSome)
  && decide (([e,f]:List Expr).length+([]:List Keyword).length+(if ([]:List Keyword).isEmpty then 0 else 1)<30))=true
 line:(apos.endLine==cpos.line)=true
 trees:backTo cpos (starEach [e,f] X.env)=[(false,eval e X.env),(false,eval f X.env)]
section
variable {X : Cx} {pins : List (Addr × Obj)} {σ : St} {H : Hp} {s : Shared} {a : Addr} {y d : V} {u r : Value} {o : Option V} {A : Around} {E : Value → Shared → Prop}
end
section
variable {X : Cx} {o e f : Expr} {apos cpos : Pos} {td ty tx : TE}
end
section
variable {X : Cx} {pins : List (Addr × Obj)} {σ : St} {H : Hp} {s : Shared} {a : Addr} {kvs : List (Key × V)} {A : Around} {E : Value → Shared → Prop}
end
section
variable {X : Cx} {pins : List (Addr × Obj)} {σ : St} {H : Hp} {s : Shared} {a : Addr} {y : V} {u : Value} {A : Around} {E : Value → Shared → Prop}
end
end L2
namespace W01
open PySem PySem.Builtin.Str PySem.StrLaws
noncomputable def low (c:Nat):Bool:=decide (97≤c)&&decide (c≤122)
noncomputable def dH (l:List Nat):Bool:=decide (1≤l.length)&&decide (l.length≤8)&&l.all low
theorem bM (l:List Nat):dH l=true↔1≤l.length∧l.length≤8∧∀ c∈l,97≤c∧c≤122:=by
 simp [dH,low,List.all_eq_true,and_assoc]
theorem cZ {l:List Nat} (h:dH l=true):47∉l:=fun m=>by
 have:=((bM l).mp h).2.2 47 m
 omega
theorem eE {x y:Str} (h:x.cps.toList=y.cps.toList):x=y:=by
 cases x;cases y
 congr
 exact Array.toList_inj.mp h
theorem gi {x:Str}{c:Nat} (h:c∉x.cps.toList):Txt.partition x ⟨#[c]⟩=(x,Str.empty,Str.empty):=by
 have e:=found_one x c
 rw [decide_eq_false h] at e
 unfold Txt.partition
 cases q:occurrences x ⟨#[c]⟩ 0 x.length 1 with
 |nil=>rfl
 |cons i r=>rw [q] at e;simp at e
theorem kA (x:Str) (c i:Nat):At x ⟨#[c]⟩ x.length i↔x.cps.toList[i]?=some c:=subAt_one x c i
theorem rQ {x:Str}{a b:List Nat}{c:Nat} (h:x.cps.toList=a++c::b) (hn:c∉a) (limit:Nat) (hl:1≤limit):∃ r,occurrences x ⟨#[c]⟩ 0 x.length limit=a.length::r:=by
 have hat:x.cps.toList[a.length]?=some c:=by rw [h];simp
 rcases occ_head x ⟨#[c]⟩ limit hl with ⟨_,hno⟩|⟨i,r,e,hi,hmin⟩
 ·exact absurd ((kA x c a.length).mpr hat) (hno _)
 ·have e1:=(kA x c i).mp hi
  have:i=a.length:=by
   rcases Nat.lt_trichotomy i a.length with z|z|z
   ·exfalso
    rw [h,List.getElem?_append_left z] at e1
    exact hn (List.mem_of_getElem? e1)
   ·exact z
   ·exact absurd ((kA x c a.length).mpr hat) (hmin _ z)
  subst this
  exact ⟨r,e⟩
theorem uD {x:Str}{a b:List Nat}{c:Nat} (h:x.cps.toList=a++c::b) (hn:c∉a):Txt.partition x ⟨#[c]⟩=(⟨a.toArray⟩,⟨#[c]⟩,⟨b.toArray⟩):=by
 obtain ⟨r,e⟩:=rQ h hn 1 (Nat.le_refl _)
 unfold Txt.partition
 rw [e]
 have l1:(⟨#[c]⟩:Str).length=1:=rfl
 have lx:x.length=a.length+1+b.length:=by
  have:=congrArg List.length h
  simp [Str.length] at this ⊢
  omega
 refine Prod.ext ?_ (Prod.ext rfl ?_)
 ·apply eE
  rw [strSub_toList,h]
  simp
 ·apply eE
  show (strSub x (a.length+(⟨#[c]⟩:Str).length) x.length).cps.toList=_
  rw [strSub_toList,h,l1,lx]
  simp
theorem ig {x:Str}{c:Nat} (h:c∉x.cps.toList):Txt.split x ⟨#[c]⟩=[x]:=by
 unfold Txt.split
 split
 ·rfl
 ·rw [if_pos]
  rcases occ_head x ⟨#[c]⟩ (x.length+1) (by omega) with ⟨e,_⟩|⟨i,r,e,hi,_⟩
  ·rw [e];rfl
  ·exact absurd (List.mem_of_getElem? ((kA x c i).mp hi)) h
theorem l6 (c:Nat) (h:c<256) (x:Str):¬ (PySem.Builtin.Str.strKind x<PySem.Builtin.Str.strKind ⟨#[c]⟩):=by
 have e:PySem.Builtin.Str.strKind ⟨#[c]⟩=1:=by simp [PySem.Builtin.Str.strKind,h]
 rw [e]
 unfold PySem.Builtin.Str.strKind
 split
 ·omega
 ·split <;> omega
theorem l7 {x:Str}{a b:List Nat}{c:Nat} (h:x.cps.toList=a++c::b) (hn:c∉a) (hc:c<256):∃ r,Txt.split x ⟨#[c]⟩=⟨a.toArray⟩::r:=by
 obtain ⟨r,e⟩:=rQ h hn (x.length+1) (by omega)
 have l1:(⟨#[c]⟩:Str).length=1:=rfl
 have lx:x.length=a.length+1+b.length:=by
  have:=congrArg List.length h
  simp [Str.length] at this ⊢
  omega
 unfold Txt.split
 rw [if_neg (by
  have h1:¬ (x.length<(⟨#[c]⟩:Str).length):=by rw [l1];omega
  have h2:=l6 c hc x
  simp [h1,h2]),if_neg (by rw [e];simp),partsBetween_eq,e]
 refine ⟨_,congrArg (·::_) ?_⟩
 apply eE
 rw [strSub_toList,h]
 simp
end W01
namespace W01
open PySem PySem.Builtin.Str PySem.StrLaws
noncomputable def fL (i:Int):Str:=Str.ofString (toString i)
noncomputable def dU:Str:=⟨#[47]⟩
end W01
namespace L2
open PySem PySem.Spec PyProof.Rows
noncomputable def bf (env:Env):List (Str×NameKind)→List (Str×Addr)→List (Str×Addr)
 |[],cs=>cs
 |(n,k)::r,cs=>bf env r (if k==.free then (match env.cells.lookup n with|some a=>(n,a)::cs|none=>cs) else cs)
theorem c6 {scope:Scope}{env:Env} (h:∀ y∈scope.names,y.2=.free→∃ a,env.cells.lookup y.1=some a):closureFor scope env=pure (bf env scope.names []):=by
 unfold closureFor
 generalize scope.names=names at h
 suffices H:∀ cs,(forIn names cs (fun (x:Str×NameKind) (r:List (Str×Addr))=>if (x.2==NameKind.free)=true then do let a ←cellOf env x.1;pure (ForInStep.yield ((x.1,a)::r)) else pure (ForInStep.yield r)):Sem (List (Str×Addr)))=pure (bf env names cs) by
  have:=H []
  exact congrArg (fun (m:Sem (List (Str×Addr)))=>m >>= pure) this
 induction names with
 |nil=>intro cs;rfl
 |cons y r ih =>
  intro cs
  obtain ⟨n,k⟩:=y
  rw [List.forIn_cons]
  have ih':=ih fun y hy=>h y (List.mem_cons_of_mem _ hy)
  by_cases hk:(k==NameKind.free)=true
  ·obtain ⟨a,ha⟩:=h (n,k) List.mem_cons_self (by simpa using hk)
   have ha':env.cells.lookup n=some a:=ha
   simp only [hk,if_true,cellOf,ha',bf]
   exact ih' _
  ·simp only [hk,if_false,bf]
   exact ih' _
theorem dq {env:Env}:∀ (names:List (Str×NameKind)) (cs:List (Str×Addr)),(∀ n c,cs.lookup n=some c→env.cells.lookup n=some c)→∀ n c,(bf env names cs).lookup n=some c→env.cells.lookup n=some c
 |[],_,h=>h
 |(m,k)::r,cs,h=>by
  unfold bf
  refine dq r _ fun n c e=>?_
  by_cases hk:(k==NameKind.free)=true
  ·rw [if_pos hk] at e
   cases q:env.cells.lookup m with
   |none=>rw [q] at e;exact h n c e
   |some a =>
    rw [q] at e
    simp only [List.lookup_cons] at e
    cases hx:n==m with
    |true =>
     rw [hx] at e
     have e':n=m:=by simpa using hx
     subst e'
     simp only at e
     rw [q];exact e
    |false=>rw [hx] at e;exact h n c e
  ·rw [if_neg hk] at e;exact h n c e
theorem gA {env:Env}{n:Str}{a:Addr} (ha:env.cells.lookup n=some a):∀ (names:List (Str×NameKind)) (cs:List (Str×Addr)),cs.lookup n=some a→(bf env names cs).lookup n=some a
 |[],_,h=>h
 |(m,k)::r,cs,h=>by
  unfold bf
  refine gA ha r _ ?_
  by_cases hk:(k==NameKind.free)=true
  ·rw [if_pos hk]
   cases q:env.cells.lookup m with
   |none=>exact h
   |some b =>
    simp only [List.lookup_cons]
    cases hx:n==m with
    |true =>
     have e':n=m:=by simpa using hx
     subst e'
     rw [ha] at q;cases q;rfl
    |false=>exact h
  ·rw [if_neg hk];exact h
theorem fe {env:Env}{n:Str}{a:Addr} (ha:env.cells.lookup n=some a):∀ (names:List (Str×NameKind)) (cs:List (Str×Addr)),(n,NameKind.free)∈names→(bf env names cs).lookup n=some a
 |[],_,h=>by cases h
 |(m,k)::r,cs,h=>by
  unfold bf
  rcases List.mem_cons.mp h with e|e
  ·cases e
   refine gA ha r _ ?_
   rw [if_pos (by decide),ha]
   simp [List.lookup_cons]
  ·exact fe ha r _ e
theorem bx {env:Env}:∀ {names:List (Str×NameKind)}{x:Str}{k:NameKind},
  (names.map fun (n,k)=>if (k==NameKind.free&&env.scope.kind==.function&&env.kindOf n==some .cell) then (n,NameKind.cell) else (n,k)).lookup x=some k →
  names.lookup x=some k∨(k=.cell∧names.lookup x=some .free)
 |[],_,_,h=>by simp at h
 |(n,k0)::r,x,k,h=>by
  have ih:=@bx env r x k
  rw [List.map_cons] at h
  by_cases hc:(k0==NameKind.free&&env.scope.kind==.function&&env.kindOf n==some .cell)=true
  ·simp only [if_pos hc,List.lookup_cons] at h
   cases hx:x==n with
   |true =>
    rw [hx] at h
    have hf:k0=.free:=by
     have:=(Bool.and_eq_true_iff.mp (Bool.and_eq_true_iff.mp hc).1).1
     simpa using this
    refine .inr ⟨by simpa using h.symm,by simp [List.lookup_cons,hx,hf]⟩
   |false =>
    rw [hx] at h
    rcases ih h with z|⟨z1,z2⟩
    ·exact .inl (by simp [List.lookup_cons,hx,z])
    ·exact .inr ⟨z1,by simp [List.lookup_cons,hx,z2]⟩
  ·simp only [if_neg hc,List.lookup_cons] at h
   cases hx:x==n with
   |true=>rw [hx] at h;exact .inl (by simpa [List.lookup_cons,hx] using h)
   |false =>
    rw [hx] at h
    rcases ih h with z|⟨z1,z2⟩
    ·exact .inl (by simp [List.lookup_cons,hx,z])
    ·exact .inr ⟨z1,by simp [List.lookup_cons,hx,z2]⟩
noncomputable def cxC (X:Cx) (N:List Str) (scope:Scope) (C:Addr) (s:Shared) (H:Hp) (ex:List Addr):Cx where
 prog:=X.prog
 w:=X.w
 K:=X.K
 mg:=X.mg
 base:=X.base
 A:=X.A
 N:=N
 s₀:=s
 H₀:=H
 env:=compEnvC scope (bf X.env scope.names []) C X.env
 outer:=X.stack
 stack:=X.stack
 ex:=ex
 fn:=fun _=>false
 calm:=X.calm
 pn:=[]
 xe:=fun _ _=>False
noncomputable def cR (D N:List Str):Prop:=D.length=N.length∧∀ (i:Nat) (y:Str),D[i]?=some y→N[i]?=some y∨y="."∨y=".."
theorem cR.refl (N:List Str):cR N N:=⟨rfl,fun _ _ h=>.inl h⟩
theorem cR.set {D N:List Str} (h:cR D N) (j:Nat) {m:Str} (hm:m="."∨m=".."):cR (D.set j m) N:=by
 refine ⟨by rw [List.length_set];exact h.1,fun i y e=>?_⟩
 by_cases hj:j=i
 ·subst hj
  rw [List.getElem?_set,if_pos rfl] at e
  split at e
  ·cases e
   exact .inr hm
  ·cases e
 ·rw [List.getElem?_set_ne hj] at e
  exact h.2 i y e
structure cS (X:Cx) (N own:List Str) (scope:Scope):Prop where
 kind:scope.kind=.function
 nocell:∀ y∈scope.names,y.2≠.cell
 names:∀ y∈scope.names,y.2=.local→scope.names.lookup y.1=some .local
 nd:N.Nodup
 pre:N.take own.length=own
 loc:∀ y∈scope.names,y.2=.local→y.1∈own∨y.1=".0"
 no0:(".0":Str)∉N
 tail:cR (N.drop own.length) X.N
 free:∀ y∈scope.names,y.2=.free→X.env.scope.names.lookup y.1=some .cell∨X.env.scope.names.lookup y.1=some .free
 dot:∀ y∈scope.names,y.1≠"."∧y.1≠".."
theorem mem_lookup {names:List (Str×NameKind)}{x:Str}{k:NameKind} (h:names.lookup x=some k):(x,k)∈names:=PySem.mem_of_lookup h
theorem cS.cells {X:Cx}{N own:List Str}{scope:Scope} (S:cS X N own scope) (ok:X.Ok):∀ y∈scope.names,y.2=.free→∃ a,X.env.cells.lookup y.1=some a:=fun y hy hf=>by
 rcases S.free y hy hf with z|z
 ·exact ok.has y.1 (.inl z)
 ·exact ok.has y.1 (.inr z)
theorem rR {X:Cx}{pins:List (Addr×Obj)}{σ:St}{H:Hp}{s s4:Shared}{N own:List Str}{scope:Scope}{C:Addr}{ex:List Addr} (S:cS X N own scope) (I:Inv X pins σ H s)
  (hC:s.heap.objs.size≤C) (hos:s4.os=s.os) (hg:s4.gens=s.gens) (keep:∀ b o,s.heap.get? b=some o→s4.heap.get? b=some o) (ns:∃ m,s4.heap.Ns C m)
  (hex:∀ b∈ex,hU X pins H b∧b<s.heap.objs.size):Inv (cxC X N scope C s H ex) [] (List.replicate own.length none++σ) H s4:=by
 obtain ⟨m0,hm0⟩:=ns
 have sub:=dq (env:=X.env) scope.names [] (fun n c e=>by simp at e)
 have exlt:∀ b∈ex,b<C:=fun b hb=>Nat.lt_of_lt_of_le (hex b hb).2 hC
 have tl:own.length≤N.length:=by have:=congrArg List.length S.pre;rw [List.length_take] at this;omega
 refine ⟨⟨I.ok.mod,?_,I.ok.glob,I.ok.blt,hC,fun x y c h1 h2=>I.ok.inj x y c (sub x c h1) (sub y c h2),fun x hx=>?_,fun x c h _=>absurd (show false=true from h) (by decide),I.ok.hd,I.ok.frames,.inl rfl,fun b hb=>⟨Nat.ne_of_lt (exlt b hb),fun x c e=>?_⟩,fun b o e=>I.bs b o e,?_,fun b o e hb=>?_,fun b hb=>?_,I.stack,I.pd⟩,
  hos,(by rw [hg];exact I.bare),Un.kept keep,⟨m0,hm0,fun i y v h1 h2 h3=>?_⟩,fun x c e=>?_,I.hok.fresh hC,fun x c e=>I.freeC x c (sub x c e),fun p hp=>absurd (show p∈([]:List (Addr×Obj)) from hp) (by simp),I.hok.kept keep,?_⟩
 ·show (relabel scope X.env).kind=.function
  exact S.kind
 ·
  have hx':(relabel scope X.env).names.lookup x=some .cell∨(relabel scope X.env).names.lookup x=some .free:=hx
  have hfree:scope.names.lookup x=some .free:=by
   rcases hx' with z|z
   ·rcases bx z with q|⟨_,q⟩
    ·exact absurd rfl (S.nocell _ (mem_lookup q))
    ·exact q
   ·rcases bx z with q|⟨q,_⟩
    ·exact q
    ·cases q
  obtain ⟨a,ha⟩:=S.cells I.ok (x,.free) (mem_lookup hfree) rfl
  exact ⟨a,fe ha scope.names [] (mem_lookup hfree)⟩
 ·exact (hex b hb).1.2.2.2.2.1 x c (sub x c e)
 ·exact Nat.le_trans I.ok.bsz I.sz
 ·obtain ⟨f0,f1,f2,f3,f4,f5⟩:=(hex b hb).1
  rcases f3 with z|z
  ·exact I.ok.noex b o e z
  ·exact absurd (Nat.lt_of_lt_of_le (Heap.lt_size e) (Nat.le_trans I.ok.bsz z)) (Nat.lt_irrefl _)
 ·intro hb'
  obtain ⟨f0,f1,f2,f3,f4,f5⟩:=(hex b hb).1
  rcases List.mem_cons.mp (I.g0 b hb') with z|z
  ·exact f1 z
  ·exact f2 z
 ·
  have hi:own.length≤i:=by
   by_cases hi:i<own.length
   ·rw [List.getElem?_append_left (by simpa using hi),List.getElem?_replicate] at h2
    split at h2 <;> cases h2
   ·omega
  rw [List.getElem?_append_right (by simpa using hi),List.length_replicate] at h2
  have hNd:(N.drop own.length)[i - own.length]?=some y:=by
   rw [List.getElem?_drop]
   have e:own.length+(i - own.length)=i:=by omega
   rw [e];exact h1
  have h3':(relabel scope X.env).names.lookup y=some .local∨(relabel scope X.env).names.lookup y=some .cell∨(relabel scope X.env).names.lookup y=some .free:=h3
  have hfree:scope.names.lookup y=some .free:=by
   rcases h3' with z|z|z
   ·rcases bx z with q|⟨q,_⟩
    ·exfalso
     have hmem:y∈own:=by
      rcases S.loc (y,.local) (mem_lookup q) rfl with z|z
      ·exact z
      ·have z':y=".0":=z
       exact absurd (List.mem_of_getElem? h1) (by rw [z'];exact S.no0)
     obtain ⟨j,hj,ej⟩:=List.getElem_of_mem hmem
     have hj':N[j]?=some y:=by
      have e1:(N.take own.length)[j]?=some y:=by rw [S.pre,List.getElem?_eq_getElem hj,ej]
      rw [List.getElem?_take_of_lt hj] at e1
      exact e1
     have:=g_ S.nd hj' h1
     omega
    ·cases q
   ·rcases bx z with q|⟨_,q⟩
    ·exact absurd rfl (S.nocell _ (mem_lookup q))
    ·exact q
   ·rcases bx z with q|⟨q,_⟩
    ·exact q
    ·cases q
  have hX:X.N[i - own.length]?=some y:=by
   rcases S.tail.2 _ _ hNd with e|e|e
   ·exact e
   ·exact absurd e (S.dot _ (mem_lookup hfree)).1
   ·exact absurd e (S.dot _ (mem_lookup hfree)).2
  obtain ⟨m,hn,hl⟩:=I.loc
  have hv:X.env.scope.names.lookup y=some .cell∨X.env.scope.names.lookup y=some .free:=S.free (y,.free) (mem_lookup hfree) rfl
  obtain ⟨u,r,l⟩:=hl _ y v hX h2 (.inr hv)
  refine ⟨u,r,?_⟩
  rcases l with ⟨k,_⟩|⟨k,c,e,z⟩
  ·have k':X.env.scope.names.lookup y=some .local:=k
   rcases hv with q|q <;> (rw [k'] at q;cases q)
  ·have hk:(relabel scope X.env).names.lookup y=some .cell∨(relabel scope X.env).names.lookup y=some .free:=by
    rcases h3' with q|q|q
    ·rcases bx q with q'|⟨q',_⟩
     ·rw [hfree] at q';cases q'
     ·cases q'
    ·exact .inl q
    ·exact .inr q
   obtain ⟨o,ho,hd⟩:=z
   exact .inr ⟨hk,c,fe e scope.names [] (mem_lookup hfree),o,keep c o ho,hd⟩
 ·obtain ⟨v,o,ho,hd⟩:=I.cell x c (sub x c e)
  exact ⟨v,o,keep c o ho,hd⟩
 ·rw [List.length_append,List.length_replicate,I.len]
  have e:N.length=own.length+(N.drop own.length).length:=by rw [List.length_drop];omega
  show _=N.length
  rw [e,S.tail.1]
theorem l8 {X:Cx}{pins pins':List (Addr×Obj)}{σ σ':St}{H H4:Hp}{s s4:Shared}{N:List Str}{scope:Scope}{C D:Addr}{ex:List Addr}{ys:List V}{its:List Value}{h':Heap} (I:Inv X pins σ H s)
  (I4:Inv (cxC X N scope C s H ex) pins' σ' H4 s4) (hD:s.heap.objs.size≤D) (hC:s.heap.objs.size≤C) (hDC:D≠C) (nD:H4 D=none) (rv:Vals ys its) (pl:s4.heap.PlainList D its.toArray) (hl:ys.length≤sizeLine)
  (sb:Heap.SameBut C s4.heap h') (hex:∀ b∈ex,hU X pins H b):Inv X pins σ (upd H4 D (.lst ys)) { s4 with heap:=h' }:=by
 have nC:H4 C=none:=I4.free
 have lt:∀ {b:Addr} {o:Obj},s.heap.get? b=some o→b≠C∧b≠D:=fun e=>⟨Nat.ne_of_lt (Nat.lt_of_lt_of_le (Heap.lt_size e) hC),Nat.ne_of_lt (Nat.lt_of_lt_of_le (Heap.lt_size e) hD)⟩
 refine I.yk (s':={ s4 with heap:=h' }) (ch:=ex) I4.os ⟨fun b o e n hb hx=>?_,fun b o e n hb hx=>?_,fun b o e n hx=>?_,fun b o e hx=>?_,fun b xs e=>?_,fun b o u e=>?_,fun b ps e=>?_⟩ (fun a o e=>?_) I4.bare fun b hb=>?_
 ·exact (sb.2 b (lt e).1).trans (I4.base.keep b o e n hb hx)
 ·obtain ⟨sl,q⟩:=I4.base.slot b o e n hb hx
  exact ⟨sl,(sb.2 b (lt e).1).trans q⟩
 ·rw [aI (lt e).2];exact I4.base.free b o e n hx
 ·obtain ⟨o',q⟩:=I4.base.there b o e hx
  exact ⟨o',(sb.2 b (lt e).1).trans q⟩
 ·have q:=I4.base.tups b xs e
  rw [aI (bh q nD)];exact q
 ·have q:=I4.base.frzs b o u e
  rw [aI (bh q nD)];exact q
 ·obtain ⟨more,q⟩:=I4.base.tbls b ps e
  exact ⟨more,by rw [aI (bh q nD)];exact q⟩
 ·by_cases ha:a=D
  ·subst ha
   rw [aR] at e;cases e
   obtain ⟨n,q⟩:=pl
   exact ⟨hl,its,n,rv,(sb.2 _ hDC).trans q⟩
  ·rw [aI ha] at e
   refine (I4.hok a o e).qu (fun c v hc q=>(sb.2 c ?_).trans q) (fun c q=>?_) fun c xs q=>?_
   ·rintro rfl
    rcases hc with z|z
    ·rw [←z,nC] at e;cases e
    ·rw [nC] at z;cases z
   ·rw [aI (bh q nD)];exact q
   ·rw [aI (bh q nD)];exact q
 ·obtain ⟨f0,f1,f2,f3,f4,f5⟩:=hex b hb
  exact ⟨f3,f1,f4,f5⟩
end L2
namespace L2
open PySem PySem.Spec PyProof.Rows
section
variable {prog : Program} {w : World} {A : Around} {E : Value → Shared → Prop} {R : Result → Shared → Prop} {s : Shared}
theorem kB {elt target iter:Expr}{ifs:List Expr}{scope:Scope}{pos:Pos}{it acc:Value}{env:Env} (I:Nat→Shared→Prop)
  (turn:∀ n s,I n s→wpAny (model prog w) A (pyNext it) (fun r s₁=>match r with
   |none=>R (.ok .next) s₁
   |some v=>wpAny (model prog w) A (letOwnedTupleGo target it v) (fun _ s₁=>wpAny (model prog w) A (assign target env v) (fun _ s₂ =>
     wpAny (model prog w) A (forIn ifs true fun c r=>if r=true then do let ok ←isTrue c env (eval c env);pure (ForInStep.yield ok) else pure (ForInStep.yield r)) (fun ok s₃ =>
      if ok=true then wpAny (model prog w) A (eval elt env) (fun x s₄ =>
       wpAny (model prog w) A (call (.builtin "list.append") [acc,x]) (fun _ s₅=>∃ m,m<n∧I m s₅) (notedBy (model prog w) A env fun e s'=>R (.error e) s') s₄) (notedBy (model prog w) A env fun e s'=>R (.error e) s') s₃
      else ∃ m,m<n∧I m s₃) (notedBy (model prog w) A env fun e s'=>R (.error e) s') s₂) (notedBy (model prog w) A env fun e s'=>R (.error e) s') s₁) (notedBy (model prog w) A env fun e s'=>R (.error e) s') s₁) (notedBy (model prog w) A env fun e s'=>R (.error e) s') s)
  (n:Nat) (h:I n s) :
  codeAny (model prog w) A (.compLoop (.ListComp elt [⟨target,iter,ifs,0⟩] scope pos) 0 it acc env) R s:=by
 refine codeAny_loop rfl I (fun n s hI=>?_) n h
 show wpAny _ A ((compTurn (.ListComp elt [⟨target,iter,ifs,0⟩] scope pos) 0 it acc env).onRaise (fun x=>do noteFrame x env;theTreesLotGoes x)) _ _ s
 refine wpAny_noted ?_
 rw [compTurn_list]
 refine wpAny_bind (wpAny_standAt (wpAny_bind (wpAny_mono (turn n s hI) (fun r s₁ h₁=>?_) fun _ _ h'=>h')))
 cases r with
 |none=>exact wpAny_pure h₁
 |some v =>
  refine wpAny_bind (wpAny_mono h₁ (fun _ s₁' h₁'=>?_) fun _ _ h'=>h')
  refine wpAny_bind (wpAny_mono h₁' (fun _ s₂ h₂=>wpAny_bind (wpAny_mono h₂ (fun ok s₃ h₃=>?_) fun _ _ h'=>h')) fun _ _ h'=>h')
  cases ok with
  |false=>exact wpAny_pure ⟨rfl,h₃⟩
  |true =>
   exact wpAny_bind (wpAny_bind (wpAny_mono h₃ (fun x s₄ h₄=>wpAny_bind (wpAny_mono h₄ (fun _ s₅ h₅=>wpAny_pure (wpAny_pure ⟨rfl,h₅⟩)) fun _ _ h'=>h')) fun _ _ h'=>h'))
end
noncomputable def PIf (X:Cx) (ifs:List Expr) (t:TT):Prop :=
 ∀ (pins:List (Addr×Obj)) (s:Shared) (σ:St) (H:Hp) (Q:Bool→Hp→Prop),Inv X pins σ H s→t σ H Q →
  wpAny (model X.prog X.w) X.A (forIn ifs true fun c r=>if r=true then do let ok ←isTrue c X.env (eval c X.env);pure (ForInStep.yield ok) else pure (ForInStep.yield r)) (TP X pins σ Q) X.xe s
noncomputable def Ay:TT:=fun _ H Q=>Q true H
theorem pA {X:Cx}:PIf X [] Ay:=fun _ _ _ H _ I h=>wpAny_tests_nil ⟨H,I,h⟩
theorem pB {X:Cx}{c:Expr}{t:TT} (h:PT X c t):PIf X [c] t:=fun pins s σ H Q I q=>wpAny_tests_one (h pins s σ H Q I q)
noncomputable def rS (k : Nat) (J : It) (g : TG) (tt : TT) (te : TE) (Q : VK) (σ : St) (H1 : Hp) : Prop :=
  ∃ W : Nat → Nat → List V → Hp → Prop, (∃ m, W 0 m [] H1) ∧ ∀ i m ys H, W i m ys H → ys.length ≤ sizeLine ∧
    ((J.stop i H ∧ ∀ p, H p = none → Q (.ref p) (upd H p (.lst ys))) ∨
     (J.go i H ∧ ∃ NN : List V → Hp → Prop, (∀ ys' H', NN ys' H' → ∃ m', m' < m ∧ W (i + 1) m' ys' H') ∧ ∀ x H', J.yld i H x H' → g x (List.replicate k none ++ σ) H' fun σ2 H2 => ∃ own : St, own.length = k ∧ σ2 = own ++ σ ∧
        tt σ2 H2 fun b H3 => if b = true then te σ2 H3 fun y H4 => NN (ys ++ [y]) H4 else NN ys H3))
noncomputable def rT (k:Nat) (wi:TI) (g:TG) (tt:TT) (te:TE):TE:=fun σ H Q=>wi σ H fun J H1=>rS k J g tt te Q σ H1
section
variable {X : Cx} {N own : List Str} {scope : Scope} {tg iter elt : Expr} {ifs : List Expr} {wi : TI} {g : TG} {tt : TT} {te : TE} {pos : Pos}
theorem rU {pins:List (Addr×Obj)}{σ:St}{H:Hp}{s s4:Shared}{C D it:Addr}{fp:List Addr}{tn:Nat→Heap→Prop}{J:It}{Q:VK}{R:Result→Shared→Prop}
  (S:cS X N own scope) (hc:X.calm=true) (hg:∀ C s H ex,PG (cxC X N scope C s H ex) tg g) (hf:∀ C s H ex,PIf (cxC X N scope C s H ex) ifs tt) (he:∀ C s H ex,PE (cxC X N scope C s H ex) elt te)
  (I:Inv X pins σ H s) (T:Turn X.prog X.w X.K tg J fp it tn) (st:tn 0 s.heap) (f2:∀ b∈fp,hU X pins H b) (W:rS own.length J g tt te Q σ H)
  (hD:@Eq Nat D s.heap.objs.size) (hC:@Eq Nat C (s.heap.objs.size+1)) (hos:s4.os=s.os) (hgs:s4.gens=s.gens) (keep:∀ b o,s.heap.get? b=some o→s4.heap.get? b=some o) (ns:∃ m,s4.heap.Ns C m) (pl:s4.heap.PlainList D #[])
  (fin:∀ s5 H5 ys its,Inv (cxC X N scope C s H fp) [] (List.replicate own.length none++σ) H5 s5→H5 D=none→Vals ys its→s5.heap.PlainList D its.toArray→ys.length≤sizeLine→(∀ p,H5 p=none→Q (.ref p) (upd H5 p (.lst ys)))→R (.ok .next) s5) :
  codeAny (model X.prog X.w) X.A (.compStart (.ListComp elt [⟨tg,iter,ifs,0⟩] scope pos) 0 (.ref it) (.ref D) (compEnvC scope (bf X.env scope.names []) C X.env)) R s4:=by
 have fplt:∀ b∈fp,@LT.lt Nat _ b s.heap.objs.size:=fun b hb=>by
  obtain ⟨o,e,_⟩:=T.obj 0 s.heap st b hb
  exact Heap.lt_size e
 have I4:Inv (cxC X N scope C s H fp) [] (List.replicate own.length none++σ) H s4:=rR S I (by omega) hos hgs keep ns fun b hb=>⟨f2 b hb,fplt b hb⟩
 have st4:tn 0 s4.heap:=T.keep 0 s.heap s4.heap st fun b _ o e=>keep b o e
 have nD:H D=none:=I.hok.fresh (by omega)
 obtain ⟨W,⟨m0,w0⟩,step⟩:=W
 generalize hX':cxC X N scope C s H fp=X' at I4 fin
 have eP:X'.prog=X.prog:=by rw [←hX'];rfl
 have ew:X'.w=X.w:=by rw [←hX'];rfl
 have eK:X'.K=X.K:=by rw [←hX'];rfl
 have ec:X'.calm=true:=by rw [←hX'];exact hc
 have eA:X'.A=X.A:=by rw [←hX'];rfl
 have ee:X'.env=compEnvC scope (bf X.env scope.names []) C X.env:=by rw [←hX'];rfl
 have exe:X'.xe=fun _ _=>False:=by rw [←hX'];rfl
 have el:X'.env.locals=C:=by rw [ee];rfl
 have hg':PG X' tg g:=by rw [←hX'];exact hg _ _ _ _
 have hf':PIf X' ifs tt:=by rw [←hX'];exact hf _ _ _ _
 have he':PE X' elt te:=by rw [←hX'];exact he _ _ _ _
 have s0:X'.s₀=s:=by rw [←hX'];rfl
 have pn0:X'.pn=[]:=by rw [←hX'];rfl
 have fpC:∀ {H':Hp} {o:Obj},(∀ b∈fp,H' b=none)→∀ b∈fp,hU X' [(D,o)] H' b:=fun {H' o} hn b hb=>by
  have ex:X'.ex=fp:=by rw [←hX'];rfl
  refine ⟨hn b hb,?_,?_,.inl (by rw [ex];exact hb),fun x c e=>?_,fun p hp=>?_⟩
  ·rw [el];have:=fplt b hb;exact Nat.ne_of_lt (by show @LT.lt Nat _ b C;omega)
  ·have e1:X'.fs=frs X.stack:=by rw [←hX'];rfl
   rw [e1]
   intro z
   obtain ⟨f0,f1,f2',f3,f4,f5⟩:=f2 b hb
   rcases List.mem_cons.mp (I.g0 b z) with q|q
   ·exact f1 q
   ·exact f2' q
  ·have e1:X'.env.cells=bf X.env scope.names []:=by rw [ee];rfl
   rw [e1] at e
   exact (f2 b hb).2.2.2.2.1 x c (dq scope.names [] (fun n c e=>by simp at e) x c e)
  ·rw [pn0,List.nil_append] at hp
   have:p=(D,o):=by simpa using hp
   subst this
   have:=fplt b hb
   exact Nat.ne_of_gt (by show @LT.lt Nat _ b D;omega)
 have pinD:∀ {σ':St} {H':Hp} {s':Shared} {o:Obj},Inv X' [] σ' H' s'→H' D=none→s'.heap.get? D=some o→(∀ v,o.data≠.cell v)→Inv X' [(D,o)] σ' H' s':=fun {σ' H' s' o} I' n e d =>
  I'.eC fun p hp=>by
   have:p=(D,o):=by simpa using hp
   subst this
   refine ⟨e,n,?_,?_,d⟩
   ·rw [el];exact Nat.ne_of_lt (by show @LT.lt Nat _ D C;omega)
   ·have e1:X'.fs=frs X.stack:=by rw [←hX'];rfl
    rw [e1]
    intro z
    have zz:(D:Addr)∈frs X.stack:=z
    rcases List.mem_cons.mp (I.g0 D zz) with q|q
    ·have:=I.lt;rw [←q] at this;exact absurd this (by show ¬ @LT.lt Nat _ D s.heap.objs.size;omega)
    ·exact I.yj (a:=D) (by omega) q
 have start:∀ s':Shared,s'=s4→codeAny (model X.prog X.w) X.A (.compLoop (.ListComp elt [⟨tg,iter,ifs,0⟩] scope pos) 0 (.ref it) (.ref D) (compEnvC scope (bf X.env scope.names []) C X.env)) R s':=by
  rintro s' rfl
  refine kB (fun n s'=>∃ i ys its H',Inv X' [] (List.replicate own.length none++σ) H' s'∧tn i s'.heap∧(∀ b∈fp,H' b=none)∧H' D=none∧Vals ys its∧s'.heap.PlainList D its.toArray∧W i n ys H') ?_ m0
   ⟨0,[],[],H,I4,st4,fun b hb=>(f2 b hb).1,nD,.nil,pl,w0⟩
  rintro n s3 ⟨i,ys,its,H3,I3,st3,fr3,nD3,rv3,⟨nn,pl3⟩,w3⟩
  obtain ⟨hlen,hstep⟩:=step i n ys H3 w3
  have IP:=pinD I3 nD3 pl3 (fun v z=>by have z':Data.seq _ _=Data.cell v:=z;cases z')
  rcases hstep with ⟨stop,qn⟩|⟨go,NN,hNN,turn⟩
  ·have d:=T.done X' eP ew eK ec i _ s3 _ H3 (notedBy (model X.prog X.w) X.A (compEnvC scope (bf X.env scope.names []) C X.env) fun e s'=>R (.error e) s') IP (fpC fr3) st3 stop
   rw [eA] at d
   refine thn d fun r s4 ⟨hr,I5⟩=>?_
   subst hr
   have e5:=(I5.pin (D,({ cls:=.type "list",data:=.seq its.toArray nn }:Obj)) (by rw [pn0];simp)).1
   exact fin s4 H3 ys its (I5.eC fun p hp=>by cases hp) nD3 rv3 ⟨nn,e5⟩ hlen qn
  ·have d:=T.item X' eP ew eK ec i _ s3 _ H3 (notedBy (model X.prog X.w) X.A (compEnvC scope (bf X.env scope.names []) C X.env) fun e s'=>R (.error e) s') IP (fpC fr3) st3 go
   rw [eA] at d
   refine thn d fun r s4 ⟨u,hr,h4⟩=>?_
   subst hr
   refine thn h4 fun _ s5 ⟨x,H5,I5,r5,y5,st5,fr5⟩=>?_
   have nD5:H5 D=none:=(I5.pin (D,({ cls:=.type "list",data:=.seq its.toArray nn }:Obj)) (by rw [pn0];simp)).2.1
   have I5':=I5.pinned (fpC fr5) (T.obj _ _ st5)
   have a6:=hg' _ s5 _ H5 x u _ I5' r5 (turn x H5 y5)
   rw [eP,ew,eA,ee,exe] at a6
   refine wpAny_mono a6 (fun _ s6 ⟨σ6,H6,I6,q6⟩=>?_) fun _ _ z=>False.elim z
   obtain ⟨ow,how,rfl,q6⟩:=q6
   have a7:=hf' _ s6 _ H6 _ I6 q6
   rw [eP,ew,eA,ee,exe] at a7
   refine wpAny_mono a7 (fun b s7 ⟨H7,I7,q7⟩=>?_) fun _ _ z=>False.elim z
   have back:∀ {s8:Shared} {H8:Hp} {ys':List V} {its':List Value} {nn':Nat},Inv X' [] (ow++σ) H8 s8→tn (i+1) s8.heap→(∀ b∈fp,H8 b=none)→H8 D=none→Vals ys' its'→s8.heap.PlainList D its'.toArray→(∃ m',m'<n∧W (i+1) m' ys' H8) →
     ∃ m,m<n∧∃ i ys its H',Inv X' [] (List.replicate own.length none++σ) H' s8∧tn i s8.heap∧(∀ b∈fp,H' b=none)∧H' D=none∧Vals ys its∧s8.heap.PlainList D its.toArray∧W i m ys H':=fun {s8 H8 ys' its' nn'} I8 st8 fr8 n8 rv8 pl8 w8=>by
    obtain ⟨m',hm,w8⟩:=w8
    refine ⟨m',hm,i+1,ys',its',H8,I8.weak (by simp [how]) (fun j v e=>?_),st8,fr8,n8,rv8,pl8,w8⟩
    by_cases hj:j<own.length
    ·rw [List.getElem?_append_left (by simpa using hj),List.getElem?_replicate] at e
     split at e <;> cases e
    ·rw [List.getElem?_append_right (by simpa using (Nat.not_lt.mp hj)),List.length_replicate] at e
     rw [List.getElem?_append_right (by omega),how]
     exact e
   have tell:∀ {σ':St} {H8:Hp} {s8:Shared},Inv X' ([(D,({ cls:=.type "list",data:=.seq its.toArray nn }:Obj))]++hV fp s5.heap) σ' H8 s8→s8.heap.get? D=some { cls:=.type "list",data:=.seq its.toArray nn }∧H8 D=none∧tn (i+1) s8.heap∧∀ b∈fp,H8 b=none:=fun {σ' H8 s8} I8=>by
    have p1:=I8.pin (D,({ cls:=.type "list",data:=.seq its.toArray nn }:Obj)) (by rw [pn0];simp)
    refine ⟨p1.1,p1.2.1,T.keep _ _ _ st5 fun b hb o e=>(I8.pin (b,o) (List.mem_append_right _ (List.mem_append_right _ (dn hb e)))).1,fun b hb=>?_⟩
    obtain ⟨o,e,d⟩:=T.obj _ _ st5 b hb
    exact (I8.pin (b,o) (List.mem_append_right _ (List.mem_append_right _ (dn hb e)))).2.1
   cases b with
   |false =>
    rw [if_neg Bool.false_ne_true] at q7 ⊢
    obtain ⟨p1,p2,p3,p4⟩:=tell I7
    exact back (nn':=0) (I7.eC fun p hp=>by cases hp) p3 p4 p2 rv3 ⟨nn,p1⟩ (hNN _ _ q7)
   |true =>
    rw [if_pos rfl] at q7 ⊢
    have a8:=he' _ s7 _ H7 _ I7 q7
    rw [eP,ew,eA,ee,exe] at a8
    refine wpAny_mono a8 (fun y s8 ⟨yv,H8,I8,r8,q8⟩=>?_) fun _ _ z=>False.elim z
    obtain ⟨p1,p2,p3,p4⟩:=tell I8
    have hsz:its.toArray.size≤sizeLine:=by rw [List.size_toArray,←rv3.length];exact hlen
    refine wpAny_list_append_plain (hsz:=hsz) ⟨nn,p1⟩ fun h9 pl9 sb9=>?_
    have I8':Inv X' [] (ow++σ) H8 s8:=I8.eC fun p hp=>by cases hp
    have ltC:∀ x c,X'.env.cells.lookup x=some c→c≠D:=fun x c e=>by
     have e1:X'.env.cells=bf X.env scope.names []:=by rw [ee];rfl
     rw [e1] at e
     have q:=dq scope.names [] (fun n c e=>by simp at e) x c e
     obtain ⟨v,z⟩:=I.cell x c q
     have:@LT.lt Nat _ c s.heap.objs.size:=z.lt
     exact Nat.ne_of_lt (by show @LT.lt Nat _ c D;omega)
    have I9:Inv X' [] (ow++σ) H8 { s8 with heap:=h9,toks:=s8.toks }:=I8'.turned (it:=D) (fun b o hb e=>(sb9.2 b hb).trans e) p2 (by rw [el];exact Nat.ne_of_lt (by show @LT.lt Nat _ D C;omega)) (.inr (by rw [s0];show @LE.le Nat _ s.heap.objs.size D;omega)) ltC (fun p hp=>by rw [pn0] at hp;cases hp)
    have pe9:(its++[y]).toArray=its.toArray.push y:=by simp
    refine back (nn':=0) (s8:={ s8 with heap:=h9,toks:=s8.toks }) I9 (T.keep _ _ _ p3 fun b hb o e=>(sb9.2 b ?_).trans e) p4 p2 (rv3.append (.cons r8 .nil)) (by rw [pe9];exact pl9) (hNN _ _ q8)
    have:=fplt b hb
    exact Nat.ne_of_lt (by show @LT.lt Nat _ b D;omega)
 exact codeAny_compStart_list (start _ rfl) (T.self _ _ _ _ _ st4 (start _ rfl))
theorem ij {pins:List (Addr×Obj)}{σ:St}{H:Hp}{s:Shared}{Q:VK}{RR:Value→Addr→Result→Shared→Prop}{E:Value→Shared→Prop}
  (S:cS X N own scope) (hc:X.calm=true) (hg:∀ C s H ex,PG (cxC X N scope C s H ex) tg g) (hf:∀ C s H ex,PIf (cxC X N scope C s H ex) ifs tt) (he:∀ C s H ex,PE (cxC X N scope C s H ex) elt te)
  {it:Addr} {fp:List Addr} {tn:Nat→Heap→Prop} {J:It} (I:Inv X pins σ H s) (T:Turn X.prog X.w X.K tg J fp it tn) (st:tn 0 s.heap) (f2:∀ b∈fp,hU X pins H b) (W:rS own.length J g tt te Q σ H)
  (fin:∀ D C s5 H5 ys its,@Eq Nat D s.heap.objs.size→@Eq Nat C (s.heap.objs.size+1)→Inv (cxC X N scope C s H fp) [] (List.replicate own.length none++σ) H5 s5→H5 D=none→Vals ys its→s5.heap.PlainList D its.toArray→ys.length≤sizeLine→(∀ p,H5 p=none→Q (.ref p) (upd H5 p (.lst ys)))→RR (.ref D) C (.ok .next) s5) :
  wpAny (model X.prog X.w) X.A (newList []) (fun acc s₃=>wpAny (model X.prog X.w) X.A (newFunctionEnv scope X.env.globals (bf X.env scope.names []) [] X.env.qual none .none (some X.env)) (fun cenv s₄ =>
   codeAny (model X.prog X.w) X.A (.compStart (.ListComp elt [⟨tg,iter,ifs,0⟩] scope pos) 0 (.ref it) acc { cenv with scope:=relabel scope X.env }) (RR acc cenv.locals) s₄) E s₃) E s:=by
 refine wpAny_newObj_type (wpAny_newFunctionEnv S.nocell (by intro y hy;simp at hy) (fun h₁ hns₁ hsb₁=>?_) S.kind)
 dsimp only at hns₁ hsb₁ ⊢
 generalize hH2:s.heap.push { cls:=.type "list",dict:=none,data:=.seq ([]:List Value).toArray }=H2 at hns₁ hsb₁ ⊢
 have hC:H2.objs.size=s.heap.objs.size+1:=by rw [←hH2,Heap.size_push]
 have hDC:s.heap.objs.size≠H2.objs.size:=by rw [hC];exact Nat.ne_of_lt (Nat.lt_succ_self _)
 have below:∀ b:Addr,b<s.heap.objs.size→b≠H2.objs.size:=fun b hb=>Nat.ne_of_lt (by have hb':@LT.lt Nat _ b s.heap.objs.size:=hb;show @LT.lt Nat _ b H2.objs.size;omega)
 have old:∀ b o,s.heap.get? b=some o→h₁.get? b=some o:=fun b o e=>hsb₁.extBut b o (below b (Heap.lt_size e)) (Heap.get?_push_of_some _ (hH2 ▸ Heap.get?_push_of_some _ e))
 have hacc:h₁.PlainList s.heap.objs.size #[]:=⟨_,hsb₁.extBut _ _ hDC (Heap.get?_push_of_some _ (hH2 ▸ Heap.get?_push_size _ rfl))⟩
 exact rU (s:=s) (s4:={ s with heap:=h₁,toks:=s.toks+([]:List (Str×Value)).length }) (C:=H2.objs.size) (D:=s.heap.objs.size) S hc hg hf he I T st f2 W rfl hC rfl rfl old ⟨_,hns₁⟩ hacc
  fun s5 H5 ys its I5 n5 rv5 pl5 hl5 q5=>fin _ _ s5 H5 ys its rfl hC I5 n5 rv5 pl5 hl5 q5
theorem uE (S:cS X N own scope) (hc:X.calm=true) (hi:PI X tg iter wi) (hg:∀ C s H ex,PG (cxC X N scope C s H ex) tg g) (hf:∀ C s H ex,PIf (cxC X N scope C s H ex) ifs tt) (he:∀ C s H ex,PE (cxC X N scope C s H ex) elt te)
  (hs:∀ x,foldedSetIterable iter X.env x=pure x:=by intro _;rfl):PE X (.ListComp elt [⟨tg,iter,ifs,0⟩] scope pos) (rT own.length wi g tt te):=by
 intro pins s σ H Q I h
 rw [eval_ListComp]
 refine wpAny_comprehension_free (use:=none) (cl:=bf X.env scope.names []) rfl hs (c6 (S.cells I.ok)) S.kind S.names ?_
 refine thn (hi pins s σ H _ I h) fun v s1 h1=>thn h1 fun itv s2 h2=>?_
 obtain ⟨it,fp,tn,J,H2,e,I2,T,st2,f2,W⟩:=h2
 subst e
 refine ij (RR:=fun acc C=>compPost (model X.prog X.w) X.A X.xe none (EP X pins σ Q) acc C) S hc hg hf he I2 T st2 f2 W ?_
 intro D C s5 H5 ys its hD hC I5 n5 rv5 pl5 hl5 q5
 obtain ⟨m5,hn5,_⟩:=I5.loc
 exact ⟨m5,hn5,fun h' sb=>⟨.ref D,_,l8 I2 I5 (Nat.le_of_eq hD.symm) (by show @LE.le Nat _ s2.heap.objs.size C;omega) (Nat.ne_of_lt (by show @LT.lt Nat _ D C;omega)) n5 rv5 pl5 hl5 sb f2,rfl,q5 D n5⟩⟩
theorem uF {i:Nat}{y:Str}{py spos:Pos} (S:cS X N own scope) (hc:X.calm=true) (hN:X.N.Nodup) (hiN:X.N[i]?=some y) (hy:X.env.scope.names.lookup y=some .local)
  (hi:PI X tg iter wi) (hg:∀ C s H ex,PG (cxC X N scope C s H ex) tg g) (hf:∀ C s H ex,PIf (cxC X N scope C s H ex) ifs tt) (he:∀ C s H ex,PE (cxC X N scope C s H ex) elt te)
  (hsw:swapsWith (.ListComp elt [⟨tg,iter,ifs,0⟩] scope pos) (some (.Name y py)) spos.line X.env=pure true:=by rfl)
  (hs:∀ x,foldedSetIterable iter X.env x=pure x:=by intro _;rfl):PS X (.Assign [.Name y py] (.ListComp elt [⟨tg,iter,ifs,0⟩] scope pos) spos) (wI (rT own.length wi g tt te) (pf i)):=by
 intro pins s σ H D I h
 rw [exec_Assign_Name_used _ _ _ _ hsw]
 refine wpAny_bind (wpAny_standAt (wpAny_bind ?_))
 show wpAny _ X.A (do let _ ←comprehension (.ListComp elt [⟨tg,iter,ifs,0⟩] scope pos) scope X.env _ (newList []) false (eval iter X.env) (some (assign (.Name y py) X.env))) _ _ s
 refine wpAny_bind (wpAny_mono (wpAny_comprehension_free (use:=some (assign (.Name y py) X.env)) (cl:=bf X.env scope.names []) (Q:=fun _ s'=>SP X pins D .next s') rfl hs (c6 (S.cells I.ok)) S.kind S.names ?_) (fun _ s' hq=>wpAny_pure (wpAny_pure hq)) fun _ _ e=>e)
 refine thn (hi pins s σ H _ I h) fun v s1 h1=>thn h1 fun itv s2 h2=>?_
 obtain ⟨it,fp,tn,J,H2,e,I2,T,st2,f2,W⟩:=h2
 subst e
 refine ij (RR:=fun acc C=>compPost (model X.prog X.w) X.A X.xe (some (assign (.Name y py) X.env)) (fun _ s'=>SP X pins D .next s') acc C) S hc hg hf he I2 T st2 f2 W ?_
 intro DD C s5 H5 ys its hD hC I5 n5 rv5 pl5 hl5 q5
 obtain ⟨m5,hn5,_⟩:=I5.loc
 have nC5:H5 C=none:=I5.free
 have B:Inv X pins σ (upd H5 DD (.lst ys)) { s5 with heap:=s5.heap }:=l8 I2 I5 (Nat.le_of_eq hD.symm) (by show @LE.le Nat _ s2.heap.objs.size C;omega) (Nat.ne_of_lt (by show @LT.lt Nat _ DD C;omega)) n5 rv5 pl5 hl5 (Heap.SameBut.refl ..) f2
 show wpAny _ X.A (assign (.Name y py) X.env (.ref DD)) _ _ s5
 refine wpAny_assign_Name (jG (s:=s5) B hN hiN (.inl hy) (show RelV (.ref DD) (.ref DD) from rfl) (fun s6 I6 ⟨a,sb,ha⟩=>?_) (.inr hy))
 have ltC:@LT.lt Nat _ X.env.locals C:=by have:@LT.lt Nat _ X.env.locals s2.heap.objs.size:=I2.lt;omega
 have cellsC:∀ x c,X.env.cells.lookup x=some c→c≠C:=fun x c e=>by
  obtain ⟨v,z⟩:=I2.cell x c e
  have:@LT.lt Nat _ c s2.heap.objs.size:=z.lt
  exact Nat.ne_of_lt (by show @LT.lt Nat _ c C;omega)
 have hCa:C≠a:=by
  rcases ha with z|z
  ·rw [z];exact Nat.ne_of_gt ltC
  ·exact (cellsC _ _ z).symm
 refine ⟨m5,hn5.sameBut sb hCa,fun h' sb'=>?_⟩
 refine ⟨σ.set i (some (.ref DD)),upd H5 DD (.lst ys),I6.turned (it:=C) (t':=s6.toks) (fun b o hb e=>(sb'.2 b hb).trans e) ?_ (Nat.ne_of_gt ltC) (.inr (by have:@LE.le Nat _ X.s₀.heap.objs.size s2.heap.objs.size:=I2.sz;show @LE.le Nat _ X.s₀.heap.objs.size C;omega)) cellsC (fun p hp=>?_),q5 DD n5⟩
 ·rw [aI (Nat.ne_of_gt (by show @LT.lt Nat _ DD C;omega))];exact nC5
 ·have:@LT.lt Nat _ p.1 s2.heap.objs.size:=Heap.lt_size (I2.pin p hp).1
  exact Nat.ne_of_lt (by show @LT.lt Nat _ p.1 C;omega)
end
end L2
namespace L2
open PySem PySem.Spec PyProof.Rows
section
variable {X : Cx} {tg : Expr}
end
section
variable {X : Cx}
noncomputable def yO:V→Option Int→Option Int→Hp→VK→Prop:=fun x lo hi H Q=>∃ z,x=.str z∧z.length≤sizeLine∧Q (.str (PySem.StrLaws.sliceText z lo hi)) H
theorem jn (x:Str) (lo hi:Option Int) (hz:x.length≤sizeLine):(PySem.StrLaws.sliceText x lo hi).length≤sizeLine:=Nat.le_trans (Txt.slice_le x lo hi) hz
theorem xb:SlR X yO:=by
 intro pins s σ H x v vl vu lo hi sl Q I rx hs pl pu h
 obtain ⟨z,rfl,hz,q⟩:=h
 obtain ⟨t,rfl⟩:=rx
 refine ⟨"str",_,slot_str_getitem.lookup,typeIs_str _ _ _,?_⟩
 have fin:(PySem.StrLaws.sliceText z lo hi).length≤sizeLine∧∀ t' k,EP X pins σ Q (.str (PySem.StrLaws.sliceText z lo hi) t') { s with toks:=k }:=⟨jn z lo hi hz,fun t' k=>⟨.str _,H,I.tok k,⟨_,rfl⟩,q⟩⟩
 cases pl with
 |none =>
  cases pu with
  |none=>exact wpAny_getItem_str_slice (l:=none) (u:=none) (st:=none) hs rfl (post_val_or_str fin)
  |int j tj=>exact wpAny_getItem_str_slice (l:=none) (u:=some (j,tj)) (st:=none) hs rfl (post_val_or_str fin)
 |int i ti =>
  cases pu with
  |none=>exact wpAny_getItem_str_slice (l:=some (i,ti)) (u:=none) (st:=none) hs rfl (post_val_or_str fin)
  |int j tj=>exact wpAny_getItem_str_slice (l:=some (i,ti)) (u:=some (j,tj)) (st:=none) hs rfl (post_val_or_str fin)
theorem l9:MtR X "str.endswith" (fun x xs H Q=>∃ a b,x=.str a∧xs=[.str b]∧Q (.bl (Txt.endswith a b)) H):=by
 intro pins s σ H x xs v us Q I rx rs h
 obtain ⟨a,b,rfl,rfl,q⟩:=h
 obtain ⟨t,rfl⟩:=rx
 obtain ⟨u,rfl,t',rfl⟩:=vals1 rs
 exact SC.endswith ⟨.bl _,H,I,rfl,q⟩
theorem kC:MtR X "str.partition" (fun x xs H Q=>∃ a b,x=.str a∧xs=[.str b]∧(b.length==0)=false∧a.length≤sizeLine ∧
  ∀ p,H p=none→Q (.ref p) (upd H p (.tup [.str (Txt.partition a b).1,.str (Txt.partition a b).2.1,.str (Txt.partition a b).2.2]))):=by
 intro pins s σ H x xs v us Q I rx rs h
 obtain ⟨a,b,rfl,rfl,hb,hz,q⟩:=h
 obtain ⟨t,rfl⟩:=rx
 obtain ⟨u,rfl,t',rfl⟩:=vals1 rs
 refine call_meets F.slot_str_partition (typeIs_str _ _ _) F.entry_str_partition (F.args_str_partition_2 _ _) (meets_str_partition a b t t' hb hz) ?_
 have hf:H s.heap.objs.size=none:=I.hok.fresh (Nat.le_refl _)
 have q':=q _ hf
 have fin:∀ (t1 t2 t3:Tok) (k:Nat),EP X pins σ Q (.ref s.heap.objs.size) { s with toks:=k,heap:=s.heap.push { cls:=.type "tuple",data:=.seq [.str (Txt.partition a b).1 t1,.str (Txt.partition a b).2.1 t2,.str (Txt.partition a b).2.2 t3].toArray } }:=fun t1 t2 t3 k =>
  ⟨.ref s.heap.objs.size,_,I.laid (t':=k) (o:=.tup [.str (Txt.partition a b).1,.str (Txt.partition a b).2.1,.str (Txt.partition a b).2.2]) (fun b u e=>Heap.get?_push_of_some _ e) (Nat.le_refl _)
   ⟨by show 3≤sizeLine;decide,_,.cons ⟨t1,rfl⟩ (.cons ⟨t2,rfl⟩ (.cons ⟨t3,rfl⟩ .nil)),⟨_,Heap.get?_push_size _ rfl,rfl,_,rfl⟩⟩,rfl,q'⟩
 revert fin
 unfold Txt.partition
 cases Builtin.Str.occurrences a b 0 a.length 1 with
 |nil=>intro fin;exact fin _ _ _ _
 |cons i r=>intro fin;exact fin _ _ _ _
theorem jN:∀ (l:List (Str×Tok)),Vals (l.map fun p=>V.str p.1) (strValues l)
 |[]=>.nil
 |(x,t)::r=>.cons ⟨t,rfl⟩ (jN r)
theorem fM:∀ {ys:List Str}{its:List Value},Vals (ys.map V.str) its→∃ l:List (Str×Tok),its=strValues l∧l.map (·.1)=ys
 |[],_,.nil=>⟨[],rfl,rfl⟩
 |y::ys,_,.cons r t=>by
  obtain ⟨tk,rfl⟩:=r
  obtain ⟨l,rfl,e⟩:=fM t
  exact ⟨(y,tk)::l,rfl,by rw [List.map_cons,e]⟩
theorem rV:MtR X "str.split" (fun x xs H Q=>∃ a b,x=.str a∧xs=[.str b]∧(b.length==0)=false∧a.length+2≤sizeLine ∧
  ∀ p,H p=none→Q (.ref p) (upd H p (.lst ((Txt.split a b).map V.str)))):=by
 intro pins s σ H x xs v us Q I rx rs h
 obtain ⟨x,y,rfl,rfl,hy,hz,q⟩:=h
 obtain ⟨t,rfl⟩:=rx
 obtain ⟨u0,rfl,u,rfl⟩:=vals1 rs
 have hf:H s.heap.objs.size=none:=I.hok.fresh (Nat.le_refl _)
 have q':=q _ hf
 have fin:∀ (l:List (Str×Tok)) (k:Nat),l.length≤sizeLine→l.map (·.1)=Txt.split x y→EP X pins σ Q (.ref s.heap.objs.size) { s with toks:=k,heap:=s.heap.push { cls:=.type "list",data:=.seq (strValues l).toArray } }:=fun l k hl e =>
  ⟨.ref s.heap.objs.size,_,I.laid (t':=k) (o:=.lst ((Txt.split x y).map V.str)) (fun b u e=>Heap.get?_push_of_some _ e) (Nat.le_refl _)
   ⟨by rw [←e,List.length_map,List.length_map];exact hl,strValues l,_,by rw [←e,List.map_map];exact jN l,Heap.get?_push_size _ rfl⟩,rfl,q'⟩
 have one:1≤sizeLine:=by decide
 cases h1:(decide (x.length<y.length)||decide (Builtin.Str.strKind x<Builtin.Str.strKind y))
 ·cases hf:(Builtin.Str.occurrences x y 0 x.length (x.length+1)).isEmpty
  ·have hn:(Builtin.Str.partsBetween x (Builtin.Str.occurrences x y 0 x.length (x.length+1)) y.length).length≤sizeLine:=by
    have:=PySem.StrLaws.occ_length_le x y 0 x.length (x.length+1)
    simp only [Builtin.Str.partsBetween,List.length_map,List.length_zip,List.length_cons,List.length_append]
    omega
   refine call_meets F.slot_str_split (typeIs_str _ _ _) F.entry_str_split (F.args_str_split_2 _ _) (meets_str_split_sep x y t u h1 hy hf (by omega) hn) ?_
   show wants _ _ _ { s with toks:=_,heap:=s.heap.push { cls:=.type "list",data:=.seq (strsFrom s.toks (Builtin.Str.partsBetween x (Builtin.Str.occurrences x y 0 x.length (x.length+1)) y.length)).toArray } }
   rw [strsFrom_eq]
   refine fin (numbered s.toks _) _ ?_ ((numbered_texts _ _).trans ((if_neg (ne_true_of_eq_false h1)).trans (if_neg (ne_true_of_eq_false hf))).symm)
   have e:=congrArg List.length (numbered_texts s.toks (Builtin.Str.partsBetween x (Builtin.Str.occurrences x y 0 x.length (x.length+1)) y.length))
   rw [List.length_map] at e
   omega
  ·exact call_meets F.slot_str_split (typeIs_str _ _ _) F.entry_str_split (F.args_str_split_2 _ _) (meets_str_split_not_found x y t u h1 hy hf)
    (fin [(x,t)] _ one ((if_neg (ne_true_of_eq_false h1)).trans (if_pos hf)).symm)
 ·exact call_meets F.slot_str_split (typeIs_str _ _ _) F.entry_str_split (F.args_str_split_2 _ _) (meets_str_split_cannot_occur x y t u h1)
   (fin [(x,t)] _ one (if_pos h1).symm)
theorem uG:MtR X "str.join" (fun x xs H Q=>∃ a p ys,x=.str a∧xs=[.ref p]∧SqL X.K H p (ys.map V.str)∧JoinOk a ys=true∧Q (.str (Txt.join a ys)) H):=by
 intro pins s σ H x xs v us Q I rx rs h
 obtain ⟨a,p,ys,rfl,rfl,hq,hok,q⟩:=h
 obtain ⟨t,rfl⟩:=rx
 obtain ⟨u,rfl,r⟩:=vals1 rs
 cases r
 obtain ⟨its,rv,pl,hz⟩:=I.list hq
 obtain ⟨l,rfl,e⟩:=fM rv
 exact SC.join pl.isList e hok fun t' k=>⟨.str _,H,I.tok k,⟨_,rfl⟩,q⟩
theorem gB:∀ {bs:List Bool}{its:List Value},Vals (bs.map V.bl) its→its=bs.map Value.bool
 |[],_,.nil=>rfl
 |b::bs,_,.cons r t=>by
  cases r
  rw [gB t];rfl
end
section
variable {X : Cx}
end
end L2
namespace L2
open PySem PySem.Spec PyProof.Rows
noncomputable def xc (N own:List Str) (scope:Scope) (out:List (Str×NameKind)):Bool :=
 decide (scope.kind=.function)&&scope.names.all (fun y=>decide (y.2≠.cell))&&scope.names.all (fun y=>decide (y.2≠.local)||decide (scope.names.lookup y.1=some .local))&&decide N.Nodup&&decide (N.take own.length=own) &&
 scope.names.all (fun y=>decide (y.2≠.local)||decide (y.1∈own)||decide (y.1=".0"))&&decide ((".0":Str)∉N)&&scope.names.all (fun y=>decide (y.2≠.free)||decide (out.lookup y.1=some .cell)||decide (out.lookup y.1=some .free))&&scope.names.all (fun y=>decide (y.1≠".")&&decide (y.1≠".."))
theorem rW {X:Cx}{N own:List Str}{scope:Scope}{out:List (Str×NameKind)} (hn:X.env.scope.names=out) (ht:cR (N.drop own.length) X.N) (h:xc N own scope out=true):cS X N own scope:=by
 unfold xc at h
 simp only [Bool.and_eq_true,List.all_eq_true,Bool.or_eq_true,decide_eq_true_eq] at h
 obtain ⟨⟨⟨⟨⟨⟨⟨⟨h1,h2⟩,h3⟩,h4⟩,h5⟩,h6⟩,h7⟩,h8⟩,h9⟩:=h
 refine ⟨h1,h2,fun y hy e=>?_,h4,h5,fun y hy e=>?_,h7,ht,fun y hy e=>?_,h9⟩
 ·rcases h3 y hy with z|z
  ·exact absurd e z
  ·exact z
 ·rcases h6 y hy with (z|z)|z
  ·exact absurd e z
  ·exact .inl z
  ·exact .inr z
 ·rw [hn]
  rcases h8 y hy with (z|z)|z
  ·exact absurd e z
  ·exact .inl z
  ·exact .inr z
end L2
namespace L2
open PySem PySem.Spec PyProof.Rows
section
variable {prog : Program} {w : World}
noncomputable def aY (prog:Program) (w:World) (h:Heap) (k:Str×List Str) (a:Addr):Prop :=
 ∃ o n t b,h.get? a=some o∧o.cls=.type "tuple"∧o.data=.seq #[.str k.1 t,.ref b] n∧IsTupleKey (PySem.strKind prog w) h k.2 b
theorem aY.typeIs {s:Shared}{k:Str×List Str}{a:Addr} (x:aY prog w s.heap k a):s.TypeIs (.ref a) "tuple":=let ⟨o,_,_,_,ho,hc,_⟩:=x;⟨o,ho,hc⟩
theorem aY.inj {h:Heap}{a:Addr}{x y:Str×List Str} (hx:aY prog w h x a) (hy:aY prog w h y a):x=y:=by
 obtain ⟨o,n,t,b,ho,_,hd,hi⟩:=hx
 obtain ⟨o',n',t',b',ho',_,hd',hi'⟩:=hy
 obtain rfl:o=o':=Option.some.inj (ho.symm.trans ho')
 rw [hd] at hd'
 injection hd' with h1 _
 simp only [Array.mk.injEq,List.cons.injEq,Value.str.injEq,Value.ref.injEq,and_true] at h1
 obtain ⟨⟨e1,_⟩,e2⟩:=h1
 subst e2
 exact Prod.ext e1 (hi.inj hi')
theorem aY.keeps {h h':Heap}{k:Str×List Str}{a d:Addr}{o:Obj}{es ep} (x:aY prog w h k a) (ho:h.get? d=some o) (hd:o.data=.dict es ep) (hs:Heap.SameBut d h h'):aY prog w h' k a:=by
 obtain ⟨o',n,t,b,ho',hc,hd',hi⟩:=x
 have hne:a≠d:=by
  rintro rfl
  obtain rfl:o'=o:=Option.some.inj (ho'.symm.trans ho)
  rw [hd] at hd';exact nomatch hd'
 exact ⟨o',n,t,b,(hs.2 a hne).trans ho',hc,hd',hi.keeps ho hd hs⟩
noncomputable def kD (prog:Program) (w:World) (k:Str×List Str):Int:=reduceHash (Builtin.Tuple.tupleHashOf [(PySem.strKind prog w).hash k.1,tupleKeyHash (PySem.strKind prog w) k.2])
variable {A : Around} {E : Value → Shared → Prop} {s : Shared}
noncomputable def rX (prog:Program) (w:World) (hh:Heap) (v:Value) (n:Int) (d:Nat):Prop :=
 ∀ {A:Around} {E:Value→Shared→Prop} {s:Shared} {Q:Int→Shared→Prop},s.heap=hh→A.units<cLine→Q n { s with toks:=s.toks+d }→wpAny (model prog w) A (pyHash v) Q E s
theorem nP {hh:Heap} (x:Str) (t:Tok):rX prog w hh (.str x t) ((PySem.strKind prog w).hash x) 1:=fun _ _ h=>(PySem.strKind prog w).pyHash (by simp [PySem.strKind,Value.isStrOf]) h
theorem kF {hh:Heap}{ks:List Str}{b:Addr} (hk:IsTupleKey (PySem.strKind prog w) hh ks b):rX prog w hh (.ref b) (tupleKeyHash (PySem.strKind prog w) ks) (ks.length+1):=fun e hu h=>by
 subst e
 exact wpAny_pyHash_tuple hu hk h
theorem gj {k:Str×List Str}{a:Addr}{Q:Int→Shared→Prop} (hu:A.units+1<cLine) (hk:aY prog w s.heap k a) (h:Q (kD prog w k) { s with toks:=s.toks+(k.2.length+3) }) :
  wpAny (model prog w) A (pyHash (.ref a)) Q E s:=by
 have hT:=hk.typeIs
 obtain ⟨o,n,t,b,ho,_,hd,hi⟩:=hk
 unfold pyHash
 first|unfold pyHashByItsType|skip
 first|refine wpAny_bind (wpAny_cRoomFor_or (.inr (by omega)) ?_)|skip
 refine wpAny_bind (wpAny_specialOf hT PySem.F.slot_tuple_hash.lookup ?_)
 show wpAny _ _ (if (some (Value.builtin "tuple.__hash__")==some Value.none)=true then _ else _) Q E s
 rw [if_neg (by rw [beq_builtin_none];exact Bool.false_ne_true)]
 refine wpAny_bind (wpAny_specialOf hT PySem.F.slot_tuple_hash.lookup ?_)
 show wpAny _ _ (callSpecialIfBoundUnlessNone? (.ref a) "__hash__" _ >>= _) Q E s
 refine wpAny_bind (wpAny_callSpecialIfBoundUnlessNone?_slot hT PySem.F.slot_tuple_hash (wpAny_call_entry PySem.F.slot_tuple_hash hT PySem.F.entry_tuple_hash ?_ (PySem.F.args_tuple_hash_1 _)))
 show wpAny _ _ (Builtin.Tuple.tupleItemsOf (.ref a) >>= _) _ _ s
 refine wpAny_bind (wpAny_tupleItemsOf ho hd ?_)
 refine wpAny_bind ?_
 rw [←Array.forIn_toList]
 refine wpAny_forIn_list _
  (fun rest (b':Array Int) s'=>(rest=[Value.str k.1 t,Value.ref b]∧b'=#[]∧s'=s)∨(rest=[Value.ref b]∧b'.toList=[(PySem.strKind prog w).hash k.1]∧s'={ s with toks:=s.toks+1 }) ∨
   (rest=[]∧b'.toList=[(PySem.strKind prog w).hash k.1,tupleKeyHash (PySem.strKind prog w) k.2]∧s'={ s with toks:=s.toks+1+(k.2.length+1) }))
  _ ?_ ?_ _ _ (.inl ⟨rfl,rfl,rfl⟩)
 ·rintro x rest b' s' (⟨e,rfl,rfl⟩|⟨e,hb,rfl⟩|⟨e,_,_⟩)
  ·cases e
   refine wpAny_bind (nP k.1 t (hh:=s'.heap) rfl (by show A.units+1<cLine;exact hu) ?_)
   first
    |exact wpAny_pure (.inr (.inl ⟨rfl,rfl,rfl⟩))
    |exact wpAny_bind (wpAny_pure (wpAny_pure (.inr (.inl ⟨rfl,rfl,rfl⟩))))
  ·cases e
   refine wpAny_bind (kF hi rfl (by show A.units+1<cLine;exact hu) ?_)
   first
    |exact wpAny_pure (.inr (.inr ⟨rfl,by simp [hb],rfl⟩))
    |exact wpAny_bind (wpAny_pure (wpAny_pure (.inr (.inr ⟨rfl,by simp [hb],rfl⟩))))
  ·cases e
 ·rintro b' s' (⟨e,_,_⟩|⟨e,_,_⟩|⟨_,hb,rfl⟩)
  ·cases e
  ·cases e
  ·show wpAny _ _ (retInt (Builtin.Tuple.tupleHashOf b'.toList)) _ _ _
   rw [hb]
   refine wpAny_ret_mkInt ?_
   have et:s.toks+1+(k.2.length+1)+1=s.toks+(k.2.length+3):=by omega
   show wpAny _ _ (if (decide (-(2:Int) ^ 63≤Builtin.Tuple.tupleHashOf [(PySem.strKind prog w).hash k.1,tupleKeyHash (PySem.strKind prog w) k.2])&&decide (Builtin.Tuple.tupleHashOf [(PySem.strKind prog w).hash k.1,tupleKeyHash (PySem.strKind prog w) k.2]<2 ^ 63))=true then _ else _) Q E _
   unfold kD reduceHash at h
   by_cases hr:(decide (-(2:Int) ^ 63≤Builtin.Tuple.tupleHashOf [(PySem.strKind prog w).hash k.1,tupleKeyHash (PySem.strKind prog w) k.2])&&decide (Builtin.Tuple.tupleHashOf [(PySem.strKind prog w).hash k.1,tupleKeyHash (PySem.strKind prog w) k.2]<2 ^ 63))=true
   ·rw [if_pos hr]
    rw [if_pos hr] at h
    exact wpAny_pure (by rw [et];exact h)
   ·rw [if_neg hr]
    rw [if_neg hr] at h
    exact wpAny_bind (wpAny_rule (wpAny_pure (by rw [et];exact h)))
theorem l_ {x y:Str×List Str}{a b:Addr}{P:Fin→Shared→Prop} (hu:A.units<cLine) (hx:aY prog w s.heap x a) (hy:aY prog w s.heap y b) (h:P (.done (.ret (.bool (decide (x=y))))) s) :
  wpAny (model prog w) A (Builtin.«tuple.__eq__» ⟨[.ref a,.ref b],[]⟩) P E s:=by
 have hTb:=hy.typeIs
 obtain ⟨oa,na,ta,pa,hoa,_,hda,hia⟩:=hx
 obtain ⟨ob,nb,tb,pb,hob,_,hdb,hib⟩:=hy
 show wpAny _ _ (isInstance (.ref b) (.type "tuple") >>= _) _ _ s
 refine wpAny_bind (wpAny_isInstance hTb isSubtype_tuple_tuple ?_)
 simp only [Bool.not_true,Bool.false_eq_true,if_false]
 refine wpAny_bind (wpAny_tupleItemsOf hoa hda ?_)
 refine wpAny_bind (wpAny_tupleItemsOf hob hdb ?_)
 refine wpAny_bind ?_
 refine wpAny_forIn_list _
  (fun rest r s'=>r.1=none∧s'=s∧((rest=[(Value.str x.1 ta,Value.str y.1 tb),(Value.ref pa,Value.ref pb)])∨(rest=[(Value.ref pa,Value.ref pb)]∧x.1=y.1)∨(rest=[]∧x=y)))
  _ ?_ ?_ _ _ ⟨rfl,rfl,.inl rfl⟩
 ·rintro ⟨u,v⟩ rest r s' ⟨hr,rfl,(e|⟨e,e1⟩|⟨e,_⟩)⟩
  ·cases e
   refine wpAny_bind ((PySem.strKind prog w).eqBool (a:=x.1) (b:=y.1) (by simp [PySem.strKind,Value.isStrOf]) (by simp [PySem.strKind,Value.isStrOf]) ?_)
   by_cases hk:x.1=y.1
   ·rw [decide_eq_true hk]
    simp only [Bool.not_true,Bool.false_eq_true,if_false]
    exact wpAny_pure ⟨rfl,rfl,.inr (.inl ⟨by first|rfl|trivial,hk⟩)⟩
   ·rw [decide_eq_false hk]
    simp only [Bool.not_false,if_true]
    rw [decide_eq_false (fun z=>hk (by rw [z]))] at h
    exact wpAny_bind (wpAny_pure (wpAny_pure (wpAny_pure h)))
  ·cases e
   refine wpAny_bind (wpAny_eqBool_tuple hu hia hib ?_)
   by_cases hk:x.2=y.2
   ·rw [decide_eq_true hk]
    simp only [Bool.not_true,Bool.false_eq_true,if_false]
    exact wpAny_pure ⟨rfl,rfl,.inr (.inr ⟨by first|rfl|trivial,Prod.ext e1 hk⟩)⟩
   ·rw [decide_eq_false hk]
    simp only [Bool.not_false,if_true]
    rw [decide_eq_false (fun z=>hk (by rw [z]))] at h
    exact wpAny_bind (wpAny_pure (wpAny_pure (wpAny_pure h)))
  ·cases e
 ·rintro ⟨r1,r2⟩ s' ⟨hr,rfl,(e|⟨e,_⟩|⟨_,rfl⟩)⟩
  ·cases e
  ·cases e
  ·simp only at hr
   subst hr
   refine wpAny_pure ?_
   rw [decide_eq_true rfl] at h
   exact h
theorem gk {x y:Str×List Str}{a b:Addr}{Q:Bool→Shared→Prop} (hu:A.units+2<cLine) (hx:aY prog w s.heap x a) (hy:aY prog w s.heap y b) (h:Q (decide (x=y)) s) :
  wpAny (model prog w) A (eqBool (.ref a) (.ref b)) Q E s:=by
 unfold eqBool
 try with_reducible refine wpAny_holding ?_
 show wpAny _ _ (if (Value.ref a==Value.ref b)=true then _ else _) Q E s
 by_cases hab:(Value.ref a==Value.ref b)=true
 ·rw [if_pos hab]
  have e:a=b:=by have:=eq_of_beq hab;injection this
  subst e
  obtain rfl:=hx.inj hy
  exact wpAny_bind (wpAny_rule (wpAny_pure (by simpa using h)))
 ·rw [if_neg hab]
  exact wpAny_bind (wpAny_richCompare_same_room (op:=.Eq) hx.typeIs hy.typeIs PySem.F.slot_tuple_eq
   (wpAny_call_entry PySem.F.slot_tuple_eq hx.typeIs PySem.F.entry_tuple_eq (l_ (by first|(show A.units+1<cLine;omega)|(show A.units<cLine;omega)|(show A.units+1+1<cLine;omega)) hx hy ⟨_,rfl,(fun e=>nomatch e),wpAny_truthy_bool h⟩) (PySem.F.args_tuple_eq_2 _ _)) (by omega))
theorem fN {ks:List Str}{a:Addr}{n:Nat}{Q:Bool→Shared→Prop} (hk:IsTupleKey (PySem.strKind prog w) s.heap ks a) (h:Q true s):wpAny (model prog w) A (eqIsQuiet (n+1) (.ref a)) Q E s:=by
 have hT:=hk.typeIs
 obtain ⟨o,items,n',ho,_,hd,hi⟩:=hk
 unfold eqIsQuiet
 refine wpAny_bind (wpAny_specialOf hT PySem.F.slot_tuple_eq.lookup ?_)
 show wpAny _ _ (isInstance (.ref a) (.type "tuple") >>= _) _ _ s
 refine wpAny_bind (wpAny_isInstance hT isSubtype_tuple_tuple ?_)
 simp only [Bool.not_true,Bool.false_eq_true,if_false]
 refine wpAny_bind (wpAny_seqItems ho hd ?_)
 refine wpAny_bind ?_
 show wpAny _ _ (forIn items _ _) _ _ s
 rw [←Array.forIn_toList]
 refine wpAny_forIn_list _ (fun rest r s'=>r.1=none∧s'=s∧∀ v∈rest,carriedByValue v=true) _ ?_ ?_ _ _ ⟨rfl,rfl,hi.byValue⟩
 ·rintro v rest r s' ⟨hr,rfl,hall⟩
  rw [eqIsQuiet_byValue _ (hall v List.mem_cons_self)]
  refine wpAny_bind (wpAny_pure ?_)
  simp only [Bool.not_true,Bool.false_eq_true,if_false]
  exact wpAny_pure ⟨rfl,rfl,fun u hu'=>hall u (List.mem_cons_of_mem _ hu')⟩
 ·rintro ⟨r1,r2⟩ s' ⟨hr,rfl,_⟩
  simp only at hr
  subst hr
  exact wpAny_pure h
theorem gN {k:Str×List Str}{a:Addr}{Q:Bool→Shared→Prop} (hk:aY prog w s.heap k a) (h:Q true s):wpAny (model prog w) A (eqIsQuiet 8 (.ref a)) Q E s:=by
 have hT:=hk.typeIs
 obtain ⟨o,n,t,b,ho,_,hd,hi⟩:=hk
 unfold eqIsQuiet
 refine wpAny_bind (wpAny_specialOf hT PySem.F.slot_tuple_eq.lookup ?_)
 show wpAny _ _ (isInstance (.ref a) (.type "tuple") >>= _) _ _ s
 refine wpAny_bind (wpAny_isInstance hT isSubtype_tuple_tuple ?_)
 simp only [Bool.not_true,Bool.false_eq_true,if_false]
 refine wpAny_bind (wpAny_seqItems ho hd ?_)
 refine wpAny_bind ?_
 rw [←Array.forIn_toList]
 refine wpAny_forIn_list _ (fun rest r s'=>r.1=none∧s'=s∧(rest=[Value.str k.1 t,Value.ref b]∨rest=[Value.ref b]∨rest=[])) _ ?_ ?_ _ _ ⟨rfl,rfl,.inl rfl⟩
 ·rintro v rest r s' ⟨hr,rfl,(e|e|e)⟩
  ·cases e
   rw [eqIsQuiet_byValue _ rfl]
   refine wpAny_bind (wpAny_pure ?_)
   simp only [Bool.not_true,Bool.false_eq_true,if_false]
   exact wpAny_pure ⟨rfl,rfl,.inr (.inl (by first|rfl|trivial))⟩
  ·cases e
   refine wpAny_bind (fN hi ?_)
   simp only [Bool.not_true,Bool.false_eq_true,if_false]
   exact wpAny_pure ⟨rfl,rfl,.inr (.inr (by first|rfl|trivial))⟩
  ·cases e
 ·rintro ⟨r1,r2⟩ s' ⟨hr,rfl,_⟩
  simp only at hr
  subst hr
  exact wpAny_pure h
end
noncomputable def fO (prog:Program) (w:World):HeapKind prog w (Str×List Str) where
 is:=aY prog w
 hash:=kD prog w
 draws:=fun k=>k.2.length+3
 room:=fun A=>A.units+2<cLine
 inj:=fun hx hy=>hx.inj hy
 keeps:=fun x ho hd hs=>x.keeps ho hd hs
 pyHash:=fun hu hk h=>gj (by omega) hk h
 eqBool:=fun hu hx hy h=>gk hu hx hy h
 quiet:=fun hk h=>gN hk h
end L2
namespace L2
open PySem PySem.Spec PyProof.Rows
noncomputable abbrev dr:=Str×List Str
noncomputable def dW (K:PySem.W.Frag) (H:Hp) (v:V) (k:dr):Prop:=∃ a b,v=.ref a∧SqT K H a [.str k.1,.ref b]∧SqT K H b (k.2.map V.str)
noncomputable def gC (P:Program) (w:World) (d:Addr) (xs:List (dr×Addr×Value)):HO:=.ext fun h=>(d==sysModules)=false∧∃ o es ep,h.get? d=some o∧o.ExactDict∧o.data=.dict es ep∧es.toList=xs.map (entryOfKey (fO P w))∧(xs.map (·.1)).Nodup
noncomputable def dI (P:Program) (w:World) (K:PySem.W.Frag) (H:Hp) (d:Addr) (ks:List dr):Prop:=∃ xs,H d=some (gC P w d xs)∧xs.map (·.1)=ks∧∀ x∈xs,dW K H (.ref x.2.1) x.1
theorem il {P:Program}{w:World}:∀ {ks:List Str}{its:List Value},Vals (ks.map V.str) its→ItemsAre (PySem.strKind P w) ks its
 |[],_,.nil=>.nil
 |k::ks,_,.cons r t=>by
  obtain ⟨tk,rfl⟩:=r
  exact .cons (by simp [PySem.strKind,Value.isStrOf]) (il t)
theorem uH {X:Cx}{pins:List (Addr×Obj)}{σ:St}{H:Hp}{s:Shared}{b:Addr}{ks:List Str} (I:Inv X pins σ H s) (e:SqT X.K H b (ks.map V.str)):IsTupleKey (PySem.strKind X.prog X.w) s.heap ks b:=by
 obtain ⟨its,r,⟨o,h1,h2,n,h3⟩,_⟩:=I.tuple e
 exact ⟨o,its.toArray,n,h1,h2,h3,by simpa using il r⟩
theorem gS {X:Cx}{pins:List (Addr×Obj)}{σ:St}{H:Hp}{s:Shared}{a:Addr}{k:dr} (I:Inv X pins σ H s) (e:dW X.K H (.ref a) k):aY X.prog X.w s.heap k a:=by
 obtain ⟨a',b,q,e1,e2⟩:=e
 cases q
 obtain ⟨its,r,⟨o,h1,h2,n,h3⟩,_⟩:=I.tuple e1
 cases r with
 |cons r1 r2 =>
  cases r2 with
  |cons r2 r3 =>
   cases r3
   obtain ⟨t,rfl⟩:=r1
   cases r2
   exact ⟨o,n,t,b,h1,h2,h3,uH I e2⟩
section
variable {X : Cx} {pins : List (Addr × Obj)} {σ : St} {H : Hp} {s : Shared} {pos : Pos}
theorem Inv.Az (I:Inv X pins σ H s):sysModules<s.heap.objs.size:=by
 obtain ⟨o,es,ep,ho,_⟩:=I.mod.glob
 have h1:@LT.lt Nat _ mainGlobals s.heap.objs.size:=Heap.lt_size (I.bk _ _ ho)
 obtain ⟨mb,⟨o',es',ep',ho',_⟩,_⟩:=I.mod.blt
 have h2:@LT.lt Nat _ builtinsNs s.heap.objs.size:=Heap.lt_size (I.bk _ _ ho')
 revert h1 h2
 show @LT.lt Nat _ mainGlobals s.heap.objs.size→@LT.lt Nat _ builtinsNs s.heap.objs.size→@LT.lt Nat _ sysModules s.heap.objs.size
 unfold mainGlobals builtinsNs sysModules
 omega
theorem ip (I:Inv X pins σ H s) {d:Addr}{xs:List (dr×Addr×Value)} (h:H d=some (gC X.prog X.w d xs)) (hk:∀ x∈xs,dW X.K H (.ref x.2.1) x.1):(d==sysModules)=false∧s.heap.DictOfH (fO X.prog X.w) d xs:=by
 obtain ⟨⟨h1,o,es,ep,h2,h3,h4,h5,h6⟩,_⟩:=I.hok d _ h
 exact ⟨h1,o,es,ep,h2,h3,h4,h5,fun x hx=>gS I (hk x hx),h6⟩
theorem vZ {P:Program}{w:World}{H':Hp}{h:Heap}{d:Addr}{xs:List (dr×Addr×Value)} (hd:(d==sysModules)=false) (x:h.DictOfH (fO P w) d xs):bJ P w H' h d (gC P w d xs):=by
 obtain ⟨o,es,ep,h2,h3,h4,h5,_,h6⟩:=x
 exact ⟨⟨hd,o,es,ep,h2,h3,h4,h5,h6⟩,⟨o,h2⟩,fun h1 h2 ⟨q0,o,es,ep,q1,q2,q3,q4,q5⟩ k=>⟨q0,o,es,ep,k _ q1,q2,q3,q4,q5⟩⟩
theorem uI:PE X (.Dict [] [] pos) (fun _ H Q=>∀ p,H p=none→Q (.ref p) (upd H p (gC X.prog X.w p []))):=fun pins s σ H Q I h =>
 wpAny_Dict_empty ⟨.ref s.heap.objs.size,_,I.laid (a:=s.heap.objs.size) (o:=gC X.prog X.w s.heap.objs.size []) (t':=s.toks) (fun _ _ q=>Heap.get?_push_of_some _ q) (Nat.le_refl _)
  (vZ (beq_eq_false_iff_ne.mpr (Ne.symm (Nat.ne_of_lt I.Az))) (Heap.DictOfH.new s.heap)),rfl,h _ (I.hok.fresh (Nat.le_refl _))⟩
theorem ff {xs:List (dr×Addr×Value)} (k:dr):(atKey xs k).isSome=decide (k∈xs.map (·.1)):=by
 unfold atKey
 rw [Option.isSome_map,Bool.eq_iff_iff,List.find?_isSome,decide_eq_true_eq,List.mem_map]
 constructor
 ·rintro ⟨x,hx,e⟩
  exact ⟨x,hx,of_decide_eq_true e⟩
 ·rintro ⟨x,hx,e⟩
  exact ⟨x,hx,decide_eq_true e⟩
theorem qH (hu:X.A.units+3<cLine):OpR X (compareOp .NotIn) (fun x y H Q=>∃ k d ks,dW X.K H x k∧y=.ref d∧dI X.prog X.w X.K H d ks∧Q (.bl (!decide (k∈ks))) H):=by
 intro pins s σ H x y v u Q I rx ry h
 obtain ⟨k,d,ks,hx,rfl,⟨xs,hd,hks,hall⟩,q⟩:=h
 cases ry
 obtain ⟨a,b,rfl,e1,e2⟩:=id hx
 cases rx
 obtain ⟨h1,h2⟩:=ip I hd hall
 refine wpAny_notIn_heap (knd:=fO X.prog X.w) (k:=k) (by show X.A.units+1+2<cLine;omega) (gS I hx) h1 h2 ?_
 rw [ff,hks]
 exact ⟨.bl _,H,I.tok _,rfl,q⟩
theorem uJ (hu:X.A.units+3<cLine):jk X (fun o i v H Q=>∃ d k ks,o=.ref d∧dW X.K H i k∧dI X.prog X.w X.K H d ks∧k∉ks∧ks.length≤1000∧∀ H',dI X.prog X.w X.K H' d (ks++[k])→(∀ b,b≠d→H' b=H b)→Q H'):=by
 intro pins s σ H o i v ov iv u Q I ro ri rv h
 obtain ⟨d,k,ks,rfl,hi,⟨xs,hd,hks,hall⟩,hn,hl,q⟩:=h
 cases ro
 obtain ⟨a,b,rfl,e1,e2⟩:=id hi
 cases ri
 obtain ⟨h1,h2⟩:=ip I hd hall
 have hxl:xs.length≤sizeLine:=by
  have:=congrArg List.length hks
  rw [List.length_map] at this
  rw [this];exact Nat.le_of_lt (qE hl)
 refine wpAny_setItem_heap (hsz:=hxl) (knd:=fO X.prog X.w) (k:=k) (by show X.A.units+1+2<cLine;omega) (gS I hi) h2 fun h' h2' sb=>?_
 have hno:atKey xs k=none:=by
  have:=ff (xs:=xs) k
  rw [hks,decide_eq_false hn] at this
  cases e:atKey xs k with
  |none=>rfl
  |some _=>rw [e] at this;cases this
 rw [storedH_new hno] at h2'
 obtain ⟨o',es',ep',g1,_⟩:=id h2'
 refine ⟨upd H d (gC X.prog X.w d (xs++[(k,a,u)])),I.write (x:=d) (e:=d) (by rw [hd];exact True.intro) (.inl rfl) (fun b q hb z=>(sb.2 b hb).trans z) ⟨o',g1⟩ (vZ h1 h2'),q _ ⟨_,aR,by rw [List.map_append,hks];rfl,fun x hx=>?_⟩ fun b hb=>aI hb⟩
 have kT:∀ {a':Addr} {ys:List V},SqT X.K H a' ys→SqT X.K (upd H d (gC X.prog X.w d (xs++[(k,a,u)]))) a' ys:=fun {a' ys} z=>by
  rcases z with (z|⟨o,z⟩)|z
  ·exact .inl (.inl (by rw [aI (rn z hd (fun z=>nomatch z))];exact z))
  ·exact .inl (.inr ⟨o,by rw [aI (rn z hd (fun z=>nomatch z))];exact z⟩)
  ·exact .inr z
 have keep:∀ {y:V} {k':dr},dW X.K H y k'→dW X.K (upd H d (gC X.prog X.w d (xs++[(k,a,u)]))) y k':=fun {y k'} ⟨a',b',z1,z2,z3⟩=>⟨a',b',z1,kT z2,kT z3⟩
 rcases List.mem_append.mp hx with m|m
 ·exact keep (hall x m)
 ·have:x=(k,a,u):=by simpa using m
  subst this
  exact keep hi
end
end L2
namespace L2
open PySem PySem.Spec PyProof.Rows
noncomputable def leS (a b:Str):Bool:=!decide (b.cps.toList<a.cps.toList)
theorem gT (a b:Str):leS a b=true↔a.cps.toList≤b.cps.toList:=by
 simp only [leS,Bool.not_eq_true',decide_eq_false_iff_not]
 exact List.not_lt
theorem jO (a b c:Str) (h1:leS a b=true) (h2:leS b c=true):leS a c=true:=by
 rw [gT] at h1 h2 ⊢
 exact List.le_trans h1 h2
theorem qI (a b:Str):(leS a b||leS b a)=true:=by
 rw [Bool.or_eq_true,gT,gT]
 exact List.le_total _ _
theorem rY {x y:Str} (h:x.cps.toList=y.cps.toList):x=y:=by
 cases x;cases y
 congr
 exact Array.toList_inj.mp h
theorem kG {a b:Str} (h1:leS a b=true) (h2:leS b a=true):a=b:=by
 rw [gT] at h1 h2
 exact rY (List.le_antisymm h1 h2)
noncomputable def bo (l:List Str):List Str:=l.mergeSort leS
theorem b_ (l:List Str):(bo l).Perm l:=List.mergeSort_perm l leS
theorem iq (l:List Str):(bo l).Pairwise (fun a b=>leS a b=true):=List.pairwise_mergeSort jO qI l
theorem fP:∀ (l:List Str) (p:Str),risingS p l=true→(p::l).Pairwise (fun a b=>leS a b=true)
 |[],p,_=>by simp
 |x::r,p,h=>by
  have h':(!ltCps x.cps.toList p.cps.toList&&risingS x r)=true:=h
  obtain ⟨h1,h2⟩:=Bool.and_eq_true_iff.mp h'
  have ih:=fP r x h2
  have hpx:leS p x=true:=by rw [ltCps_eq] at h1;exact h1
  refine List.pairwise_cons.mpr ⟨fun y hy=>?_,ih⟩
  rcases List.mem_cons.mp hy with e|e
  ·rw [e];exact hpx
  ·exact jO _ _ _ hpx ((List.pairwise_cons.mp ih).1 y e)
theorem kH {l:List Str} (h:sortedS l=true):l.Pairwise (fun a b=>leS a b=true):=by
 cases l with
 |nil=>exact .nil
 |cons x r=>exact fP r x h
theorem gm:∀ {l m:List Str},l.Perm m→l.Pairwise (fun a b=>leS a b=true)→m.Pairwise (fun a b=>leS a b=true)→l=m
 |[],m,hp,_,_=>(List.Perm.nil_eq hp)
 |x::l,m,hp,h1,h2=>by
  cases m with
  |nil=>exact absurd hp.length_eq (by simp)
  |cons y m =>
   obtain ⟨a1,a2⟩:=List.pairwise_cons.mp h1
   obtain ⟨b1,b2⟩:=List.pairwise_cons.mp h2
   have hxy:x=y:=by
    have m1:x∈y::m:=hp.mem_iff.mp List.mem_cons_self
    have m2:y∈x::l:=hp.mem_iff.mpr List.mem_cons_self
    rcases List.mem_cons.mp m1 with e|e
    ·exact e
    ·rcases List.mem_cons.mp m2 with e'|e'
     ·exact e'.symm
     ·exact kG (a1 y e') (b1 x e)
   subst hxy
   rw [gm (List.Perm.cons_inv hp) a2 b2]
theorem rZ {l m:List Str} (hp:l.Perm m) (hs:sortedS l=true):l=bo m:=gm (hp.trans (b_ m).symm) (kH hs) (iq m)
theorem mi {l m:List Str} (hp:l.Perm m):bo l=bo m:=gm ((b_ l).trans (hp.trans (b_ m).symm)) (iq l) (iq m)
theorem dt (l:List Str):(bo l).length=l.length:=(b_ l).length_eq
section
variable {prog : Program} {w : World} {A : Around} {E : Value → Shared → Prop} {s : Shared}
theorem cI:∀ {ys:List Str}{its:List Value},Vals (ys.map V.str) its→StrsAre its ys
 |[],_,.nil=>.nil
 |y::ys,_,.cons r t=>by
  obtain ⟨tk,rfl⟩:=r
  exact .cons y tk (cI t)
theorem du:∀ {its:List Value}{ys:List Str},StrsAre its ys→Vals (ys.map V.str) its
 |_,_,.nil=>.nil
 |_,_,.cons x t h=>.cons ⟨t,rfl⟩ (du h)
theorem fg {x : Value} {Q : Value → Shared → Prop} (hc : wpAny (model prog w) A.in1 (collect x) (fun vs s1 => ∃ ss, StrsAre vs ss ∧ vs.length < 64 ∧
      ∀ (h' : Heap) (vs' : List Value) (e : Nat), (∀ b o, s1.heap.get? b = some o → h'.get? b = some o) → h'.get? s1.heap.objs.size = some (seqObj "list" vs'.toArray e) → StrsAre vs' (bo ss) → Q (.ref s1.heap.objs.size) { s1 with heap := h' }) E s) :
    wpAny (model prog w) A (call (.builtin "sorted") [x]) Q E s := by
  refine Calls.call_function_entry kind_sorted plain_sorted entry_sorted (args_sorted1 _) ?_
  unfold Builtin.«sorted»
  refine wpAny_bind (m := checkCount "sorted" 1 1 _) (wpAny_pure ?_)
  refine wpAny_bind (wpAny_mono hc (fun vs s1 h1 => ?_) fun _ _ e => e)
  obtain ⟨ss, hS, h64, h⟩ := h1
  refine wpAny_bind (wpAny_newList ?_ (by have : (64 : Nat) ≤ sizeLine := by decide
                                          omega))
  have hoL : (s1.heap.push (seqObj "list" vs.toArray 0)).get? s1.heap.objs.size = some (seqObj "list" vs.toArray 0) := Heap.get?_push_size _ rfl
  show wpAny _ _ _ _ _ { s1 with heap := s1.heap.push (seqObj "list" vs.toArray 0) }
  refine wpAny_bind (wpAny_holding (wpAny_call_entry slot_list_sort ⟨_, hoL, rfl⟩ entry_list_sort (list_sort_treeK strKind_oneLt hoL hS.keysOf (fun v₁ v₂ rest e => keyKind_strs (by rw [← e]; exact hS)) h64 fun st' a1 a2 => ⟨_, rfl, ?_⟩) (args_list_sort _)))
  obtain ⟨ss', b1, b2, b3⟩ := sorted_out_str hS a1 a2
  obtain ⟨e, he⟩ := sortedHeap_at (out := (arrOf st').map (·.2)) hoL
  rw [rZ b2 b3] at b1
  refine wpAny_pure ⟨_, rfl, h _ ((arrOf st').map (·.2)).toList e (fun b o q => ?_) (by rw [Array.toArray_toList]; exact he) b1⟩
  have hlt : b < s1.heap.objs.size := Heap.lt_size q
  show (sortedHeap (s1.heap.push (seqObj "list" vs.toArray 0)) s1.heap.objs.size vs ((arrOf st').map (·.2))).get? b = some o
  rw [sortedHeap_old (Nat.ne_of_lt hlt) (by rw [size_push']; exact Nat.lt_succ_of_lt hlt)]
  exact Heap.get?_push_of_some _ q
theorem jo {l:Addr}{vs:List Value}{Q:List Value→Shared→Prop} (hl:IsTup s.heap l vs.toArray)
  (h:Q vs { s with heap:=(s.heap.push (seqObj "list" #[] 0)).update s.heap.objs.size (Obj.mapSeq (·++vs.toArray)) }) (hsz:vs.length≤sizeLine) :
  wpAny (model prog w) A (collect (.ref l)) Q E s:=by
 obtain ⟨o,ho,hc,n,hd⟩:=id hl
 unfold collect
 refine wpAny_bind (wpAny_runValue (codeAny_builtin entry_proto_collect' ?_))
 show wpAny _ _ (do again (.builtin "list.__iadd__" ⟨[←newList [],.ref l],[]⟩)) _ _ s
 refine wpAny_bind (wpAny_newList (wpAny_pure ⟨Code.quiet_builtin _ (by decide +kernel),codeAny_builtin entry_list_iadd' ?_⟩))
 show wpAny _ _ (Builtin.List.listExtendWith (.ref s.heap.objs.size) (.ref l) (.ref s.heap.objs.size)) _ _ { s with heap:=s.heap.push (seqObj "list" #[] 0) }
 unfold Builtin.List.listExtendWith
 have ho':(s.heap.push (seqObj "list" #[] 0)).get? l=some o:=Heap.get?_push_of_some _ ho
 refine wpAny_bind (wpAny_typeOf (T:="tuple") ⟨o,ho',hc⟩ ?_)
 have ht:(Value.type "tuple"==Value.type "tuple")=true:=by rfl
 rw [if_pos (by rw [ht];simp)]
 refine wpAny_bind (listItems_at ho' hd ?_)
 refine wpAny_bind (listItems_at (xs:=#[]) (n:=0) (Heap.get?_push_size _ rfl) rfl ?_)
 rw [if_neg (by simp)]
 refine wpAny_bind (listUpdate_at (xs:=#[]) (n:=0) (Heap.get?_push_size _ rfl) rfl ?_ (Nat.zero_le _) (by show (#[]++vs.toArray).size≤sizeLine+1;simp only [Array.size_append,List.size_toArray,List.length_nil];omega))
 refine wpAny_pure ?_
 show wpAny (model prog w) A (do
   let o ←load s.heap.objs.size
   match o.data with
   |.seq xs _=>pure xs.toList
   |_=>unsupported "internal:collect") Q E { s with heap:=(s.heap.push (seqObj "list" #[] 0)).update s.heap.objs.size (Obj.mapSeq (·++vs.toArray)) }
 refine wpAny_bind (wpAny_load (get?_update_seq (Heap.get?_push_size _ rfl) _) ?_)
 show wpAny _ _ (pure ((#[]:Array Value)++vs.toArray).toList) Q E _
 rw [show ((#[]:Array Value)++vs.toArray).toList=vs by simp]
 exact wpAny_pure h
end
section
variable {X : Cx}
theorem jq {h:Heap}{vs:List Value}{b:Addr}{o:Obj} (e:h.get? b=some o):((h.push (seqObj "list" #[] 0)).update h.objs.size (Obj.mapSeq (·++vs.toArray))).get? b=some o:=by
 rw [Heap.get?_update_ne _ _ _ _ (Nat.ne_of_lt (Heap.lt_size e))]
 exact Heap.get?_push_of_some _ e
theorem mj {pins:List (Addr×Obj)}{σ:St}{H:Hp}{s s1:Shared}{Q:VK}{ss:List Str}{h':Heap}{vs':List Value}{e:Nat} (I:Inv X pins σ H s) (k1:∀ b o,s.heap.get? b=some o→s1.heap.get? b=some o) (hs1:∃ h1 t1,s1={ s with heap:=h1,toks:=t1 })
  (hk:∀ b o,s1.heap.get? b=some o→h'.get? b=some o) (hat:h'.get? s1.heap.objs.size=some (seqObj "list" vs'.toArray e)) (hS:StrsAre vs' (bo ss)) (hsz:s.heap.objs.size≤s1.heap.objs.size) (hl:ss.length≤sizeLine)
  (q:∀ p,H p=none→Q (.ref p) (upd H p (.lst ((bo ss).map V.str)))):EP X pins σ Q (.ref s1.heap.objs.size) { s1 with heap:=h' }:=by
 obtain ⟨h1,t1,rfl⟩:=hs1
 have I1:Inv X pins σ H { s with heap:=h1,toks:=t1 }:=I.kept (t':=t1) k1
 refine ⟨.ref h1.objs.size,_,I1.laid (t':=t1) (o:=.lst ((bo ss).map V.str)) hk (Nat.le_refl _) ⟨by rw [List.length_map,dt];exact hl,vs',e,du hS,hat⟩,rfl,q _ (I1.hok.fresh (Nat.le_refl _))⟩
theorem gD:gx X (.builtin "sorted") (fun xs H Q=>∃ (p:Addr) (ys:List Str),xs=[.ref p]∧(SqL X.K H p (ys.map V.str)∨SqT X.K H p (ys.map V.str))∧ys.length<64∧∀ q,H q=none→Q (.ref q) (upd H q (.lst ((bo ys).map V.str)))):=by
 intro pins s σ H xs us Q I rs h
 obtain ⟨p,ys,rfl,hq,h64,q⟩:=h
 obtain ⟨u,rfl,r⟩:=vals1 rs
 cases r
 have hl:ys.length≤sizeLine:=Nat.le_of_lt (Nat.lt_of_lt_of_le h64 (by decide))
 have fin:∀ (its:List Value),Vals (ys.map V.str) its→∀ (h':Heap) (vs':List Value) (e:Nat),(∀ b o,((s.heap.push (seqObj "list" #[] 0)).update s.heap.objs.size (Obj.mapSeq (·++its.toArray))).get? b=some o→h'.get? b=some o) →
   h'.get? ((s.heap.push (seqObj "list" #[] 0)).update s.heap.objs.size (Obj.mapSeq (·++its.toArray))).objs.size=some (seqObj "list" vs'.toArray e)→StrsAre vs' (bo ys) →
   EP X pins σ Q (.ref ((s.heap.push (seqObj "list" #[] 0)).update s.heap.objs.size (Obj.mapSeq (·++its.toArray))).objs.size) { s with heap:=h' }:=fun its rv h' vs' e hk hat hS =>
  mj (s1:={ s with heap:=(s.heap.push (seqObj "list" #[] 0)).update s.heap.objs.size (Obj.mapSeq (·++its.toArray)) }) I (fun b o z=>jq z) ⟨_,s.toks,rfl⟩ hk hat hS (by show s.heap.objs.size≤((s.heap.push (seqObj "list" #[] 0)).update s.heap.objs.size (Obj.mapSeq (·++its.toArray))).objs.size;rw [Heap.size_update,size_push'];exact Nat.le_succ _) hl q
 rcases hq with hq|hq
 ·obtain ⟨its,rv,pl,hz⟩:=I.list hq
  have el:its.length=ys.length:=by rw [←rv.length,List.length_map]
  exact fg (collect_list pl.isList ⟨ys,cI rv,by omega,fun h' vs' e hk hat hS=>fin its rv h' vs' e hk hat hS⟩ (by omega))
 ·obtain ⟨its,rv,pl,hz⟩:=I.tuple hq
  have el:its.length=ys.length:=by rw [←rv.length,List.length_map]
  exact fg (jo pl ⟨ys,cI rv,by omega,fun h' vs' e hk hat hS=>fin its rv h' vs' e hk hat hS⟩ (by omega))
end
end L2
namespace L2
open PySem PySem.Spec PyProof.Rows
noncomputable abbrev sK (P:Program) (w:World):=PySem.strKind P w
noncomputable def dv (P:Program) (w:World) (h:Heap) (a:Addr) (led:Bool) (D:List Str):Prop :=
 ∃ (L:List (Str×Tok)) (es:Array (Int×Value)) (ep:Nat) (t:SetTable),h.get? a=some { cls:=.type "set",dict:=none,data:=.set es ep t }∧es.toList=L.map (fun p=>((sK P w).hash p.1,Value.str p.1 p.2)) ∧
  (L.map (·.1)).Perm D∧D.Nodup∧t.fits es.size=true∧es.size<scanBound∧t.led=led∧(es.size=0∨t.plain=false)
section
variable {prog : Program} {w : World} {A : Around} {E : Value → Shared → Prop} {s : Shared}
theorem r6 {L:List (Str×Tok)}:ElemsOf (sK prog w) (L.map fun p=>((sK prog w).hash p.1,Value.str p.1 p.2)):=by
 intro e he
 obtain ⟨p,_,rfl⟩:=List.mem_map.mp he
 exact ⟨⟨p.1,by simp [PySem.strKind,Value.isStrOf],rfl⟩,rfl⟩
theorem pC (x y:Str) (t:Tok):(sK prog w).is x (.str y t)=decide (x=y):=by
 rw [Bool.eq_iff_iff]
 simp [PySem.strKind,Value.isStrOf]
 exact ⟨fun h=>h.symm,fun h=>h.symm⟩
theorem nQ (t:SetTable) (es:Array (Int×Value)) (h:Int) (x:Value):(layNew t es h x).2.1.led=t.led:=by
 unfold layNew
 split
 ·show (SetTable.orStandIn (t.put _).1 _).led=t.led
  unfold SetTable.orStandIn
  split <;> rfl
 ·rfl
theorem kI (t:SetTable) (es:Array (Int×Value)) (n:Nat):(relayAll t es n).2.1.led=t.led:=by
 unfold relayAll
 split
 ·rename_i t' order he
  have:t'.led=t.led:=by
   unfold SetTable.relaid SetTable.laid at he
   cases hc:SetTable.layClean (SetTable.sizeAbove n - 1) (es.map (·.1)) with
   |none=>rw [hc] at he;cases he
   |some o=>rw [hc] at he;cases he;rfl
  dsimp only
  split
  ·exact this
  ·rfl
 ·rfl
theorem ir (t:SetTable) (es:Array (Int×Value)) (n:Nat) (h:t.plain=false):(relayAll t es n).2.1.plain=false:=by
 unfold relayAll
 split
 ·rename_i t' order he
  have:t'.plain=t.plain:=by
   unfold SetTable.relaid SetTable.laid at he
   cases hc:SetTable.layClean (SetTable.sizeAbove n - 1) (es.map (·.1)) with
   |none=>rw [hc] at he;cases he
   |some o=>rw [hc] at he;cases he;rfl
  dsimp only
  split
  ·rw [this];exact h
  ·rfl
 ·rfl
theorem fh {L:List (Str×Tok)}{l:List (Int×Value)} (h:l.Perm (L.map fun p=>((sK prog w).hash p.1,Value.str p.1 p.2))):∃ L':List (Str×Tok),l=L'.map (fun p=>((sK prog w).hash p.1,Value.str p.1 p.2))∧L'.Perm L:=by
 have all:∀ e∈l,∃ p:Str×Tok,e=((sK prog w).hash p.1,Value.str p.1 p.2):=fun e he=>by
  obtain ⟨p,_,rfl⟩:=List.mem_map.mp (h.mem_iff.mp he)
  exact ⟨p,rfl⟩
 have ex:∀ l:List (Int×Value),(∀ e∈l,∃ p:Str×Tok,e=((sK prog w).hash p.1,Value.str p.1 p.2))→∃ L':List (Str×Tok),l=L'.map (fun p=>((sK prog w).hash p.1,Value.str p.1 p.2)):=by
  intro l
  induction l with
  |nil=>intro _;exact ⟨[],rfl⟩
  |cons e l ih =>
   intro ha
   obtain ⟨p,rfl⟩:=ha e List.mem_cons_self
   obtain ⟨L',rfl⟩:=ih fun e he=>ha e (List.mem_cons_of_mem _ he)
   exact ⟨p::L',rfl⟩
 obtain ⟨L',rfl⟩:=ex l all
 refine ⟨L',rfl,?_⟩
 have g:(L'.map fun p=>((sK prog w).hash p.1,Value.str p.1 p.2)).map (fun e=>match e.2 with|.str x t=>(x,t)|_=>(Str.empty,0))=L':=by
  rw [List.map_map]
  exact List.map_id _
 have g2:(L.map fun p=>((sK prog w).hash p.1,Value.str p.1 p.2)).map (fun e=>match e.2 with|.str x t=>(x,t)|_=>(Str.empty,0))=L:=by
  rw [List.map_map]
  exact List.map_id _
 have:=h.map (fun e=>match e.2 with|.str x t=>(x,t)|_=>(Str.empty,0))
 rw [g,g2] at this
 exact this
theorem nR {a : Addr} {led : Bool} {D : List Str} {x : Str} {tk : Tok} {Q : Bool → Shared → Prop} (hS : dv prog w s.heap a led D) (hroom : D.length + 1 < scanBound)
    (h : ∀ h', Heap.SameBut a s.heap h' → dv prog w h' a led (if x ∈ D then D else D ++ [x]) → Q (decide (x ∉ D)) { s with heap := h' }) :
    wpAny (model prog w) A (setAddHashed a (.str x tk) ((sK prog w).hash x)) Q E s := by
  obtain ⟨L, es, ep, t, ho, hes, hperm, hnd, hf, hb, hled, hpl⟩ := hS
  have hkey : (sK prog w).is x (.str x tk) = true := by rw [pC]; simp
  have hel : ElemsOf (sK prog w) es.toList := by rw [hes]; exact r6
  have hlen : es.size = D.length := by rw [← Array.length_toList, hes, List.length_map, ← List.length_map (f := Prod.fst) (as := L), hperm.length_eq]
  unfold setAddHashed setAddHashedIn
  refine wpAny_holding (wpAny_bind (wpAny_setState_of ho rfl hf ?_))
  dsimp only
  rw [byScan_of (knd := sK prog w) rfl hb hel]
  simp only [↓reduceIte]
  unfold setAddByScan
  refine wpAny_bind ?_
  refine wpAny_bind (wpAny_rule ?_)
  refine wpAny_bind (wpAny_setScan_of (knd := sK prog w) hkey ho rfl hf hel ?_)
  have mem_iff : (∃ e ∈ es.toList, (sK prog w).is x e.2 = true) ↔ x ∈ D := by
    rw [hes, ← hperm.mem_iff, List.mem_map]
    constructor
    · rintro ⟨e, he, hi⟩
      obtain ⟨p, hp, rfl⟩ := List.mem_map.mp he
      rw [pC, decide_eq_true_eq] at hi
      exact ⟨p, hp, hi.symm⟩
    · rintro ⟨p, hp, e⟩
      exact ⟨_, List.mem_map.mpr ⟨p, hp, rfl⟩, by rw [pC]; simp [e]⟩
  cases hr : List.findIdx? (fun e => (sK prog w).is x e.2) es.toList with
  | some j =>
    dsimp only
    obtain ⟨hj, hpj, _⟩ := List.findIdx?_eq_some_iff_getElem.mp hr
    have hx : x ∈ D := mem_iff.mp ⟨es.toList[j], List.getElem_mem hj, hpj⟩
    refine wpAny_pure (wpAny_pure ?_)
    have e : s = { s with heap := s.heap } := by cases s; rfl
    have := h s.heap (Heap.SameBut.refl a s.heap) (by rw [if_pos hx]; exact ⟨L, es, ep, t, ho, hes, hperm, hnd, hf, hb, hled, hpl⟩)
    rw [decide_eq_false (fun z => z hx)] at this
    rw [e]; exact this
  | none =>
    dsimp only
    have hx : x ∉ D := fun hx => by
      obtain ⟨e, he, hp⟩ := mem_iff.mpr hx
      have := List.findIdx?_eq_none_iff.mp hr e he
      rw [hp] at this
      exact Bool.noConfusion this
    have hgw : ∀ (b : Bool) {s₁ : Shared} {Q' : Unit → Shared → Prop}, Q' () s₁ → wpAny (model prog w) A (match b with | true => rule "set.scan.the-table-gave-way" | false => pure ()) Q' E s₁ :=
      fun b s₁ Q' hq => by cases b <;> first | exact wpAny_pure hq | exact wpAny_rule hq
    have hp1 := layNew_perm t es ((sK prog w).hash x) (.str x tk)
    have hfits := layNew_fits t es ((sK prog w).hash x) (.str x tk)
    have hl1 := nQ t es ((sK prog w).hash x) (.str x tk)
    generalize hL : layNew t es ((sK prog w).hash x) (.str x tk) = NL at hp1 hfits hl1 ⊢
    obtain ⟨es1, t1, wasDummy, gave⟩ := NL
    dsimp only at hp1 hfits hl1 ⊢
    rw [Array.toList_push, hes, show [((sK prog w).hash x, Value.str x tk)] = [(x, tk)].map (fun p => ((sK prog w).hash p.1, Value.str p.1 p.2)) from rfl, ← List.map_append] at hp1
    obtain ⟨L1, e1, pL1⟩ := fh hp1
    have hsz1 : es1.size = D.length + 1 := by rw [← Array.length_toList, hp1.length_eq, List.length_map, List.length_append, ← hlen, ← Array.length_toList, hes, List.length_map]; rfl
    have hb1 : es1.size < scanBound := by omega
    have perm1 : (L1.map (·.1)).Perm (D ++ [x]) := (pL1.map _).trans (by rw [List.map_append]; exact hperm.append_right _)
    have nd1 : (D ++ [x]).Nodup := by
      rw [List.nodup_append]
      exact ⟨hnd, by simp, fun y hy z hz => by have : z = x := by simpa using hz
                                               subst this; rintro rfl; exact hx hy⟩
    refine wpAny_bind (hgw _ ?_)
    have hend : ∀ h', Heap.SameBut a s.heap h' → dv prog w h' a led (D ++ [x]) → Q true { s with heap := h' } := fun h' sb hs => by
      have := h h' sb (by rw [if_neg hx]; exact hs)
      rw [decide_eq_true hx] at this
      exact this
    have tail : ∀ (g : Bool → Sem Unit), (∀ (b : Bool) (s₁ : Shared) (Q' : Unit → Shared → Prop), Q' () s₁ → wpAny (model prog w) A (g b) Q' E s₁) → ∀ (R : Option Bool → Shared → Prop), (∀ h', Heap.SameBut a s.heap h' → dv prog w h' a led (D ++ [x]) → R (some true) { s with heap := h' }) → ∀ t2 : SetTable, t2.fits es1.size = true → t2.led = led → t2.plain = false → wpAny (model prog w) A (do
        storeSet a es1 t2
        if (!wasDummy && t2.tooFull) = true then do
            g (relayAll t2 es1 (SetTable.grown es1.size)).2.2
            storeSet a (relayAll t2 es1 (SetTable.grown es1.size)).1 (relayAll t2 es1 (SetTable.grown es1.size)).2.1
            pure (some true)
          else pure (some true)) R E s := by
      intro g hg R hR t2 hf2 hl2 hpl2
      refine wpAny_bind (wpAny_storeSet_of ho rfl ?_ (fits_of_scanBound hb1))
      have hg1 : (s.heap.update a (Obj.putSet es1 t2)).get? a = some { cls := .type "set", dict := none, data := .set es1 (ep + 1) t2 } := by
        have := Heap.get?_update_self (Obj.putSet es1 t2) ho rfl
        exact this
      have hsb1 := Heap.SameBut.update s.heap a (Obj.putSet es1 t2)
      split
      · have hp := relayAll_perm t2 es1 (SetTable.grown es1.size)
        have hfr := relayAll_fits t2 es1 (SetTable.grown es1.size)
        have hlr := kI t2 es1 (SetTable.grown es1.size)
        have hpr := ir t2 es1 (SetTable.grown es1.size) hpl2
        generalize hRl : relayAll t2 es1 (SetTable.grown es1.size) = Rl at hp hfr hlr hpr ⊢
        obtain ⟨es2, t3, gave2⟩ := Rl
        dsimp only at hp hfr hlr hpr ⊢
        rw [e1] at hp
        obtain ⟨L2, e2, pL2⟩ := fh hp
        have hsz : es2.size = es1.size := by rw [← Array.length_toList, hp.length_eq, ← e1, Array.length_toList]
        refine wpAny_bind (hg _ _ _ ?_)
        refine wpAny_bind (wpAny_storeSet_of hg1 rfl ?_ (fits_of_scanBound (by omega)))
        have hg2 : ((s.heap.update a (Obj.putSet es1 t2)).update a (Obj.putSet es2 t3)).get? a = some { cls := .type "set", dict := none, data := .set es2 (ep + 1 + 1) t3 } := Heap.get?_update_self (Obj.putSet es2 t3) hg1 rfl
        refine wpAny_pure (hR _ (hsb1.trans (Heap.SameBut.update _ a _)) ⟨L2, es2, _, t3, hg2, e2, (pL2.map _).trans perm1, nd1, hfr, by omega, hlr.trans hl2, .inr hpr⟩)
      · exact wpAny_pure (hR _ hsb1 ⟨L1, es1, _, t2, hg1, e1, perm1, nd1, hf2, hb1, hl2, .inr hpl2⟩)
    split
    · rename_i hp
      refine wpAny_bind ?_
      rw [hashByValue_scannable 8 rfl]
      refine wpAny_pure ?_
      have ep : (if plainKind (Value.str x tk) = true then t1 else { t1 with plain := false }) = { t1 with plain := false } := rfl
      rw [ep]
      refine tail _ ?_ _ ?_ { t1 with plain := false } (SetTable.fits_plain_off hfits) (hl1.trans hled) rfl
      · intro b s₁ Q' hq; cases b <;> first | exact wpAny_pure hq | exact wpAny_rule hq
      · intro h' hsb hS'; dsimp only; exact wpAny_pure (hend h' hsb hS')
    · rename_i hp
      refine wpAny_bind (wpAny_pure ?_)
      simp only [↓reduceIte]
      refine tail _ ?_ _ ?_ t1 hfits (hl1.trans hled) (Bool.eq_false_iff.mpr hp)
      · intro b s₁ Q' hq; cases b <;> first | exact wpAny_pure hq | exact wpAny_rule hq
      · intro h' hsb hS'; dsimp only; exact wpAny_pure (hend h' hsb hS')
end
end L2
namespace L2
open PySem PySem.Spec PyProof.Rows
noncomputable def gO (D:List Str) (x:Str):List Str:=if x∈D then D else D++[x]
noncomputable def aJ (l:List Str):List Str:=l.foldl gO []
theorem nS {D : List Str} {x : Str} (h : D.Nodup) : (gO D x).Nodup := by
  unfold gO
  split
  · exact h
  · rename_i hx
    rw [List.nodup_append]
    exact ⟨h, by simp, fun y hy z hz => by have : z = x := by simpa using hz
                                           subst this; rintro rfl; exact hx hy⟩
theorem dw:∀ (l D:List Str),D.Nodup→(l.foldl gO D).Nodup∧(∀ x,x∈l.foldl gO D↔x∈D∨x∈l)∧(l.foldl gO D).length≤D.length+l.length
 |[],D,h=>⟨h,by simp,by simp⟩
 |y::l,D,h=>by
  obtain ⟨h1,h2,h3⟩:=dw l (gO D y) (nS h)
  have hm:∀ x,x∈gO D y↔x∈D∨x=y:=fun x=>by
   unfold gO
   split
   ·rename_i hy
    exact ⟨.inl,fun z=>z.elim id (fun e=>e ▸ hy)⟩
   ·simp
  have hl:(gO D y).length≤D.length+1:=by
   unfold gO
   split
   ·omega
   ·simp
  refine ⟨h1,fun x=>?_,by rw [List.foldl_cons,List.length_cons];omega⟩
  rw [List.foldl_cons,h2,hm,List.mem_cons,or_assoc]
theorem fQ (l:List Str):(aJ l).Nodup:=(dw l [] List.nodup_nil).1
theorem iu (l:List Str) (x:Str):x∈aJ l↔x∈l:=by rw [aJ,(dw l [] List.nodup_nil).2.1];simp
theorem nU (l:List Str):(aJ l).length≤l.length:=by have:=(dw l [] List.nodup_nil).2.2;simpa [aJ] using this
theorem mn (l:List Str) (x:Str):aJ (l++[x])=gO (aJ l) x:=by unfold aJ;rw [List.foldl_append];rfl
section
variable {prog : Program} {w : World} {A : Around} {R : Result → Shared → Prop} {I : Addr} {fp wr : List Addr} {G : Array GenState → Array GenState → Prop} {n : Nat} {P : Nat → Value → Prop} {St : Nat → Shared → Prop}
theorem gn (W:WalksS prog w A.in1 I fp wr G n P St) (S:Addr) (hSf:S∉fp) (led:Bool)
  (ys:List Str) (hn:ys.length=n) (hval:∀ i v,P i v→∃ x t,ys[i]?=some x∧v=.str x t) (hb:n+1<scanBound) :
  ∀ (k i:Nat) (s:Shared),n - i=k→i≤n→St i s→dv prog w s.heap S led (aJ (ys.take i)) →
   (∀ s',Moved (S::wr) G s s'→dv prog w s'.heap S led (aJ ys)→R (.ok (.ret .none)) s') →
   codeAny (model prog w) A (.builtin "set.update.loop" ⟨[.ref S,.ref I],[]⟩) R s:=by
 have hSw:S∉wr:=fun h=>hSf (W.sub _ h)
 have hsub:∀ b∈wr,b∈S::wr:=fun b hb=>List.mem_cons_of_mem _ hb
 intro k
 induction k with
 |zero =>
  intro i s hk hi hst hS hR
  have hin:i=n:=by omega
  subst hin
  refine codeAny_builtin PyProof.Rows.F.entry_set_update_loop ?_
  rw [Around.under_plainId PyProof.Rows.F.plain_set_update_loop _]
  show wpAny _ A.in1 (pyNext (.ref I) >>= _) _ _ s
  refine wpAny_bind (W.done s _ _ hst fun s' hm=>?_)
  show wpAny _ A.in1 (ret Value.none) _ _ s'
  rw [List.take_of_length_le (by omega)] at hS
  exact wpAny_pure (hR s' (hm.mono hsub) (by
   obtain ⟨L,es,ep,t,ho,rest⟩:=hS
   exact ⟨L,es,ep,t,hm.heap S _ hSw ho,rest⟩))
 |succ k ih =>
  intro i s hk hi hst hS hR
  have hlt:i<n:=by omega
  refine codeAny_builtin PyProof.Rows.F.entry_set_update_loop ?_
  rw [Around.under_plainId PyProof.Rows.F.plain_set_update_loop _]
  show wpAny _ A.in1 (pyNext (.ref I) >>= _) _ _ s
  refine wpAny_bind (W.item i s _ _ hlt hst fun v s' hP hst' hm=>?_)
  obtain ⟨x,t,hx,rfl⟩:=hval i v hP
  have hS':dv prog w s'.heap S led (aJ (ys.take i)):=by
   obtain ⟨L,es,ep,tb,ho,rest⟩:=hS
   exact ⟨L,es,ep,tb,hm.heap S _ hSw ho,rest⟩
  show wpAny _ A.in1 (holding [Value.str x t] (setAdd S (.str x t)) >>= _) _ _ s'
  refine wpAny_bind (wpAny_holding ?_)
  unfold setAdd
  refine wpAny_holding ?_
  refine wpAny_bind ((sK prog w).pyHash (k:=x) (by rw [pC];simp) ?_)
  have hroom:(aJ (ys.take i)).length+1<scanBound:=by have:=nU (ys.take i);rw [List.length_take] at this;omega
  refine nR (s:={ s' with toks:=s'.toks+1 }) hS' hroom fun h' hsb hS2=>?_
  have hSi:dv prog w h' S led (aJ (ys.take (i+1))):=by
   rw [List.take_add_one,hx]
   show dv prog w h' S led (aJ (ys.take i++[x]))
   rw [mn]
   exact hS2
  refine wpAny_pure ⟨plainId_quiet PyProof.Rows.F.plain_set_update_loop _,ih (i+1) _ (by omega) hlt (W.frame _ s' _ _ hst' (Nat.le_succ _) fun b hb o e=>?_) hSi fun s'' hm'' hS''=>?_⟩
  ·rw [hsb.2 b (fun h:b=S=>hSf (by rw [←h];exact hb))];exact e
  ·refine hR s'' (Moved.trans W.gtrans ((hm.mono hsub).then_heap (Nat.le_succ _) fun b o hb e=>?_) hm'') hS''
   rw [hsb.2 b (fun h:b=S=>hb (by rw [h];exact List.mem_cons_self))];exact e
end
section
variable {prog : Program} {w : World} {A : Around} {E : Value → Shared → Prop} {s : Shared}
theorem jr (a:Value) {Q₁:Value→Shared→Prop}
  (h:Q₁ (.ref s.heap.objs.size) { s with heap:=s.heap.push { cls:=.type "set",dict:=none,data:=.set #[] 0 (.fresh 0 0 (!w.params.followText "set-order")) } }) :
  codeAny (model prog w) A (.call (.builtin "set.__new__") ⟨[.type "set",a],[]⟩) (wants Q₁ E) s:=by
 refine codeAny_of_tree ?_
 show wpAny _ A.in1 (do checkBuiltinCall "set.__new__" ⟨[.type "set",a],[]⟩;again (.builtin "set.__new__" ⟨[.type "set",a],[]⟩)) _ _ s
 refine wpAny_bind (wpAny_of_eq (PySem.F.newCall_set_1 a) (wpAny_pure ⟨plainId_quiet PySem.F.plain_set_new _,codeAny_builtin PySem.F.entry_set_new ?_⟩))
 rw [Around.under_plainId PySem.F.plain_set_new _]
 unfold Builtin.«set.__new__» Builtin.Frozenset.newClass
 have hsub:=sub_set_self
 obtain ⟨hp,g,d,tk,os⟩:=s
 dsimp only
 wp_walk
 refine wpAny_askSetting (wpAny_pure ?_)
 dsimp only
 simp only [newObj]
 refine wpAny_bind (wpAny_alloc (wpAny_pure ?_))
 exact wpAny_pure h
theorem nV {h:Heap}{a:Addr}{led:Bool} (hg:h.get? a=some { cls:=.type "set",dict:=none,data:=.set #[] 0 (.fresh 0 0 led) }):dv prog w h a led [] :=
 ⟨[],#[],0,_,hg,rfl,.nil,List.nodup_nil,rfl,by unfold scanBound;decide,rfl,.inl rfl⟩
end
end L2
namespace L2
open PySem PySem.Spec PyProof.Rows
theorem sub_tuple_set:isSubtype (.type "tuple") (.type "set")=pure false:=by rw [isSubtype_type];kernel_rfl
theorem sub_tuple_frozenset:isSubtype (.type "tuple") (.type "frozenset")=pure false:=by rw [isSubtype_type];kernel_rfl
section
variable {prog : Program} {w : World} {A : Around} {E : Value → Shared → Prop} {s : Shared}
noncomputable abbrev cv (w:World):Bool:=!w.params.followText "set-order"
noncomputable abbrev nW (led:Bool):Obj:={ cls:=.type "set",dict:=none,data:=.set #[] 0 (.fresh 0 0 led) }
theorem fR {l:Addr}{T:String}{ys:List Str}{Q:Value→Shared→Prop}
  (hT0:s.TypeIs (.ref l) T) (hsls:isSubtype (.type T) (.type "set")=pure false) (hslf:isSubtype (.type T) (.type "frozenset")=pure false) (hne:(Value.type T==Value.type "dict")=false)
  (hb:ys.length+1<scanBound)
  (hit:∀ (s1:Shared) (B:Around) (Q':Value→Shared→Prop),B.handled=A.handled→(∀ b o,s.heap.get? b=some o→s1.heap.get? b=some o)→s.heap.objs.size<s1.heap.objs.size →
   (∀ I fp wr G P St h1,WalksS prog w B.in1 I fp wr G ys.length P St→(∀ g g',G g g'→g'=g)→s.heap.objs.size∉fp→(∀ b∈wr,s.heap.objs.size<b)→(∀ i v,P i v→∃ x t,ys[i]?=some x∧v=.str x t)→St 0 { s1 with heap:=h1 }→(∀ b o,s1.heap.get? b=some o→h1.get? b=some o)→Q' (.ref I) { s1 with heap:=h1 })→wpAny (model prog w) B (pyIter (.ref l)) Q' E s1)
  (h:∀ (h':Heap) (tk:Nat),dv prog w h' s.heap.objs.size (cv w) (aJ ys)→(∀ b o,b<s.heap.objs.size→s.heap.get? b=some o→h'.get? b=some o)→Q (.ref s.heap.objs.size) { s with heap:=h',toks:=tk }) :
  wpAny (model prog w) A (call (.type "set") [.ref l]) Q E s:=by
 obtain ⟨c,tl,hmro⟩:=PySem.F.called_set.mro
 have hmade:=PySem.F.called_set.made
 have hsub:=PySem.F.called_set.sub
 refine wpAny_call (codeAny_of_tree ?_)
 show wpAny _ _ (callAny (.type "set") _) _ _ _
 refine wpAny_pure ⟨Code.quiet_builtin _ (by decide +kernel),codeAny_builtin PySem.F.entry_type_call ?_⟩
 rw [Around.under_plain (weight_type_call_type "set" [.ref l] []) rfl]
 have h1:=PySem.F.called_set.notType
 have h2:=PySem.F.called_set.canCreate
 have hct:=PySem.F.typeCall_set_1 (.ref l)
 repeat (any_goals (first|assumption|wp_step))
 refine codeAny_mono (jr (.ref l) (E:=E) (Q₁:=fun obj s₁=>obj=.ref s.heap.objs.size∧s₁={ s with heap:=s.heap.push (nW (cv w)) }) ⟨rfl,rfl⟩) fun r s₁ hr=>?_
 cases r with
 |error e=>exact hr
 |ok fl =>
  cases fl with
  |ret obj =>
   obtain ⟨rfl,rfl⟩:=hr
   have hS:(s.heap.push (nW (cv w))).get? s.heap.objs.size=some (nW (cv w)):=Heap.get?_push_size _ rfl
   have hT:Shared.TypeIs { s with heap:=s.heap.push (nW (cv w)) } (.ref s.heap.objs.size) "set":=⟨_,hS,rfl⟩
   have hli:=PySem.F.called_set.init.lookup
   have hbi:=PySem.F.called_set.init.bind (.ref s.heap.objs.size)
   repeat (any_goals (first|assumption|wp_step))
   refine codeAny_mono (codeAny_call_builtin (R:=wants (fun r s₂=>r=.none∧∃ h' tk,s₂={ s with heap:=h',toks:=tk } ∧
     dv prog w h' s.heap.objs.size (cv w) (aJ ys) ∧
     (∀ b o,b<s.heap.objs.size→s.heap.get? b=some o→h'.get? b=some o)) E) PySem.F.called_set.init.plain PySem.F.entry_set_init (check_set_init_1 hT ?_)) fun r₂ s₂ hr₂=>?_
   ·obtain ⟨ol,hol,hcl⟩:=hT0
    obtain ⟨ocls,odict,odata,oslots⟩:=ol
    simp only at hcl
    subst hcl
    have hol':(s.heap.push (nW (cv w))).get? l=some { cls:=.type T,dict:=odict,data:=odata,slots:=oslots }:=Heap.get?_push_of_some _ hol
    have hT1:Shared.TypeIs { s with heap:=s.heap.push (nW (cv w)) } (.ref l) T:=⟨_,hol',rfl⟩
    unfold Builtin.«set.__init__» noKeywords Builtin.Frozenset.updateFrom
    generalize hPI:pyIter=PI
    wp_walk
    subst hPI
    refine hit { s with heap:=s.heap.push (nW (cv w)) } _ _ rfl (fun b o e=>Heap.get?_push_of_some _ e) (by rw [size_push'];exact Nat.lt_succ_self _) fun I fp wr G P St h1 W hG hf hwr hval hst hk=>?_
    refine wpAny_bind (wpAny_runValue ?_)
    refine gn W s.heap.objs.size hf (cv w) ys rfl hval hb (ys.length - 0) 0 _ (by omega) (Nat.zero_le _) hst (nV (hk _ _ hS)) ?_
    intro s' hm hS'
    obtain ⟨h',g',d',tk',os'⟩:=s'
    have eg:g'=s.gens:=hG _ _ hm.gens
    have ed:d'=s.drawn:=hm.drawn
    have eo:os'=s.os:=hm.os
    subst eg;subst ed;subst eo
    show wpAny _ _ _ _ _ _
    refine wpAny_pure ?_
    show wpAny _ _ (ret Value.none) _ _ _
    refine wpAny_pure ⟨rfl,h',tk',rfl,hS',fun b o hb' e=>?_⟩
    exact hm.heap b o (fun z=>by
     rcases List.mem_cons.mp z with z|z
     ·rw [z] at hb';exact Nat.lt_irrefl _ hb'
     ·exact absurd (hwr b z) (Nat.not_lt_of_lt hb')) (hk _ _ (Heap.get?_push_of_some _ e))
   ·cases r₂ with
    |error e=>exact hr₂
    |ok fl₂ =>
     cases fl₂ with
     |ret r =>
      obtain ⟨rfl,h',tk,rfl,hS',hk'⟩:=hr₂
      repeat (any_goals (first|assumption|wp_step))
      exact h _ _ hS' hk'
     |_=>exact hr₂.elim
  |_=>exact hr.elim
end
end L2
namespace L2
open PySem PySem.Spec PyProof.Rows
section
variable {prog : Program} {w : World} {A : Around} {E : Value → Shared → Prop} {s : Shared}
theorem kJ:∀ {vs:List Value}{ss:List Str},StrsAre vs ss→∀ (i:Nat) (v:Value),vs[i]?=some v→∃ x t,ss[i]?=some x∧v=.str x t
 |_,_,.nil,i,v,h=>by simp at h
 |_,_,.cons x t h,0,v,e=>by simp at e;exact ⟨x,t,rfl,e.symm⟩
 |_,_,.cons x t h,i+1,v,e=>by rw [List.getElem?_cons_succ] at e;rw [List.getElem?_cons_succ];exact kJ h i v e
theorem fS:∀ {vs:List Value}{ss:List Str},StrsAre vs ss→vs.length=ss.length
 |_,_,.nil=>rfl
 |_,_,.cons x t h=>by simp [fS h]
theorem pD {n l S:Addr} (h1:n≠S) (h2:n≠l):n∉[S,l]:=by simp [h1,h2]
theorem iw {l:Addr}{vs:List Value}{ys:List Str}{Q:Value→Shared→Prop} (hh:A.handled=none) (hl:s.heap.IsList l vs.toArray) (hS:StrsAre vs ys) (hb:ys.length+1<scanBound)
  (h:∀ (h':Heap) (tk:Nat),dv prog w h' s.heap.objs.size (cv w) (aJ ys)→(∀ b o,b<s.heap.objs.size→s.heap.get? b=some o→h'.get? b=some o)→Q (.ref s.heap.objs.size) { s with heap:=h',toks:=tk }) :
  wpAny (model prog w) A (call (.type "set") [.ref l]) Q E s:=by
 have hlS:l<s.heap.objs.size:=let ⟨o,ho,_⟩:=hl;Heap.lt_size ho
 refine fR hl.typeIs PySem.F.sub_list_set PySem.F.sub_list_frozenset (by decide) hb (fun s1 B Q' hB hk hlt hq=>?_) h
 have hl1:s1.heap.IsList l vs.toArray:=let ⟨o,ho,r⟩:=hl;⟨o,hk _ _ ho,r⟩
 refine wpAny_pyIter_list hl1 ?_
 have hneI:l≠s1.heap.objs.size:=Nat.ne_of_lt (Nat.lt_trans hlS hlt)
 have W:=(Walks.list (prog:=prog) (w:=w) (A:=B.in1) (by simp [hB,hh]) s1.heap.objs.size l hneI vs.toArray).toS
 have el:vs.toArray.size=ys.length:=by simp [fS hS]
 rw [el] at W
 refine hq _ _ _ _ _ _ _ W (fun _ _ e=>e) (pD (Nat.ne_of_lt hlt) (Nat.ne_of_gt hlS)) (fun b hb=>by rw [List.mem_singleton.mp hb];exact hlt) (fun i v hv=>kJ hS i v (by simpa using hv)) ⟨⟨_,Heap.get?_push_size _ rfl,rfl,rfl⟩,hl1.push _⟩ fun b o e=>Heap.get?_push_of_some _ e
theorem js {l:Addr}{vs:List Value}{ys:List Str}{Q:Value→Shared→Prop} (hh:A.handled=none) (hl:s.heap.IsTuple l vs.toArray) (hS:StrsAre vs ys) (hb:ys.length+1<scanBound)
  (h:∀ (h':Heap) (tk:Nat),dv prog w h' s.heap.objs.size (cv w) (aJ ys)→(∀ b o,b<s.heap.objs.size→s.heap.get? b=some o→h'.get? b=some o)→Q (.ref s.heap.objs.size) { s with heap:=h',toks:=tk }) :
  wpAny (model prog w) A (call (.type "set") [.ref l]) Q E s:=by
 have hlS:l<s.heap.objs.size:=let ⟨o,ho,_⟩:=hl;Heap.lt_size ho
 refine fR hl.typeIs sub_tuple_set sub_tuple_frozenset (by decide) hb (fun s1 B Q' hB hk hlt hq=>?_) h
 have hl1:s1.heap.IsTuple l vs.toArray:=let ⟨o,ho,r⟩:=hl;⟨o,hk _ _ ho,r⟩
 refine wpAny_pyIter_tuple hl1 ?_
 have hneI:l≠s1.heap.objs.size:=Nat.ne_of_lt (Nat.lt_trans hlS hlt)
 have W:=(Walks.tuple (prog:=prog) (w:=w) (A:=B.in1) (by simp [hB,hh]) s1.heap.objs.size l hneI vs.toArray).toS
 have el:vs.toArray.size=ys.length:=by simp [fS hS]
 rw [el] at W
 refine hq _ _ _ _ _ _ _ W (fun _ _ e=>e) (pD (Nat.ne_of_lt hlt) (Nat.ne_of_gt hlS)) (fun b hb=>by rw [List.mem_singleton.mp hb];exact hlt) (fun i v hv=>kJ hS i v (by simpa using hv)) ⟨⟨_,Heap.get?_push_size _ rfl,rfl,rfl⟩,let ⟨o,ho,r⟩:=hl1;⟨o,Heap.get?_push_of_some _ ho,r⟩⟩ fun b o e=>Heap.get?_push_of_some _ e
theorem kK {M:Model}{src:Source}{n:Nat}{Q:Nat→Shared→Prop} (hn:n≠0) (h:∀ i<n,Q i { s with drawn:=s.drawn.bump src }):wpAny M A (choose src n) Q E s:=fun Γ p hΓ=>by
 show Sem.wp M Γ (.choose src n .pure) _ _ p s
 rw [Sem.wp_choose]
 exact ⟨hn,h _ (Nat.mod_lt _ (Nat.pos_of_ne_zero hn))⟩
theorem fi {α:Type}:∀ {xs:List α}{i:Nat}{x:α},xs[i]?=some x→(x::xs.eraseIdx i).Perm xs
 |[],i,x,h=>by simp at h
 |y::ys,0,x,h=>by simp at h;subst h;exact .refl _
 |y::ys,i+1,x,h=>by
  rw [List.getElem?_cons_succ] at h
  rw [List.eraseIdx_cons_succ]
  exact (List.Perm.swap y x _).trans ((fi h).cons y)
theorem eW {M:Model}{α:Type}:∀ (n:Nat) (xs:List α) (s:Shared) (Q:List α→Shared→Prop),xs.length=n→(∀ ys d,ys.Perm xs→Q ys { s with drawn:=d })→wpAny M A (drawOrder n xs) Q E s
 |0,xs,s,Q,hn,h=>by
  have:xs=[]:=List.length_eq_zero_iff.mp hn
  subst this
  exact wpAny_pure (h [] s.drawn (.refl _))
 |n+1,[],s,Q,hn,h=>by simp at hn
 |n+1,y::ys,s,Q,hn,h=>by
  show wpAny M A (choose .order (y::ys).length >>= _) Q E s
  refine wpAny_bind (kK (by simp) fun i hi=>?_)
  have e:(y::ys)[i]?=some ((y::ys)[i]'hi):=List.getElem?_eq_getElem hi
  have hp:=fi e
  generalize (y::ys)[i]'hi=x at e hp
  simp only [e]
  refine wpAny_bind (eW n _ _ _ (by have:=hp.length_eq;simp at this hn ⊢;omega) fun zs d hz=>?_)
  exact wpAny_pure (h (x::zs) d ((hz.cons x).trans hp))
theorem gE {α:Type} (next:Nat→Nat):∀ (fuel k:Nat) (left:List α) (out:Array α),left.length=fuel→(pickOrder.go next fuel k left out).toList.Perm (out.toList++left)
 |0,k,left,out,hl=>by
  have:left=[]:=List.length_eq_zero_iff.mp hl
  subst this
  simp [pickOrder.go]
 |fuel+1,k,left,out,hl=>by
  unfold pickOrder.go
  have hlt:next k % left.length<left.length:=Nat.mod_lt _ (by omega)
  have e:left[next k % left.length]?=some (left[next k % left.length]'hlt):=List.getElem?_eq_getElem hlt
  have hp:=fi e
  generalize left[next k % left.length]'hlt=x at e hp
  simp only [e]
  refine (gE next fuel _ _ _ (by have:=hp.length_eq;simp at this;omega)).trans ?_
  rw [Array.toList_push,List.append_assoc]
  exact (hp.append_left _)
theorem dX {α:Type} (next:Nat→Nat) (xs:Array α):(pickOrder next xs).toList.Perm xs.toList:=by
 have:=gE next xs.size 0 xs.toList #[] (by simp)
 simpa [pickOrder] using this
end
end L2
namespace L2
open PySem PySem.Spec PyProof.Rows
namespace SI
theorem mq:Manifest.owners.lookup (String.ofList ['r','o','t','a','r','e','t','i','_','t','e','s'].reverse)=some Manifest.sig_set_iterator:=by kernel_rfl
theorem slot_next:Slot "set_iterator" "__next__" "set_iterator.__next__" :=
 .of (owner:="set_iterator") (n:="__next__") (by rw [typeLookup_type,builtinLookup_eq_fast];kernel_rfl) (by decide +kernel) (by decide +kernel) (by decide +kernel)
  (by first|exact .inl (by decide +kernel)|exact .inr (by decide +kernel)) (by rw [isSubtype_type];kernel_rfl)
theorem entry_next:entryFor table "set_iterator.__next__"=some Builtin.«set_iterator.__next__»:=entryFor_of_tree (by kernel_rfl)
theorem args_next (a:Value):argsOk "set_iterator.__next__" ⟨[a],[]⟩:=by
 unfold argsOk;rw [signature?_of (id:="set_iterator.__next__") (n:=['_','_','t','x','e','n','_','_']) (o:=['r','o','t','a','r','e','t','i','_','t','e','s']) (by kernel_rfl) mq];kernel_rfl
theorem jP:Slot "set_iterator" "__iter__" "set_iterator.__iter__" :=
 .of (owner:="set_iterator") (n:="__iter__") (by rw [typeLookup_type,builtinLookup_eq_fast];kernel_rfl) (by decide +kernel) (by decide +kernel) (by decide +kernel)
  (by first|exact .inl (by decide +kernel)|exact .inr (by decide +kernel)) (by rw [isSubtype_type];kernel_rfl)
theorem qJ (a:Value):argsOk "set_iterator.__iter__" ⟨[a],[]⟩:=by
 unfold argsOk;rw [signature?_of (id:="set_iterator.__iter__") (n:=['_','_','r','e','t','i','_','_']) (o:=['r','o','t','a','r','e','t','i','_','t','e','s']) (by kernel_rfl) mq];kernel_rfl
theorem nX:entryFor table "set_iterator.__iter__"=some Builtin.«dict_keyiterator.__iter__» :=
 entryFor_alias (id':="dict_keyiterator.__iter__") (by kernel_rfl) (by first|rfl|decide +kernel|(unfold String.splitOn;simp +decide [String.splitOnAux])) (by decide +kernel) (by kernel_rfl)
theorem iy:entryFor table "set.__iter__"=some Builtin.«frozenset.__iter__» :=
 entryFor_alias (id':="frozenset.__iter__") (by kernel_rfl) rfl (by decide +kernel) (by kernel_rfl)
end SI
section
variable {prog : Program} {w : World} {A : Around} {E : Value → Shared → Prop} {s : Shared}
noncomputable def fj (h:Heap) (I:Addr) (first:Value) (i:Nat) (S:Addr) (n ep:Nat):Prop:=∃ o,h.get? I=some o∧o.cls=.type "set_iterator"∧o.data=.fields #[first,rawInt i,.ref S,rawInt n,rawInt ep]
theorem fj.typeIs {I S:Addr}{f:Value}{i n ep:Nat} (x:fj s.heap I f i S n ep):s.TypeIs (.ref I) "set_iterator":=let ⟨o,ho,hc,_⟩:=x;⟨o,ho,hc⟩
theorem uK {I S:Addr}{f:Value}{i n ep:Nat}{Q:Value→Shared→Prop} (hit:fj s.heap I f i S n ep) (h:Q (.ref I) s):wpAny (model prog w) A (pyIter (.ref I)) Q E s:=by
 refine wpAny_pyIter_slot hit.typeIs SI.jP (wpAny_call_entry SI.jP hit.typeIs SI.nX ?_ (SI.qJ _))
 show wpAny _ _ (ret (.ref I)) _ _ s
 exact wpAny_pure ⟨_,rfl,"set_iterator",_,hit.typeIs,SI.slot_next.lookup,h⟩
theorem dy {M:Model}{Q:Bool→Shared→Prop} (h:Q (M.w.params.followText "set-order") s):wpAny M A setsByText Q E s:=by
 unfold setsByText
 exact wpAny_bind (wpAny_askSetting (wpAny_pure h))
end
end L2
namespace L2
open PySem PySem.Spec PyProof.Rows
section
variable {prog : Program} {w : World} {A : Around} {E : Value → Shared → Prop} {s : Shared}
noncomputable abbrev kL (es:Array (Int×Value)) (ep:Nat) (t:SetTable):Obj:={ cls:=.type "set",dict:=none,data:=.set es ep t }
theorem mr {I:Addr}{B:Around}{Q:Option Value→Shared→Prop}{h1:Heap}{k:Value→Sem (Option Value)} (hh:B.handled=none)
  (hQ:∀ h',(∀ b o,h1.get? b=some o→h'.get? b=some o)→∀ e,Shared.TypeIs { s with heap:=h' } e "StopIteration"→E e { s with heap:=h' }) {Q':Fin→Shared→Prop} :
  wpAny (model prog w) B (newExc (.type "StopIteration") [] >>= fun e=>(raiseNew e:Sem Fin)) Q' E { s with heap:=h1 }:=by
 refine wpAny_bind ?_
 simp only [newExc,newTuple]
 refine wpAny_bind (wpAny_newObj_type ?_ (by size_fits))
 refine wpAny_bind (m:=firstArgMember _ _) (wpAny_of_eq (a:=Value.none) (by first|rfl|(simp only [firstArgMember];rfl)) ?_)
 refine wpAny_newObj_type ?_ (by size_fits)
 simp only [raiseNew]
 refine wpAny_bind (wpAny_handled ?_)
 rw [hh]
 refine wpAny_bind (wpAny_pure (wpAny_throw ?_))
 exact hQ _ (fun b o e=>Heap.get?_push_of_some _ (Heap.get?_push_of_some _ e)) _ ⟨_,Heap.get?_push_size _ rfl,rfl⟩
theorem pE {I S:Addr}{first:Value}{i ep:Nat}{es:Array (Int×Value)}{t:SetTable}{Q:Option Value→Shared→Prop} (hit:fj s.heap I first i S es.size ep) (ho:s.heap.get? S=some (kL es ep t)) (hf:t.fits es.size=true)
  (hrest:∀ (Q':Fin→Shared→Prop) (E':Value→Shared→Prop) ,(∀ v s',Q (some v) s'→Q' (.done (.ret v)) s')→(∀ e s',s'.TypeIs e "StopIteration"→Q none s'→E' e s') →
   wpAny (model prog w) A.in1 (if let .int slot _:=first then (do
     match ←setNext S slot.toNat i ep with
     |some (x,next) =>
      setField (.ref I) 0 (rawInt next)
      setField (.ref I) 1 (rawInt ((i:Int)+1))
      ret x
     |none=>setField (.ref I) 2 .none;raiseNew (←newExc (.type "StopIteration") []))
    else (do
     let some places ←seqItems? first|unsupported "internal:set_iterator"
     match places[i]? with
     |some (.int place _) =>
      let x ←setNextDrawn S place.toNat ep
      setField (.ref I) 1 (rawInt ((i:Int)+1))
      ret x
     |some _=>unsupported "internal:set_iterator"
     |none=>setField (.ref I) 0 (rawInt 0);setField (.ref I) 2 .none;raiseNew (←newExc (.type "StopIteration") []))) Q' E' s):wpAny (model prog w) A (pyNext (.ref I)) Q E s:=by
 obtain ⟨o,hI,hc,hd⟩:=id hit
 unfold pyNext
 refine wpAny_bind (wpAny_attempt (wpAny_callSpecial?_slot (name:=Str.ofString "__next__") hit.typeIs SI.slot_next
  (wpAny_call_entry SI.slot_next hit.typeIs SI.entry_next ?_ (SI.args_next _))))
 unfold Builtin.«set_iterator.__next__»
 refine wpAny_bind (wpAny_of_eq (a:=(Value.ref I,[])) rfl ?_)
 try dsimp only
 refine wpAny_bind (wpAny_fieldsOf hI hd ?_)
 try dsimp only
 refine wpAny_bind (wpAny_setEntries_of ho rfl hf ?_)
 rw [if_neg (by simp)]
 refine wpAny_mono (hrest (fun fin s'=>∃ r,fin=.done (.ret r)∧Q (some r) s') (fun e s'=>s'.TypeIs e "StopIteration"∧Q none s') (fun v s' q=>⟨v,rfl,q⟩) fun e s' z q=>⟨z,q⟩) ?_ ?_
 ·rintro fin s' ⟨r,rfl,q⟩
  exact ⟨r,rfl,wpAny_pure q⟩
 ·rintro e s' ⟨z,q⟩
  refine wpAny_bind (wpAny_isInstance (T:="StopIteration") (b:=true) z isSubtype_stop ?_)
  exact wpAny_pure q
end
end L2
namespace L2
open PySem PySem.Spec PyProof.Rows
section
variable {prog : Program} {w : World} {A : Around} {E : Value → Shared → Prop} {s : Shared}
theorem pF {I S:Addr}{f f':Value}{i n ep:Nat}{h:Heap}{o:Obj} (hI:h.get? I=some o) (hc:o.cls=.type "set_iterator") (hd:o.data=.fields #[f,rawInt i,.ref S,rawInt n,rawInt ep]) :
  fj (h.update I (Obj.mapFields (·.setIfInBounds 1 (rawInt ((i:Int)+1))))) I f (i+1) S n ep :=
 ⟨_,Heap.get?_update_self _ hI (Obj.isFreed_of_fields (Obj.data_mapFields hd _)),(Obj.cls_mapFields ..).trans hc,by rw [Obj.data_mapFields hd];simp⟩
theorem mw {I S:Addr}{f f':Value}{i n ep:Nat}{h:Heap}{o:Obj} (hI:h.get? I=some o) (hc:o.cls=.type "set_iterator") (hd:o.data=.fields #[f,rawInt i,.ref S,rawInt n,rawInt ep]) :
  ∃ o',(h.update I (Obj.mapFields (·.setIfInBounds 0 f'))).get? I=some o'∧o'.cls=.type "set_iterator"∧o'.data=.fields #[f',rawInt i,.ref S,rawInt n,rawInt ep] :=
 ⟨_,Heap.get?_update_self _ hI (Obj.isFreed_of_fields (Obj.data_mapFields hd _)),(Obj.cls_mapFields ..).trans hc,by rw [Obj.data_mapFields hd];simp⟩
theorem r9 {I S:Addr}{slot i ep:Nat}{es:Array (Int×Value)}{t:SetTable}{Q:Option Value→Shared→Prop} (hit:fj s.heap I (rawInt slot) i S es.size ep) (ho:s.heap.get? S=some (kL es ep t)) (hf:t.fits es.size=true) (hh:A.handled=none)
  {r:Option (Value×Nat)} (hn:∀ (B:Around) (E':Value→Shared→Prop) (Q':Option (Value×Nat)→Shared→Prop),Q' r s→wpAny (model prog w) B (setNext S slot i ep) Q' E' s)
  (h1:∀ x nx,r=some (x,nx)→∀ h',fj h' I (rawInt nx) (i+1) S es.size ep→Heap.SameBut I s.heap h'→Q (some x) { s with heap:=h' })
  (h2:r=none→∀ h',(∀ b o,b≠I→s.heap.get? b=some o→h'.get? b=some o)→Q none { s with heap:=h' }):wpAny (model prog w) A (pyNext (.ref I)) Q E s:=by
 refine pE hit ho hf fun Q' E' q1 q2=>?_
 obtain ⟨o,hI,hc,hd⟩:=id hit
 show wpAny _ _ (setNext S slot i ep >>= _) _ _ s
 refine wpAny_bind (hn _ _ _ ?_)
 cases r with
 |some p =>
  obtain ⟨x,nx⟩:=p
  dsimp only
  refine wpAny_bind (wpAny_setField hI hd (by simp) ?_)
  obtain ⟨o',e1,e2,e3⟩:=mw (f':=rawInt nx) hI hc hd
  refine wpAny_bind (wpAny_setField (s:={ s with heap:=_ }) e1 e3 (by simp) ?_)
  exact wpAny_pure (q1 _ _ (h1 x nx rfl _ (pF (f':=rawInt nx) e1 e2 e3) ((Heap.SameBut.update ..).trans (Heap.SameBut.update ..))))
 |none =>
  dsimp only
  refine wpAny_bind (wpAny_setField hI hd (by simp) ?_)
  refine mr (I:=I) (k:=fun _=>pure none) (Q:=fun _ _=>True) (s:=s) (by simpa using hh) fun h' hk e he=>q2 e _ he (h2 rfl h' fun b ob hb eb=>hk b ob ?_)
  rw [Heap.get?_update_ne _ _ _ _ hb];exact eb
theorem xf {I S T:Addr}{i ep:Nat}{es:Array (Int×Value)}{t:SetTable}{pl:List Nat}{Q:Option Value→Shared→Prop} (hit:fj s.heap I (.ref T) i S es.size ep) (ho:s.heap.get? S=some (kL es ep t)) (hf:t.fits es.size=true) (hh:A.handled=none)
  (hT:s.heap.IsTuple T ((pl.map fun (j:Nat)=>rawInt j).toArray))
  (h1:∀ (j:Nat) (e:Int×Value),pl[i]?=some j→es[j]?=some e→∀ h',fj h' I (.ref T) (i+1) S es.size ep→Heap.SameBut I s.heap h'→Q (some e.2) { s with heap:=h' })
  (hp:∀ j∈pl,j<es.size)
  (h2:pl[i]?=none→∀ h',(∀ b o,b≠I→s.heap.get? b=some o→h'.get? b=some o)→Q none { s with heap:=h' }):wpAny (model prog w) A (pyNext (.ref I)) Q E s:=by
 refine pE hit ho hf fun Q' E' q1 q2=>?_
 obtain ⟨o,hI,hc,hd⟩:=id hit
 obtain ⟨oT,hoT,hcT,nT,hdT⟩:=hT
 show wpAny _ _ (seqItems? (.ref T) >>= _) _ _ s
 refine wpAny_bind (wpAny_seqItems hoT hdT ?_)
 cases e:pl[i]? with
 |some j =>
  have e':(pl.map fun (j:Nat)=>rawInt j).toArray[i]?=some (rawInt j):=by simp [e]
  simp only [e']
  have hj:j<es.size:=hp j (List.mem_of_getElem? e)
  have ej:es[j]?=some (es[j]'hj):=by simp [hj]
  show wpAny _ _ (setNextDrawn S (j:Int).toNat ep >>= _) _ _ s
  unfold setNextDrawn
  rw [Int.toNat_natCast]
  refine wpAny_bind (wpAny_bind (wpAny_setState_of ho rfl hf ?_))
  dsimp only
  rw [if_neg (by simp)]
  generalize es[j]'hj=p at ej
  simp only [ej]
  refine wpAny_pure ?_
  refine wpAny_bind (wpAny_setField hI hd (by simp) ?_)
  exact wpAny_pure (q1 _ _ (h1 j p e ej _ (pF (f':=.ref T) hI hc hd) (Heap.SameBut.update ..)))
 |none =>
  have e':(pl.map fun (j:Nat)=>rawInt j).toArray[i]?=none:=by simp at e ⊢;exact e
  simp only [e']
  refine wpAny_bind (wpAny_setField hI hd (by simp) ?_)
  obtain ⟨o',e1,e2,e3⟩:=mw (f':=rawInt 0) hI hc hd
  refine wpAny_bind (wpAny_setField (s:={ s with heap:=_ }) e1 e3 (by simp) ?_)
  refine mr (I:=I) (k:=fun _=>pure none) (Q:=fun _ _=>True) (s:=s) (by simpa using hh) fun h' hk ex he=>q2 ex _ he (h2 e h' fun b ob hb eb=>hk b ob ?_)
  rw [Heap.get?_update_ne _ _ _ _ hb,Heap.get?_update_ne _ _ _ _ hb];exact eb
end
end L2
namespace L2
open PySem PySem.Spec PyProof.Rows
section
variable {prog : Program} {w : World} {A : Around} {E : Value → Shared → Prop} {s : Shared}
theorem fj.at {h h':Heap}{I S:Addr}{f:Value}{i n ep:Nat} (x:fj h I f i S n ep) (e:∀ o,h.get? I=some o→h'.get? I=some o):fj h' I f i S n ep:=let ⟨o,ho,r⟩:=x;⟨o,e _ ho,r⟩
theorem iz {I S:Addr}{es:Array (Int×Value)}{ep:Nat}{t:SetTable} (hh:A.handled=none) (hne:S≠I) (hf:t.fits es.size=true) (T:Addr) (hT:T≠I) (ord:List Value) (hlen:ord.length=es.size)
  (first:Nat→Value) (side:Heap→Prop) (hside:∀ h h',side h→(∀ o,h.get? T=some o→h'.get? T=some o)→side h')
  (hstep:∀ (s:Shared) (i:Nat) (E:Value→Shared→Prop) (Q:Option Value→Shared→Prop),i≤es.size→side s.heap→fj s.heap I (first i) i S es.size ep→s.heap.get? S=some (kL es ep t) →
   (∀ x,ord[i]?=some x→∀ h',fj h' I (first (i+1)) (i+1) S es.size ep→Heap.SameBut I s.heap h'→Q (some x) { s with heap:=h' }) →
   (ord[i]?=none→∀ h',(∀ b o,b≠I→s.heap.get? b=some o→h'.get? b=some o)→Q none { s with heap:=h' })→wpAny (model prog w) A (pyNext (.ref I)) Q E s) :
  Walks prog w A I [I,S,T] [I] es.size (fun i v=>ord[i]?=some v) (fun i h=>i≤es.size∧fj h I (first i) i S es.size ep∧h.get? S=some (kL es ep t)∧side h) where
 sub:=fun b hb=>by rw [List.mem_singleton.mp hb];simp
 frame:=fun i h h' x hk=>⟨x.1,x.2.1.at fun o e=>hk I (by simp) o e,hk S (by simp) _ x.2.2.1,hside h h' x.2.2.2 fun o e=>hk T (by simp) o e⟩
 item:=fun i s Q E hi x hQ=>by
  refine hstep s i E Q x.1 x.2.2.2 x.2.1 x.2.2.1 (fun v hv h' hit hs=>?_) fun z=>absurd z (by simp;omega)
  refine hQ v h' s.toks hv ⟨hi,hit,?_,hside _ h' x.2.2.2 fun o e=>?_⟩ fun b o hb e=>?_
  ·rw [hs.2 S hne];exact x.2.2.1
  ·rw [hs.2 T hT];exact e
  ·rw [hs.2 b fun z=>hb (by simp [z])];exact e
 done:=fun s Q E x hQ=>by
  refine hstep s es.size E Q x.1 x.2.2.2 x.2.1 x.2.2.1 (fun v hv=>absurd hv (by rw [List.getElem?_eq_none (by omega)];simp)) fun _ h' hk=>hQ h' s.toks fun b o hb e=>hk b o (fun z=>hb (by simp [z])) e
 self:=fun i s Q E x hQ=>uK x.2.1 hQ
theorem kM {S:Addr}{es:Array (Int×Value)}{ep:Nat}{t:SetTable}{Q:Bool→Shared→Prop} (ho:s.heap.get? S=some (kL es ep t)) (hf:t.fits es.size=true) (h:Q (!w.params.followText "set-order"&&(!t.plain&&decide (es.size > 1))) s):wpAny (model prog w) A (setDrawn S) Q E s:=by
 unfold setDrawn
 refine wpAny_bind (wpAny_setState_of ho rfl hf ?_)
 dsimp only
 exact wpAny_bind (dy (wpAny_pure h))
theorem kN {S:Addr}{es:Array (Int×Value)}{ep i:Nat}{t:SetTable}{Q:Option (Value×Nat)→Shared→Prop} (hw:w.params.followText "set-order"=true) (ho:s.heap.get? S=some (kL es ep t)) (hf:t.fits es.size=true)
  (h:Q ((pickOrder (w.params.setOrder S ep) es)[i]?.map fun e=>(e.2,0)) s):wpAny (model prog w) A (setNext S 0 i ep) Q E s:=by
 unfold setNext
 refine wpAny_bind (wpAny_setState_of ho rfl hf ?_)
 dsimp only
 refine wpAny_bind (dy ?_)
 show wpAny _ _ (if (w.params.followText "set-order")=true then _ else _) _ _ s
 rw [if_pos hw]
 rw [if_neg (by simp)]
 unfold setWalk
 refine wpAny_bind (wpAny_bind (wpAny_setState_of ho rfl hf ?_))
 dsimp only
 refine wpAny_bind (dy ?_)
 show wpAny _ _ (if (w.params.followText "set-order")=true then _ else _) _ _ s
 rw [if_pos hw]
 refine wpAny_bind (wpAny_askSetting (wpAny_pure ?_))
 exact wpAny_pure h
theorem mz {S : Addr} {es : Array (Int × Value)} {ep i slot : Nat} {t : SetTable} {Q : Option (Value × Nat) → Shared → Prop} (hw : w.params.followText "set-order" = false) (ho : s.heap.get? S = some (kL es ep t)) (hf : t.fits es.size = true) (hl : t.led = true) (h1 : es.size ≤ 1)
    (h : Q (match es[SetTable.below t.place slot]?, t.place[SetTable.below t.place slot]? with | some (_, x), some j => some (x, j + 1) | _, _ => none) s) : wpAny (model prog w) A (setNext S slot i ep) Q E s := by
  unfold setNext
  refine wpAny_bind (wpAny_setState_of ho rfl hf ?_)
  dsimp only
  refine wpAny_bind (dy ?_)
  show wpAny _ _ (if (w.params.followText "set-order") = true then _ else _) _ _ s
  rw [if_neg (by rw [hw]; simp)]
  show wpAny _ _ (if (!t.plain && decide (es.size > 1)) = true then _ else _) _ _ s
  rw [if_neg (by have : decide (es.size > 1) = false := decide_eq_false (by omega)
                 rw [this]; simp)]
  show wpAny _ _ ((if (!t.led && !es.isEmpty) = true then _ else _) >>= _) _ _ s
  rw [if_neg (by rw [hl]; simp)]
  exact wpAny_bind (wpAny_pure (wpAny_pure h))
theorem mB (es:Array (Int×Value)) (pl:Array Nat) (i:Nat) (h1:es.size≤1) (h2:pl.size=es.size) (h3:i≤es.size) :
  (match es[SetTable.below pl (if i=0 then 0 else (pl[0]?).getD 0+1)]?,pl[SetTable.below pl (if i=0 then 0 else (pl[0]?).getD 0+1)]? with|some (_,x),some j=>some (x,j+1)|_,_=>none)=es[i]?.map fun e=>(e.2,(pl[0]?).getD 0+1):=by
 obtain ⟨es⟩:=es
 obtain ⟨pl⟩:=pl
 match es,pl,h1,h2,h3 with
 |[],[],_,_,h3=>simp
 |[e],[p],_,_,h3 =>
  match i,h3 with
  |0,_ =>
   have:SetTable.below #[p] 0=0:=by simp [SetTable.below,SetTable.below.go]
   simp [this]
  |1,_ =>
   have:SetTable.below #[p] (p+1)=1:=by simp [SetTable.below,SetTable.below.go]
   simp [this]
  |n+2,h=>simp at h
 |[],_::_,_,h,_=>simp at h
 |[_],[],_,h,_=>simp at h
 |[_],_::_::_,_,h,_=>simp at h
 |_::_::_,_,h,_,_=>simp at h
theorem r_ {S:Addr}{D:List Str}{Q:Value→Shared→Prop}{B:Around} (hh:B.handled=none) (hS:dv prog w s.heap S (cv w) D)
  (h:∀ (I:Addr) (fp:List Addr) (n:Nat) (P:Nat→Value→Prop) (St:Nat→Heap→Prop) (ys:List Str) (h':Heap) (d':Drawn),Walks prog w B I fp [I] n P St→ys.Perm D→n=ys.length→(∀ i v,P i v→∃ x tk,ys[i]?=some x∧v=.str x tk)→s.heap.objs.size≤I→(∀ b∈fp,b=S∨s.heap.objs.size≤b)→St 0 h' →
   (∀ b o,s.heap.get? b=some o→h'.get? b=some o)→Q (.ref I) { s with heap:=h',drawn:=d' }):wpAny (model prog w) A (pyIter (.ref S)) Q E s:=by
 obtain ⟨L,es,ep,t,ho,hes,hperm,hnd,hf,hb,hled,hpl⟩:=hS
 have hTS:s.TypeIs (.ref S) "set":=⟨_,ho,rfl⟩
 have hSlt:S<s.heap.objs.size:=Heap.lt_size ho
 refine wpAny_pyIter_slot hTS PySem.F.slot_set_iter (wpAny_call_entry PySem.F.slot_set_iter hTS SI.iy ?_ (PySem.F.args_set_iter_1 _))
 unfold Builtin.«frozenset.__iter__» Builtin.Frozenset.slot0 slotArgs
 simp only [List.isEmpty_nil,Bool.not_true,Bool.false_eq_true,↓reduceIte,bind_assoc,List.length_nil,bne_self_eq_false]
 unfold Builtin.Frozenset.addrOf Builtin.Frozenset.sizeOf
 refine wpAny_bind (wpAny_pure ?_)
 try dsimp only
 refine wpAny_bind (wpAny_pure ?_)
 refine wpAny_bind (wpAny_bind (wpAny_setEntries_of ho rfl hf (wpAny_pure ?_)))
 have hLd:D.length=es.size:=by rw [←hperm.length_eq,List.length_map,←Array.length_toList,hes,List.length_map]
 have look:∀ (l:List (Int×Value)),l.Perm es.toList→∃ ys:List Str,ys.Perm D∧ys.length=es.size∧∀ (i:Nat) (v:Value),(l.map (·.2))[i]?=some v→∃ (x:Str) (tk:Tok),ys[i]?=some x∧v=Value.str x tk:=by
  intro l hl
  rw [hes] at hl
  obtain ⟨L',e',p'⟩:=fh hl
  refine ⟨L'.map (·.1),(p'.map _).trans hperm,by rw [((p'.map _).trans hperm).length_eq,hLd],fun i v hv=>?_⟩
  subst e'
  rw [List.map_map,List.getElem?_map] at hv
  rw [List.getElem?_map]
  cases q:L'[i]? with
  |none=>rw [q] at hv;simp at hv
  |some p=>rw [q] at hv;simp at hv;exact ⟨p.1,p.2,rfl,hv.symm⟩
 refine wpAny_bind (kM ho hf ?_)
 cases hw:w.params.followText "set-order" with
 |true =>
  simp only [Bool.not_true,Bool.false_and,Bool.false_eq_true,↓reduceIte]
  refine wpAny_bind (wpAny_pure ?_)
  refine wpAny_bind (wpAny_bind (wpAny_setState_of ho rfl hf (wpAny_pure ?_)))
  refine wpAny_bind (wpAny_newObj_type ?_)
  have hn:S≠s.heap.objs.size:=Nat.ne_of_lt hSlt
  obtain ⟨ys,y1,y2,y3⟩:=look (pickOrder (w.params.setOrder S ep) es).toList (dX _ _)
  have W:=iz (prog:=prog) (w:=w) (A:=B) (I:=s.heap.objs.size) (S:=S) (es:=es) (ep:=ep) (t:=t) hh hn hf S hn ((pickOrder (w.params.setOrder S ep) es).toList.map (·.2)) (by rw [List.length_map,(dX _ _).length_eq,Array.length_toList]) (fun _=>rawInt 0) (fun _=>True) (fun _ _ _ _=>trivial)
   (fun s i E Q _ _ hit ho' k1 k2=>r9 (slot:=0) hit ho' hf hh (fun B E' Q' q=>kN hw ho' hf q) (fun x nx e h' hit' hs=>by
    rw [Option.map_eq_some_iff] at e
    obtain ⟨p,e1,e2⟩:=e
    cases e2
    exact k1 _ (by rw [List.getElem?_map,Array.getElem?_toList,e1];rfl) h' hit' hs) (fun e=>k2 (by rw [List.getElem?_map,Array.getElem?_toList,Option.map_eq_none_iff];rwa [Option.map_eq_none_iff] at e)))
  refine wpAny_pure ⟨_,rfl,"set_iterator",_,⟨_,Heap.get?_push_size _ rfl,rfl⟩,SI.slot_next.lookup,?_⟩
  exact h _ _ _ _ _ ys _ s.drawn W y1 y2.symm y3 (Nat.le_refl _) (fun b hb=>by
   simp only [List.mem_cons,List.not_mem_nil,or_false] at hb
   rcases hb with rfl|rfl|rfl
   ·exact .inr (Nat.le_refl _)
   ·exact .inl rfl
   ·exact .inl rfl) ⟨Nat.zero_le _,⟨_,Heap.get?_push_size _ rfl,rfl,rfl⟩,Heap.get?_push_of_some _ ho,trivial⟩ fun b o e=>Heap.get?_push_of_some _ e
 |false =>
  by_cases hsz:es.size > 1
  ·have hplain:t.plain=false:=by
    rcases hpl with z|z
    ·omega
    ·exact z
   have e1:(!false&&(!t.plain&&decide (es.size > 1)))=true:=by rw [hplain,decide_eq_true hsz];rfl
   rw [e1]
   simp only [↓reduceIte]
   refine wpAny_bind (eW _ _ _ _ List.length_range fun pl d' hp=>?_)
   simp only [newTuple]
   have hpl2:∀ j∈pl,j<es.size:=fun j hj=>by have:=hp.mem_iff.mp hj;simpa using this
   have hpll:pl.length=es.size:=by rw [hp.length_eq];simp
   refine wpAny_bind (wpAny_newObj_type ?_ (by
    show (pl.map fun (j:Nat)=>rawInt j).toArray.size≤_
    have:es.size<4096:=hb
    simp only [List.size_toArray,List.length_map,hpll]
    have:(4096:Nat)≤sizeLine:=by decide
    omega))
   have ho1:(s.heap.push { cls:=.type "tuple",data:=.seq (pl.map fun (j:Nat)=>rawInt j).toArray }).get? S=some (kL es ep t):=Heap.get?_push_of_some _ ho
   refine wpAny_bind (wpAny_bind (wpAny_setState_of (s:={ s with heap:=_,drawn:=d' }) ho1 rfl hf (wpAny_pure ?_)))
   refine wpAny_bind (wpAny_newObj_type ?_)
   have hIT:s.heap.objs.size≠(s.heap.push { cls:=.type "tuple",data:=.seq (pl.map fun (j:Nat)=>rawInt j).toArray }).objs.size:=by rw [size_push'];exact Nat.ne_of_lt (Nat.lt_succ_self _)
   have hn:S≠(s.heap.push { cls:=.type "tuple",data:=.seq (pl.map fun (j:Nat)=>rawInt j).toArray }).objs.size:=by rw [size_push'];exact Nat.ne_of_lt (Nat.lt_succ_of_lt hSlt)
   have hperm2:(pl.map fun j=>(es[j]?).getD (0,Value.none)).Perm es.toList:=by
    refine (hp.map _).trans ?_
    have:(List.range es.size).map (fun j=>(es[j]?).getD (0,Value.none))=es.toList:=by
     apply List.ext_getElem
     ·simp
     ·intro i h1 h2;simp at h1 ⊢;simp [h1]
    rw [this]
   obtain ⟨ys,y1,y2,y3⟩:=look _ hperm2
   have W:=iz (prog:=prog) (w:=w) (A:=B) (I:=(s.heap.push { cls:=.type "tuple",data:=.seq (pl.map fun (j:Nat)=>rawInt j).toArray }).objs.size) (S:=S) (es:=es) (ep:=ep) (t:=t) hh hn hf s.heap.objs.size hIT ((pl.map fun j=>(es[j]?).getD (0,Value.none)).map (·.2)) (by simp [hpll]) (fun _=>.ref s.heap.objs.size) (fun h=>h.IsTuple s.heap.objs.size (pl.map fun (j:Nat)=>rawInt j).toArray) (fun h h' ⟨o,ho,r⟩ k=>⟨o,k _ ho,r⟩)
    (fun s' i E Q _ hside hit ho' k1 k2=>xf hit ho' hf hh hside (fun j e ej ee h' hit' hs=>k1 _ (by rw [List.getElem?_map,List.getElem?_map,ej];simp [ee]) h' hit' hs) hpl2 (fun e=>k2 (by rw [List.getElem?_map,List.getElem?_map,e];rfl)))
   refine wpAny_pure ⟨_,rfl,"set_iterator",_,⟨_,Heap.get?_push_size _ rfl,rfl⟩,SI.slot_next.lookup,?_⟩
   refine h _ _ _ _ _ ys _ d' W y1 y2.symm y3 (by rw [size_push'];exact Nat.le_succ _) (fun b hb=>?_) ⟨Nat.zero_le _,⟨_,Heap.get?_push_size _ rfl,rfl,rfl⟩,Heap.get?_push_of_some _ ho1,⟨_,Heap.get?_push_of_some _ (Heap.get?_push_size _ rfl),rfl,_,rfl⟩⟩ fun b o e=>Heap.get?_push_of_some _ (Heap.get?_push_of_some _ e)
   rw [size_push'] at hb
   simp only [List.mem_cons,List.not_mem_nil,or_false] at hb
   rcases hb with rfl|rfl|rfl
   ·exact .inr (Nat.le_succ _)
   ·exact .inl rfl
   ·exact .inr (Nat.le_refl _)
  ·have e1:(!false&&(!t.plain&&decide (es.size > 1)))=false:=by rw [decide_eq_false hsz];simp
   rw [e1]
   simp only [Bool.false_eq_true,↓reduceIte]
   refine wpAny_bind (wpAny_pure ?_)
   refine wpAny_bind (wpAny_bind (wpAny_setState_of ho rfl hf (wpAny_pure ?_)))
   refine wpAny_bind (wpAny_newObj_type ?_)
   have hn:S≠s.heap.objs.size:=Nat.ne_of_lt hSlt
   have hld:t.led=true:=by rw [hled];show (!w.params.followText "set-order")=true;rw [hw];rfl
   obtain ⟨ys,y1,y2,y3⟩:=look es.toList (.refl _)
   have hps:t.place.size=es.size:=by
    unfold SetTable.fits at hf
    simp only [Bool.and_eq_true,beq_iff_eq] at hf
    exact hf.1
   have W:=iz (prog:=prog) (w:=w) (A:=B) (I:=s.heap.objs.size) (S:=S) (es:=es) (ep:=ep) (t:=t) hh hn hf S hn (es.toList.map (·.2)) (by simp) (fun i=>rawInt ((if i=0 then 0 else (t.place[0]?).getD 0+1:Nat):Nat)) (fun _=>True) (fun _ _ _ _=>trivial)
    (fun s' i E Q hi _ hit ho' k1 k2=>r9 (slot:=if i=0 then 0 else (t.place[0]?).getD 0+1) hit ho' hf hh (fun B E' Q' q=>mz hw ho' hf hld (by omega) q) (fun x nx e h' hit' hs=>by
     rw [mB es t.place i (by omega) hps hi,Option.map_eq_some_iff] at e
     obtain ⟨p,e1,e2⟩:=e
     cases e2
     refine k1 _ (by rw [List.getElem?_map,Array.getElem?_toList,e1];rfl) h' ?_ hs
     rw [if_neg (Nat.succ_ne_zero i)]
     exact hit') (fun e=>by
     rw [mB es t.place i (by omega) hps hi,Option.map_eq_none_iff] at e
     exact k2 (by rw [List.getElem?_map,Array.getElem?_toList,e];rfl)))
   refine wpAny_pure ⟨_,rfl,"set_iterator",_,⟨_,Heap.get?_push_size _ rfl,rfl⟩,SI.slot_next.lookup,?_⟩
   exact h _ _ _ _ _ ys _ s.drawn W y1 y2.symm y3 (Nat.le_refl _) (fun b hb=>by
    simp only [List.mem_cons,List.not_mem_nil,or_false] at hb
    rcases hb with rfl|rfl|rfl
    ·exact .inr (Nat.le_refl _)
    ·exact .inl rfl
    ·exact .inl rfl) ⟨Nat.zero_le _,⟨_,Heap.get?_push_size _ rfl,rfl,rfl⟩,Heap.get?_push_of_some _ ho,trivial⟩ fun b o e=>Heap.get?_push_of_some _ e
end
end L2
namespace L2
open PySem PySem.Spec PyProof.Rows
theorem mC:typeLookup (.type "set") "__len__"=pure (some (.builtin "set.__len__")):=by rw [typeLookup_type,builtinLookup_eq_fast];kernel_rfl
section
variable {prog : Program} {w : World} {A : Around} {E : Value → Shared → Prop} {s : Shared}
theorem iA:∀ {vs:List Value}{ys:List Str},vs.length=ys.length→(∀ (i:Nat) (v:Value),vs[i]?=some v→∃ x t,ys[i]?=some x∧v=.str x t)→StrsAre vs ys
 |[],[],_,_=>.nil
 |[],_::_,h,_=>by simp at h
 |_::_,[],h,_=>by simp at h
 |v::vs,y::ys,h,k=>by
  obtain ⟨x,t,e1,e2⟩:=k 0 v rfl
  cases e1
  subst e2
  exact .cons y t (iA (by simpa using h) fun i w hw=>k (i+1) w hw)
theorem mD {S:Addr}{D:List Str}{Q:List Value→Shared→Prop} (hh:A.handled=none) (hS:dv prog w s.heap S (cv w) D) (hn:D.length≤sizeLine)
  (hQ:∀ (vs:List Value) (ys:List Str) (h':Heap) (d':Drawn) (tk:Nat),ys.Perm D→StrsAre vs ys→s.heap.objs.size≤h'.objs.size→s.toks≤tk→(∀ b o,s.heap.get? b=some o→h'.get? b=some o)→Q vs { s with heap:=h',drawn:=d',toks:=tk }) :
  wpAny (model prog w) A (collect (.ref S)) Q E s:=by
 obtain ⟨L,es,ep,t,ho,rest⟩:=id hS
 have hSlt:S<s.heap.objs.size:=Heap.lt_size ho
 unfold collect
 refine wpAny_bind (wpAny_runValue (codeAny_builtin PySem.F.entry_proto_collect ?_))
 rw [Around.under_plainId PySem.F.plain_proto_collect _]
 show wpAny _ A.in1 (newList [] >>= fun l=>again (.builtin "list.__iadd__" ⟨[l,.ref S],[]⟩)) _ _ s
 refine wpAny_bind (wpAny_newObj_type ?_)
 refine wpAny_pure ⟨plainId_quiet PySem.F.plain_list_iadd _,codeAny_builtin PySem.F.entry_list_iadd ?_⟩
 rw [Around.under_plainId PySem.F.plain_list_iadd _]
 have ho1:(s.heap.push { cls:=.type "list",data:=.seq ([]:List Value).toArray }).get? S=some { cls:=.type "set",dict:=none,data:=.set es ep t }:=Heap.get?_push_of_some _ ho
 have hT:Shared.TypeIs { s with heap:=s.heap.push { cls:=.type "list",data:=.seq ([]:List Value).toArray } } (.ref S) "set":=⟨_,ho1,rfl⟩
 show wpAny _ A.in1 (Builtin.List.listExtendWith (.ref s.heap.objs.size) (.ref S) (.ref s.heap.objs.size)) _ _ _
 unfold Builtin.List.listExtendWith
 refine wpAny_bind (wpAny_typeOf hT ?_)
 have hne:s.heap.objs.size≠S:=Nat.ne_of_gt hSlt
 have h1:Builtin.List.listSameRef (.ref s.heap.objs.size) (.ref S)=false:=by simp [Builtin.List.listSameRef,hne]
 have h2:(Value.type "set"==Value.type "list")=false:=by decide
 have h3:(Value.type "set"==Value.type "tuple")=false:=by decide
 simp only [h1,h2,h3,Bool.or_false,Bool.false_eq_true,if_false]
 refine wpAny_bind (r_ (B:=A.in1) (by simpa using hh) ⟨L,es,ep,t,ho1,rest⟩ ?_)
 intro I fp n P St ys h' d' W hp hny hP hI hfp hst hk
 have hT':Shared.TypeIs { s with heap:=h',drawn:=d' } (.ref S) "set":=⟨_,hk _ _ ho1,rfl⟩
 refine wpAny_bind (wpAny_holding ?_)
 unfold Builtin.List.listLengthHint
 refine wpAny_bind (wpAny_specialOf hT' mC ?_)
 have hsp:splitId "set.__len__"=some ("set","__len__"):=by decide +kernel
 dsimp only
 rw [hsp]
 dsimp only
 refine wpAny_bind (wpAny_isInstance hT' sub_set_self ?_)
 rw [if_neg (by decide)]
 rw [if_pos (by decide +kernel)]
 refine wpAny_bind (wpAny_typeOf hT' ?_)
 refine wpAny_pure ?_
 rw [if_pos (by decide +kernel)]
 have hSf:s.heap.objs.size∉fp:=fun hm=>by
  rcases hfp _ hm with z|z
  ·exact hne z
  ·rw [size_push'] at z;exact absurd z (Nat.not_succ_le_self _)
 have hS1:h'.get? s.heap.objs.size=some { cls:=.type "list",data:=.seq ([]:List Value).toArray }:=hk _ _ (Heap.get?_push_size _ rfl)
 refine wpAny_bind (wpAny_rule ?_)
 refine wpAny_bind ?_
 show wpAny _ A.in1 (updateSeq s.heap.objs.size (·.push .none) >>= fun _=>updateSeq s.heap.objs.size (·.pop)) _ _ _
 refine wpAny_bind (wpAny_updateSeq hS1 rfl ?_)
 have hS2:=Heap.get?_update_self (Obj.mapSeq (·.push Value.none)) hS1 rfl
 refine wpAny_updateSeq hS2 rfl ?_
 have hS3:=Heap.get?_update_self (Obj.mapSeq (·.pop)) hS2 rfl
 have oth:∀ b o,b≠s.heap.objs.size→h'.get? b=some o→((h'.update s.heap.objs.size (Obj.mapSeq (·.push Value.none))).update s.heap.objs.size (Obj.mapSeq (·.pop))).get? b=some o :=
  fun b o hb e=>(Heap.get?_update_other _ _ (Ne.symm hb)).trans ((Heap.get?_update_other _ _ (Ne.symm hb)).trans e)
 refine wpAny_pure ⟨plainId_quiet PySem.F.plain_extend_loop _,codeAny_extend_loopS W.toS (by rw [hny,hp.length_eq];exact hn) _ hSf _ n 0 _ _ _ rfl (Nat.zero_le _) (W.frame 0 h' _ hst fun b hb o e=>oth b o (fun z=>hSf (z ▸ hb)) e) hS3 (ItemsOf.nil P) fun s' acc' c' hm hS' hacc=>?_⟩
 show wpAny _ A (load s.heap.objs.size >>= _) _ _ s'
 refine wpAny_bind (wpAny_load hS' ?_)
 obtain ⟨h2',g2,d2,tk2,os2⟩:=s'
 have eg:g2=s.gens:=hm.gens
 have ed:d2=d':=hm.drawn
 have eo:os2=s.os:=hm.os
 subst eg;subst ed;subst eo
 refine wpAny_pure (hQ _ ys h2' d2 tk2 hp (iA (by rw [Array.length_toList,hacc.1,hny]) fun i v hv=>hP i v (hacc.2 i v (by rwa [Array.getElem?_toList] at hv))) (Nat.le_of_lt (Heap.lt_size hS')) hm.toks fun b o e=>?_)
 have hb0:b≠s.heap.objs.size:=fun z=>by rw [z] at e;exact absurd (Heap.lt_size e) (Nat.lt_irrefl _)
 refine hm.heap b o (fun z=>?_) (oth b o hb0 (hk _ _ (Heap.get?_push_of_some _ e)))
 rcases List.mem_cons.mp z with z|z
 ·exact hb0 z
 ·rw [List.mem_singleton.mp z] at e
  have:=Heap.lt_size e
  rw [size_push'] at hI
  exact absurd (Nat.lt_of_lt_of_le this (Nat.le_trans (Nat.le_succ _) hI)) (Nat.lt_irrefl _)
end
end L2
namespace L2
open PySem PySem.Spec PyProof.Rows
section
variable {X : Cx} {pins : List (Addr × Obj)} {σ : List (Option V)} {H : Hp} {s : Shared}
theorem Inv.drawn (I:Inv X pins σ H s) (d:Drawn):Inv X pins σ H { s with drawn:=d }:=⟨I.ok,I.os,I.bare,I.base,I.loc,I.cell,I.free,I.freeC,I.pin,I.hok,I.len⟩
theorem fT {p:Addr}{ys:List Str}{Q:Value→Shared→Prop} (hc:X.calm=true) (I:Inv X pins σ H s) (hq:SqL X.K H p (ys.map V.str)∨SqT X.K H p (ys.map V.str)) (hb:ys.length+1<scanBound)
  (h:∀ (S:Addr) (h':Heap) (tk:Nat),dv X.prog X.w h' S (cv X.w) (aJ ys)→Inv X pins σ H { s with heap:=h',toks:=tk }→Q (.ref S) { s with heap:=h',toks:=tk }) :
  wpAny (model X.prog X.w) X.A (call (.type "set") [.ref p]) Q X.xe s:=by
 have hh:X.A.handled=none:=I.ok.hd hc
 rcases hq with hq|hq
 ·obtain ⟨its,rv,pl,hz⟩:=I.list hq
  exact iw hh pl.isList (cI rv) hb fun h' tk hS k=>h _ h' tk hS (I.kept fun b o e=>k b o (Heap.lt_size e) e)
 ·obtain ⟨its,rv,pl,hz⟩:=I.tuple hq
  exact js hh pl (cI rv) hb fun h' tk hS k=>h _ h' tk hS (I.kept fun b o e=>k b o (Heap.lt_size e) e)
theorem jt {S:Addr}{D:List Str}{Q:VK} (hc:X.calm=true) (I:Inv X pins σ H s) (hS:dv X.prog X.w s.heap S (cv X.w) D) (h64:D.length<64)
  (q:∀ p,H p=none→Q (.ref p) (upd H p (.lst ((bo D).map V.str)))):wpAny (model X.prog X.w) X.A (call (.builtin "sorted") [.ref S]) (EP X pins σ Q) X.xe s:=by
 have hh:X.A.handled=none:=I.ok.hd hc
 have hl:D.length≤sizeLine:=Nat.le_of_lt (Nat.lt_of_lt_of_le h64 (by decide))
 refine fg (mD (A:=X.A.in1) (by simpa using hh) hS hl fun vs ys h' d' tk hp hv hsz htk hk=>⟨ys,hv,by rw [fS hv,hp.length_eq];exact h64,fun h2 vs' e k2 at2 s2=>?_⟩)
 rw [mi hp] at s2
 have I1:Inv X pins σ H { s with heap:=h',toks:=tk }:=I.kept (t':=tk) hk
 have I2:Inv X pins σ H { s with heap:=h',drawn:=d',toks:=tk }:=I1.drawn d'
 exact ⟨.ref h'.objs.size,_,I2.laid (t':=tk) (o:=.lst ((bo D).map V.str)) k2 (Nat.le_refl _) ⟨by rw [List.length_map,dt];exact hl,vs',e,du s2,at2⟩,rfl,q _ (I2.hok.fresh (Nat.le_refl _))⟩
theorem nY {S:Addr}{D:List Str}{Q:VK} (I:Inv X pins σ H s) (hS:dv X.prog X.w s.heap S (cv X.w) D)
  (q:Q (.int D.length) H):wpAny (model X.prog X.w) X.A (call (.builtin "len") [.ref S]) (EP X pins σ Q) X.xe s:=by
 obtain ⟨L,es,ep,t,ho,hes,hperm,hnd,hf,hb,hled,hpl⟩:=hS
 have hlen:es.size=D.length:=by rw [←Array.length_toList,hes,List.length_map,←List.length_map (f:=Prod.fst) (as:=L),hperm.length_eq]
 have hb':es.size<4096:=hb
 refine call_len_set ho ⟨rfl,rfl,rfl⟩ rfl hf (by omega) ?_
 exact ⟨.int es.size,_,I.kept (t':=s.toks+1+1) (fun _ _ e=>e),⟨_,rfl⟩,by rw [hlen];exact q⟩
end
end L2
namespace L2
open PySem PySem.Spec PyProof.Rows
section
variable {prog : Program} {w : World} {A : Around} {R : Result → Shared → Prop} {E : Value → Shared → Prop} {s : Shared}
variable {I : Addr} {fp wr : List Addr} {G : Array GenState → Array GenState → Prop} {n : Nat} {P : Nat → Value → Prop} {St : Nat → Shared → Prop}
open AutoSeq1 (wpAny_loadPart') in
end
end L2
namespace L2
open PySem PySem.Spec PyProof.Rows
theorem uL {its:List Value}{acc:Array Value} (h:ItemsOf (fun i v=>its.toArray[its.toArray.size - 1 - i]?=some v) acc its.toArray.size):acc.toList=its.reverse:=by
 apply List.ext_getElem?
 intro i
 have hs:acc.size=its.length:=by have:=h.1;simpa using this
 by_cases hi:i<its.length
 ·have hi':i<acc.size:=by omega
  have:=h.2 i (acc[i]'hi') (by simp [hi'])
  rw [Array.getElem?_toList,Array.getElem?_eq_getElem hi',List.getElem?_reverse hi]
  simpa using this.symm
 ·rw [List.getElem?_eq_none (by rw [Array.length_toList];omega),List.getElem?_eq_none (by rw [List.length_reverse];omega)]
section
variable {X : Cx} {pins : List (Addr × Obj)} {σ : List (Option V)} {H : Hp} {s : Shared}
end
end L2
namespace L2
open PySem PySem.Spec PyProof.Rows
theorem qK (l:Addr) (items:Array Value) (n:Nat) (b:Addr) (items2:Array Value) (n2:Nat) (dd:Option Addr) (sl:Array (Option Value)) (hs0:¬(!items.isEmpty&&Builtin.List.listTooLong (items.size+items2.size))=true) (hs1:items.size≤sizeLine) (hs2:items.size+items2.size≤sizeLine+1) :
  Meets (Builtin.«list.extend» ⟨[.ref l,.ref b],[]⟩) (fun _ R s=>s.heap.get? l=some { cls:=.type "list",dict:=none,data:=.seq items n,slots:=#[] }∧s.heap.get? b=some { cls:=.type "list",dict:=dd,data:=.seq items2 n2,slots:=sl }∧R (.ok (.ret Value.none)) { s with heap:=s.heap.update l (Obj.mapSeq fun x=>x++items2),toks:=s.toks }) :=
 .of_wp fun prog w A R s h=>by
  obtain ⟨hp,g,d,tk,os⟩:=s;obtain ⟨hl,hb,h⟩:=h;have f1:=AutoSeq1.idx_int;have f2:=AutoSeq1.sub_tuple_tuple;have f3:=AutoSeq1.sub_list_list;have f4:=AutoSeq1.sub_tuple_list;have f5:=AutoSeq1.sub_list_tuple;
  have hz':(items++items2).size≤sizeLine+1:=by rw [Array.size_append];exact hs2
  wp_walk using (wpAny_updateSeq hl rfl (hz:=hs1) (_hz':=hz')),AutoSeq1.wpAny_loadPart' hl,AutoSeq1.wpAny_loadPart' hb;exact ⟨_,rfl,h⟩
theorem qL (l:Addr) (items:Array Value) (n:Nat) (b:Addr) (items2:Array Value) (n2:Nat) (dd:Option Addr) (sl:Array (Option Value)) (hs0:¬(!items.isEmpty&&Builtin.List.listTooLong (items.size+items2.size))=true) (hs1:items.size≤sizeLine) (hs2:items.size+items2.size≤sizeLine+1) :
  Meets (Builtin.«list.extend» ⟨[.ref l,.ref b],[]⟩) (fun _ R s=>s.heap.get? l=some { cls:=.type "list",dict:=none,data:=.seq items n,slots:=#[] }∧s.heap.get? b=some { cls:=.type "tuple",dict:=dd,data:=.seq items2 n2,slots:=sl }∧R (.ok (.ret Value.none)) { s with heap:=s.heap.update l (Obj.mapSeq fun x=>x++items2),toks:=s.toks }) :=
 .of_wp fun prog w A R s h=>by
  obtain ⟨hp,g,d,tk,os⟩:=s;obtain ⟨hl,hb,h⟩:=h;have f1:=AutoSeq1.idx_int;have f2:=AutoSeq1.sub_tuple_tuple;have f3:=AutoSeq1.sub_list_list;have f4:=AutoSeq1.sub_tuple_list;have f5:=AutoSeq1.sub_list_tuple;
  have hz':(items++items2).size≤sizeLine+1:=by rw [Array.size_append];exact hs2
  wp_walk using (wpAny_updateSeq hl rfl (hz:=hs1) (_hz':=hz')),AutoSeq1.wpAny_loadPart' hl,AutoSeq1.wpAny_loadPart' hb;exact ⟨_,rfl,h⟩
section
variable {X : Cx} {pins : List (Addr × Obj)} {σ : List (Option V)} {H : Hp} {s : Shared}
theorem nZ:MtM X "list.extend" (fun x vs H Q=>∃ l b xs zs,x=.ref l∧vs=[.ref b]∧H l=some (.lst xs)∧(SqL X.K H b zs∨SqT X.K H b zs)∧xs.length+zs.length≤sizeLine∧Q .non (upd H l (.lst (xs++zs)))):=by
 intro pins s σ H x vs v us Q I rx rv h
 obtain ⟨l,b,xs,zs,rfl,rfl,hH,hB,hz,q⟩:=h
 cases rx
 obtain ⟨u,rfl,ru⟩:=rv.one
 cases ru
 obtain ⟨z,its,n,r,hl,e⟩:=I.yK hH
 have fin:∀ its2:List Value,Vals zs its2→EP X pins σ Q Value.none { s with heap:=s.heap.update l (Obj.mapSeq fun x=>x++its2.toArray),toks:=s.toks }:=fun its2 r2=>by
  refine ⟨.non,_,I.kz (its':=its++its2) hH e (by simp) (r.append r2) ?_,rfl,q⟩
  rw [List.length_append]
  omega
 have sz:∀ its2:List Value,zs.length=its2.length→its.toArray.size+its2.toArray.size≤sizeLine:=fun its2 h=>by rw [List.size_toArray,List.size_toArray];omega
 have lg:∀ its2:List Value,zs.length=its2.length→¬ (!its.toArray.isEmpty&&Builtin.List.listTooLong (its.toArray.size+its2.toArray.size))=true:=fun its2 h=>by
  rw [rL (sz its2 h),Bool.and_false]
  exact Bool.false_ne_true
 rcases hB with hB|hB
 ·obtain ⟨its2,r2,pl,_⟩:=I.list hB
  obtain ⟨⟨cls,dd,data,sl⟩,ho,hc,n2,hd⟩:=pl.isList
  simp only at hc hd
  subst hc hd
  have hl2:=r2.length
  have h1:=sz its2 hl2
  exact call_meets F.slot_list_extend ⟨_,e,rfl⟩ F.entry_list_extend (F.args_list_extend_2 _ _) (qK l its.toArray n b its2.toArray n2 dd sl (lg its2 hl2) (by omega) (by omega)) ⟨e,ho,fin its2 r2⟩
 ·obtain ⟨its2,r2,pl,_⟩:=I.tuple hB
  obtain ⟨⟨cls,dd,data,sl⟩,ho,hc,n2,hd⟩:=pl
  simp only at hc hd
  subst hc hd
  have hl2:=r2.length
  have h1:=sz its2 hl2
  exact call_meets F.slot_list_extend ⟨_,e,rfl⟩ F.entry_list_extend (F.args_list_extend_2 _ _) (qL l its.toArray n b its2.toArray n2 dd sl (lg its2 hl2) (by omega) (by omega)) ⟨e,ho,fin its2 r2⟩
end
end L2
namespace L2
open PySem PySem.W PyProof.Rows
section
variable {prog : Program} {w : World} {A : Around} {E : Value → Shared → Prop} {s : Shared}
theorem kO:typeLookup (.type "list") "keys"=pure none:=am_miss_of_fast (by decide +kernel)
theorem kP {a : Addr} {xs : Array Value} {k : Nat} {Q : Option Value → Shared → Prop} {sl : Array (Option Value)} (hx : s.heap.get? a = some { cls := .type "list", dict := none, data := .seq xs k, slots := sl }) (hA : A.handled = none)
    (h : ∀ h' tk, (∀ b ob, s.heap.get? b = some ob → h'.get? b = some ob) → Q none { s with heap := h', toks := tk }) : wpAny (model prog w) A (getAttr? (.ref a) "keys") Q E s := by
  obtain ⟨hp, g, d, tk, os⟩ := s
  have hT : ∀ tk', (⟨hp, g, d, tk', os⟩ : Shared).TypeIs (.ref a) "list" := fun _ => ⟨_, hx, rfl⟩
  have f1 := sub_AttributeError
  have f3 := PySem.F.slot_list_getattribute.lookup
  have f4 := PySem.F.slot_list_getattribute.bind (.ref a)
  have f5 := am_list_getattr_none
  have big : (1000 : Nat) ≤ sizeLine := by decide
  have hk : (("keys" : Str)).length + 100 ≤ sizeLine := by have : ("keys" : Str).length = 4 := by decide
                                                           omega
  unfold getAttr? getAttrBy? getAttrBy
  repeat (any_goals (first | assumption | exact hT _ | ((with_reducible show wpAny _ _ (call (Value.builtin "list.__getattribute__") _ _) _ _ _); refine call_meets PySem.F.slot_list_getattribute (hT _) am_entry_list_getattribute (PySem.F.args_list_getattribute_2 _ _) (meets_getattribute_miss_list a xs k sl "keys" _ kO (by decide) hk) ⟨hx, hA, fun h' tk' e hx' => ?_⟩) | wp_step))
  obtain ⟨t', u', he⟩ := hx'.there
  show wpAny _ _ (getattributeRaised _ _ _ _ _ _ _) _ _ _
  unfold getattributeRaised
  repeat (any_goals (first | assumption | wp_step))
  exact h _ _ hx'.keeps
theorem dY:entryFor table "dict.update.loop"=some Builtin.«dict.update.loop»:=entryFor_of_tree (by kernel_rfl)
theorem b0:plainId "dict.update.loop"=true:=by decide +kernel
noncomputable def uM (prog:Program) (w:World) (d I:Addr) (its:Array Value) (ps:List (Key×Value)) (h:Heap):Prop:=∀ (j:Nat) p,ps[j]?=some p→∃ a o e key,its[j]?=some (.ref a)∧a≠d∧a≠I∧h.get? a=some o∧o.cls=.type "tuple"∧o.data=.seq #[key,p.2] e∧(aQ prog w).is p.1 key=true
theorem uM.keep {d I:Addr}{its:Array Value}{ps:List (Key×Value)}{h h':Heap} (x:uM prog w d I its ps h) (k:∀ b o,b≠d→b≠I→h.get? b=some o→h'.get? b=some o):uM prog w d I its ps h':=fun j p e=>by
 obtain ⟨a,o,n,key,e1,e2,e3,e4,e5⟩:=x j p e
 exact ⟨a,o,n,key,e1,e2,e3,k a o e2 e3 e4,e5⟩
theorem sd (hh:A.handled=none) {ax I d:Addr}{its:Array Value}{ps:List (Key×Value)}{res:Value}{R:Result→Shared→Prop} (hne:ax≠I) (hdI:d≠I) (hda:ax≠d) (hz:ps.length≤sizeLine) (hl:its.size=ps.length) :
  ∀ (k i:Nat) (s:Shared) (acc:List (Key×Value)),ps.length - i=k→i≤ps.length→s.heap.IsListIter I ax i→s.heap.IsList ax its→acc.length≤i→uM prog w d I its ps s.heap→s.heap.DictOf (aQ prog w) d acc→(acc.map (·.1)++(ps.drop i).map (·.1)).Nodup →
  (∀ h' tk,h'.DictOf (aQ prog w) d (acc++ps.drop i)→(∀ b o,b≠d→b≠I→s.heap.get? b=some o→h'.get? b=some o)→R (.ok (.ret res)) { s with heap:=h',toks:=tk }) →
  codeAny (model prog w) A (.builtin "dict.update.loop" ⟨[.ref d,.ref I,rawInt i,res],[]⟩) R s:=by
 intro k
 induction k with
 |zero =>
  intro i s acc hk hi hit hls hal hpr hd hnd hR
  have hin:i=its.size:=by omega
  subst hin
  refine codeAny_builtin dY ?_
  rw [Around.under_plainId b0 _]
  show wpAny _ A.in1 (pyNext (.ref I) >>= _) _ _ s
  refine wpAny_bind ((Walks.list (A:=A.in1) hh I ax hne its).done s _ _ ⟨hit,hls⟩ fun h' tk hk'=>?_)
  have e0:ps.drop its.size=[]:=List.drop_eq_nil_of_le (by omega)
  rw [e0,List.append_nil] at hR
  have kp:∀ b o,b≠I→s.heap.get? b=some o→h'.get? b=some o:=fun b o hb e=>hk' b o (by simpa using hb) e
  refine wpAny_bind (wpAny_pure (wpAny_pure (hR h' tk ?_ fun b o _ hb e=>kp b o hb e)))
  obtain ⟨o,es,ep,ho,r⟩:=hd
  exact ⟨o,es,ep,kp d o hdI ho,r⟩
 |succ k ih =>
  intro i s acc hk hi hit hls hal hpr hd hnd hR
  have hlt:i<ps.length:=by omega
  obtain ⟨p,hp⟩:∃ p,ps[i]?=some p:=⟨ps[i],by simp [hlt]⟩
  refine codeAny_builtin dY ?_
  rw [Around.under_plainId b0 _]
  show wpAny _ A.in1 (pyNext (.ref I) >>= _) _ _ s
  refine wpAny_bind ((Walks.list (A:=A.in1) hh I ax hne its).item i s _ _ (by omega) ⟨hit,hls⟩ fun v h' tk hP hst' hk'=>?_)
  have kp:∀ b o,b≠I→s.heap.get? b=some o→h'.get? b=some o:=fun b o hb e=>hk' b o (by simpa using hb) e
  have hd':h'.DictOf (aQ prog w) d acc:=by
   obtain ⟨o,es,ep,ho,r⟩:=hd
   exact ⟨o,es,ep,kp d o hdI ho,r⟩
  have hpr':=hpr.keep (h':=h') fun b o _ hb e=>kp b o hb e
  obtain ⟨a,o,e,key,e1,e2,e3,e4,e5,e6,e7⟩:=hpr' i p hp
  have hP':its[i]?=some v:=hP
  rw [e1] at hP'
  cases hP'
  refine wpAny_bind (wpAny_holding (wpAny_bind (wpAny_tryCatch ?_)))
  unfold Builtin.Dict.pairItems
  refine wpAny_bind (wpAny_typeOf (T:="tuple") ⟨o,e4,e5⟩ ?_)
  rw [if_pos (by decide)]
  refine wpAny_bind (wpAny_seqItems e4 e6 (wpAny_pure ?_))
  show wpAny _ _ (holding [key,p.2] (dictSet d key p.2)) _ _ _
  have edr:ps.drop i=p::ps.drop (i+1):=by
   rw [List.drop_eq_getElem_cons hlt]
   have:ps[i]=p:=by simpa [hlt] using hp
   rw [this]
  have hnew:p.1∉acc.map (·.1):=fun z=>by
   rw [edr,List.map_cons,List.nodup_append] at hnd
   exact hnd.2.2 _ z _ (by simp) rfl
  have est:stored acc p.1 p.2=acc++[p]:=by
   unfold stored
   rw [if_neg fun z=>by
    obtain ⟨x,hx,e⟩:=List.any_eq_true.mp z
    exact hnew (List.mem_map.mpr ⟨x,hx,by simpa using e⟩)]
  refine wpAny_holding (wpAny_dictSet_pairs (hsz:=by omega) e7 hd' fun h2 hd2 hs2=>?_)
  rw [est] at hd2
  have kp2:∀ b o,b≠d→h'.get? b=some o→h2.get? b=some o:=fun b o hb e=>(hs2.2 b hb).trans e
  have hst2:h2.IsListIter I ax (i+1):=by
   obtain ⟨z,_⟩:=hst'
   exact z.at fun o e=>kp2 _ o (Ne.symm hdI) e
  have hls2:h2.IsList ax its:=by
   obtain ⟨_,z⟩:=hst'
   exact z.at fun o e=>kp2 _ o hda e
  rw [edr,List.map_cons] at hnd
  rw [edr] at hR
  exact wpAny_pure ⟨plainId_quiet b0 _,ih (i+1) _ (acc++[p]) (by omega) hlt hst2 hls2 (by simp;omega) (hpr'.keep fun b o hb _ e=>kp2 b o hb e) hd2 (by simpa using hnd) fun h3 tk3 hd3 k3=>hR h3 tk3 (by simpa using hd3) fun b o hb hb' e=>k3 b o hb hb' (kp2 b o hb (kp b o hb' e))⟩
end
theorem se {h:Heap}:∀ {as:List Addr}{ps:List (Str×Str)},as.length=ps.length→(∀ (j:Nat) a p,as[j]?=some a→ps[j]?=some p→∃ (o:Obj) (n:Nat) (t u:Tok),h.get? a=some o∧o.cls=.type "tuple"∧o.data=.seq #[.str p.1 t,.str p.2 u] n) →
  ∃ vs:List (Key×Value),vs.length=ps.length∧vs.map (·.1)=ps.map (fun p=>(Sum.inr p.1:Key))∧KV (ps.map fun p=>((Sum.inr p.1:Key),V.str p.2)) vs∧∀ (j:Nat) q,vs[j]?=some q→∃ a p o n t,as[j]?=some a∧ps[j]?=some p∧q.1=Sum.inr p.1∧h.get? a=some o∧o.cls=.type "tuple"∧o.data=.seq #[.str p.1 t,q.2] n
 |[],[],_,_=>⟨[],rfl,rfl,.nil,by simp⟩
 |[],_::_,h,_=>by simp at h
 |_::_,[],h,_=>by simp at h
 |a::as,p::ps,hl,hx=>by
  obtain ⟨vs,h1,h2,h3,h4⟩:=se (as:=as) (ps:=ps) (by simpa using hl) fun j b q e1 e2=>hx (j+1) b q (by simpa using e1) (by simpa using e2)
  obtain ⟨o,n,t,u,e1,e2,e3⟩:=hx 0 a p rfl rfl
  refine ⟨(Sum.inr p.1,.str p.2 u)::vs,by simp [h1],by simp [h2],.cons ⟨rfl,u,rfl⟩ h3,fun j q hq=>?_⟩
  cases j with
  |zero =>
   simp at hq
   subst hq
   exact ⟨a,p,o,n,t,rfl,rfl,rfl,e1,e2,e3⟩
  |succ j =>
   obtain ⟨a',p',o',n',t',z1,z2,z⟩:=h4 j q (by simpa using hq)
   exact ⟨a',p',o',n',t',by simpa using z1,by simpa using z2,z⟩
section
variable {X : Cx} {pins : List (Addr × Obj)} {σ : List (Option V)} {H : Hp} {s : Shared}
theorem uN {Q:VK}{L:Addr}{as:List Addr}{ps:List (Str×Str)} (hc:X.calm=true) (I:Inv X pins σ H s) (e:SqL X.K H L (as.map V.ref)) (hl:as.length=ps.length) (ht:∀ (j:Nat) a p,as[j]?=some a→ps[j]?=some p→SqT X.K H a [.str p.1,.str p.2]) (hnd:(ps.map (·.1)).Nodup)
  (q:∀ d,H d=none→Q (.ref d) (upd H d (.dK (ps.map fun p=>((Sum.inr p.1:Key),V.str p.2))))) :
  wpAny (model X.prog X.w) X.A (call (.type "dict") [.ref L]) (EP X pins σ Q) X.xe s:=by
 obtain ⟨its,rv,pl,hz⟩:=I.list e
 rw [List.length_map] at hz
 have hil:its.length=ps.length:=by rw [←rv.length,List.length_map,hl]
 have eits:its=as.map Value.ref:=by
  have:∀ (as:List Addr) (its:List Value),Vals (as.map V.ref) its→its=as.map Value.ref:=fun as=>by
   induction as with
   |nil=>intro its h;cases h;rfl
   |cons a as ih =>
    intro its h
    cases h with
    |cons r t=>rw [ih _ t];cases r;rfl
  exact this as its rv
 subst eits
 obtain ⟨o,n,ho,hcl,hdn,hdt⟩:=pl
 obtain ⟨oc,od,odt,osl⟩:=o
 simp only at hcl hdn hdt
 subst hcl hdn hdt
 obtain ⟨vs,v1,v2,v3,v4⟩:=se (h:=s.heap) hl fun j a p e1 e2=>by
  obtain ⟨us,r,⟨o,h1,h2,n,h3⟩,_⟩:=I.tuple (ht j a p e1 e2)
  cases r with
  |cons r1 r2 =>
   cases r2 with
   |cons r2 r3 =>
    cases r3
    obtain ⟨t,rfl⟩:=r1
    obtain ⟨u,rfl⟩:=r2
    exact ⟨o,n,t,u,h1,h2,h3⟩
 have hA:X.A.handled=none:=I.ok.hd hc
 have hLd:L<s.heap.objs.size:=Heap.lt_size ho
 refine callType_codes (Q₁:=fun obj s₁=>obj=.ref s.heap.objs.size∧s₁={ s with heap:=s.heap.push { cls:=.type "dict",data:=.dict #[] } }) PySem.F.kt_called_dict (PySem.F.kt_typeCall_dict_1 _) PySem.F.entry_dict_init (kt_code_dict_new _ ⟨rfl,rfl⟩) ?_
 rintro obj s₁ ⟨rfl,rfl⟩
 have hnew:(s.heap.push { cls:=.type "dict",data:=.dict #[] }).DictOf (aQ X.prog X.w) s.heap.objs.size []:=Heap.DictOf.new s.heap
 have k0:∀ b u,s.heap.get? b=some u→(s.heap.push { cls:=.type "dict",data:=.dict #[] }).get? b=some u:=fun b u z=>Heap.get?_push_of_some _ z
 refine ⟨hnew.typeIs,PySem.F.args_dict_init_2 _ _,?_⟩
 unfold Builtin.«dict.__init__»
 refine wpAny_bind ?_
 unfold Builtin.Dict.selfAndRest
 refine wpAny_bind (wpAny_notOrdered_dict hnew.typeIs ?_)
 show wpAny _ _ (pure (s.heap.objs.size,[Value.ref L])) _ _ _
 refine wpAny_pure ?_
 show wpAny _ _ (Builtin.Dict.updateFrom "dict.__init__" s.heap.objs.size (.ref L) [] .none) _ _ _
 unfold Builtin.Dict.updateFrom
 refine wpAny_bind (wpAny_typeOf (T:="list") ⟨_,k0 _ _ ho,rfl⟩ ?_)
 rw [if_pos (by decide)]
 refine wpAny_bind (kP (k0 _ _ ho) hA fun h1 tk1 k1=>?_)
 have hL1:=k1 _ _ (k0 _ _ ho)
 have hd1:h1.DictOf (aQ X.prog X.w) s.heap.objs.size []:=by
  obtain ⟨o,es,ep,ho,r⟩:=hnew
  exact ⟨o,es,ep,k1 _ _ ho,r⟩
 have hsz1:s.heap.objs.size<h1.objs.size:=by
  obtain ⟨o,es,ep,ho,r⟩:=hd1
  exact Heap.lt_size ho
 refine wpAny_bind (wpAny_rule (wpAny_bind (wpAny_pyIter_list ⟨_,hL1,rfl,n,rfl⟩ ?_)))
 refine wpAny_pure ⟨plainId_quiet b0 _,sd (A:=X.A.in1) (ax:=L) (I:=h1.objs.size) (d:=s.heap.objs.size) (its:=(as.map Value.ref).toArray) (ps:=vs) hA (Nat.ne_of_lt (Nat.lt_trans hLd hsz1)) (Nat.ne_of_lt hsz1) (Nat.ne_of_lt hLd) (by omega) (by simp;omega) vs.length 0 _ [] (by omega) (Nat.zero_le _) ⟨_,Heap.get?_push_size _ rfl,rfl,rfl⟩ ⟨_,Heap.get?_push_of_some _ hL1,rfl,n,rfl⟩ (Nat.le_refl _) (fun j q hq=>?_) (hd1.push _) (by rw [List.map_nil,List.nil_append,List.drop_zero,v2];exact (List.map_map (f:=fun p:Str×Str=>p.1) (g:=fun x=>(Sum.inr x:Key)) ▸ (List.Pairwise.map _ (fun a b hab z=>hab (by injection z)) hnd)) ) fun h' tk hd' kp=>?_⟩
 ·obtain ⟨a,p,o,m,t,z1,z2,z3,z4,z5,z6⟩:=v4 j q hq
  have hlt:=Heap.lt_size z4
  refine ⟨a,o,m,.str p.1 t,by simp [z1],Nat.ne_of_lt hlt,Nat.ne_of_lt (Nat.lt_trans hlt hsz1),Heap.get?_push_of_some _ (k1 _ _ (k0 _ _ z4)),z5,z6,?_⟩
  rw [z3]
  show Value.isStrOf p.1 (.str p.1 t)=true
  simp [Value.isStrOf]
 ·refine ⟨rfl,.ref s.heap.objs.size,upd H s.heap.objs.size (.dK (ps.map fun p=>((Sum.inr p.1:Key),V.str p.2))),I.laid (a:=s.heap.objs.size) (fun b u z=>?_) (Nat.le_refl _) ⟨by rw [List.length_map];omega,?_,vs,v3,?_⟩,rfl,q _ (I.hok.fresh (Nat.le_refl _))⟩
  ·have hlt:=Heap.lt_size z
   exact kp b u (Nat.ne_of_lt hlt) (Nat.ne_of_lt (Nat.lt_trans hlt hsz1)) (Heap.get?_push_of_some _ (k1 _ _ (k0 _ _ z)))
  ·exact beq_eq_false_iff_ne.mpr (Nat.ne_of_gt I.big)
  ·simpa using hd'
end
end L2
namespace L2
open PySem PySem.W PyProof.Rows
section
variable {X : Cx} {pins : List (Addr × Obj)} {σ : List (Option V)} {H : Hp} {s : Shared}
theorem mE {Q:VK}{d:Addr}{kvs:List (Key×V)} (hc:X.calm=true) (I:Inv X pins σ H s) (e:H d=some (.dK kvs)) (q:∀ L,H L=none→Q (.ref L) (upd H L (.lst (kvs.map (·.2))))) :
  wpAny (model X.prog X.w) X.A (call (.builtin "dict.values") [.ref d]) (fun v s1=>wpAny (model X.prog X.w) X.A (call (.type "list") [v]) (EP X pins σ Q) X.xe s1) X.xe s:=by
 obtain ⟨hz,lo,vs,kv,dd⟩:=vY I.hok e
 have hlen:vs.length=kvs.length:=(Paired.length kv).symm
 obtain ⟨o,es,ep,hd⟩:=id dd
 refine call_meetsIn PySem.F.slot_dict_values (show s.TypeIs (.ref d) "dict" from ⟨o,hd.1,hd.2.1.1⟩) PySem.F.entry_dict_values (PySem.F.args_dict_values_1 _) (meets_dict_values (aQ X.prog X.w) d lo) ⟨⟨vs,dd⟩,?_⟩
 show wpAny (model X.prog X.w) X.A (call (.type "list") [.ref s.heap.objs.size]) (EP X pins σ Q) X.xe { s with heap:=s.heap.push { cls:=.type "dict_values",data:=.fields #[.ref d] } }
 have k1:∀ b u,s.heap.get? b=some u→(s.heap.push { cls:=.type "dict_values",data:=.fields #[.ref d] }).get? b=some u:=fun b u z=>Heap.get?_push_of_some _ z
 have hat:(s.heap.push { cls:=.type "dict_values",data:=.fields #[.ref d] }).DictAt (aQ X.prog X.w) d vs ep:=⟨o,es,k1 _ _ hd.1,hd.2⟩
 refine kdl_call (kdl_values (r:=s.heap.objs.size) (d:=d) (kvs:=vs) (ep:=ep)) (I.ok.hd hc) ⟨⟨_,Heap.get?_push_size _ rfl,rfl,rfl⟩,hat⟩ (by omega) fun h' tk acc c hk hL hacc=>?_
 have hsz:(s.heap.push { cls:=.type "dict_values",data:=.fields #[.ref d] }).objs.size=s.heap.objs.size+1:=size_push' ..
 have hge:s.heap.objs.size≤(s.heap.push { cls:=.type "dict_values",data:=.fields #[.ref d] }).objs.size:=by rw [hsz];exact Nat.le_succ _
 have ev:acc.toList=vs.map (·.2):=kdl_vals_eq acc.toList (by rw [Array.length_toList];exact hacc.1) fun j v ej=>hacc.2 j v (by rw [←Array.getElem?_toList];exact ej)
 refine ⟨.ref _,upd H _ (.lst (kvs.map (·.2))),I.laid (t':=tk) (fun b u z=>hk b u (k1 b u z)) hge ⟨by rw [List.length_map];exact hz,acc.toList,c,?_,by simpa using hL⟩,rfl,q _ (I.hok.fresh hge)⟩
 rw [ev]
 clear hat dd hd hk hL hacc ev e q hz hlen
 induction kv with
 |nil=>exact .nil
 |cons r _ ih=>exact .cons r.2 ih
end
section
variable {X : Cx}
theorem sf:X.calm=true→gx X (.builtin "any") (fun xs H Q=>∃ (p:Addr) (bs:List Bool),xs=[.ref p]∧SqL X.K H p (bs.map V.bl)∧Q (.bl (bs.any id)) H):=by
 intro hc pins s σ H xs us Q I rs h
 obtain ⟨p,bs,rfl,hq,q⟩:=h
 obtain ⟨u,rfl,r⟩:=vals1 rs
 cases r
 obtain ⟨its,rv,pl,hz⟩:=I.list hq
 have e:=gB rv
 subst e
 have hlt:p<s.heap.objs.size:=by obtain ⟨_,_,e,_⟩:=pl;exact Heap.lt_size e
 refine call_any_walk (wpAny_pyIter_list pl.isList ?_)
 refine ⟨s.heap.objs.size,[s.heap.objs.size,p],[s.heap.objs.size],(bs.map Value.bool).toArray.size,_,_,fun i=>(bs[i]?).getD false,rfl,Walks.list (A:=X.A.in1) (I.ok.hd hc) _ p (Nat.ne_of_lt hlt) (bs.map Value.bool).toArray,
  ⟨⟨_,Heap.get?_push_size _ rfl,rfl,rfl⟩,pl.isList.push _⟩,fun i v s' Q' E' hP hQ=>?_,fun h' tk hk=>?_⟩
 ·have hP':(bs.map Value.bool)[i]?=some v:=by simpa using hP
  rw [List.getElem?_map] at hP'
  cases e:bs[i]? with
  |none=>rw [e] at hP';cases hP'
  |some b =>
   rw [e] at hP'
   cases hP'
   simp only [e,Option.getD_some] at hQ
   exact wpAny_truthy_bool hQ
 ·have e:((List.range (bs.map Value.bool).toArray.size).any fun i=>(bs[i]?).getD false)=bs.any id:=by
   rw [List.size_toArray,List.length_map];exact PyProof.Rows.LSm.range_any bs
  rw [e]
  exact ⟨.bl _,H,I.kept (t':=tk) (PyProof.Rows.LSm.kept_iter hk),rfl,q⟩
end
end L2
namespace L2
open PySem PySem.Spec PyProof.Rows
theorem gp:Manifest.owners.lookup (String.ofList ['d','e','s','r','e','v','e','r'].reverse)=some Manifest.sig_reversed:=by kernel_rfl
theorem bP:Slot "reversed" "__next__" "reversed.__next__" :=
 .of (owner:="reversed") (n:="__next__") (by rw [typeLookup_type,builtinLookup_eq_fast];kernel_rfl) (by decide +kernel) (by decide +kernel) (by decide +kernel) (by first|exact .inl (by decide +kernel)|exact .inr (by decide +kernel)) (by rw [isSubtype_type];kernel_rfl)
theorem dZ:entryFor table "reversed.__next__"=some Builtin.«reversed.__next__»:=entryFor_of_tree (by kernel_rfl)
theorem eX (a:Value):argsOk "reversed.__next__" ⟨[a],[]⟩:=by
 unfold argsOk;rw [signature?_of (id:="reversed.__next__") (n:=['_','_','t','x','e','n','_','_']) (o:=['d','e','s','r','e','v','e','r']) (by kernel_rfl) gp];kernel_rfl
theorem eY:Slot "reversed" "__iter__" "reversed.__iter__" :=
 .of (owner:="reversed") (n:="__iter__") (by rw [typeLookup_type,builtinLookup_eq_fast];kernel_rfl) (by decide +kernel) (by decide +kernel) (by decide +kernel) (by first|exact .inl (by decide +kernel)|exact .inr (by decide +kernel)) (by rw [isSubtype_type];kernel_rfl)
theorem iB:entryFor table "reversed.__iter__"=some Builtin.«dict_keyiterator.__iter__» :=
 entryFor_alias (id':="dict_keyiterator.__iter__") (by kernel_rfl) (by first|rfl|decide +kernel|(unfold String.splitOn;simp +decide [String.splitOnAux])) (by decide +kernel) (by kernel_rfl)
theorem ju (a:Value):argsOk "reversed.__iter__" ⟨[a],[]⟩:=by
 unfold argsOk;rw [signature?_of (id:="reversed.__iter__") (n:=['_','_','r','e','t','i','_','_']) (o:=['d','e','s','r','e','v','e','r']) (by kernel_rfl) gp];kernel_rfl
theorem cT:Slot "reversed" "__length_hint__" "reversed.__length_hint__" :=
 .of (owner:="reversed") (n:="__length_hint__") (by rw [typeLookup_type,builtinLookup_eq_fast];kernel_rfl) (by decide +kernel) (by decide +kernel) (by decide +kernel) (by first|exact .inl (by decide +kernel)|exact .inr (by decide +kernel)) (by rw [isSubtype_type];kernel_rfl)
theorem iC:entryFor table "reversed.__length_hint__"=some Builtin.«reversed.__length_hint__»:=entryFor_of_tree (by kernel_rfl)
theorem jv (a:Value):argsOk "reversed.__length_hint__" ⟨[a],[]⟩:=by
 unfold argsOk;rw [signature?_of (id:="reversed.__length_hint__") (n:=['_','_','t','n','i','h','_','h','t','g','n','e','l','_','_']) (o:=['d','e','s','r','e','v','e','r']) (by kernel_rfl) gp];kernel_rfl
theorem n9:typeLookup (.type "reversed") "__len__"=pure none:=by rw [typeLookup_type,builtinLookup_eq_fast];kernel_rfl
theorem kQ:typeLookup (.type "tuple") "__reversed__"=pure none:=by rw [typeLookup_type,builtinLookup_eq_fast];kernel_rfl
theorem jw:isSubtype (.type "tuple") (.type "dict")=pure false:=by rw [isSubtype_type];kernel_rfl
theorem jx:Slot "reversed" "__init__" "object.__init__" :=
 .of (owner:="object") (n:="__init__") (by rw [typeLookup_type,builtinLookup_eq_fast];kernel_rfl) (by decide +kernel) (by decide +kernel) (by decide +kernel) (by first|exact .inl (by decide +kernel)|exact .inr (by decide +kernel)) (by rw [isSubtype_type];kernel_rfl)
theorem fk:TypeCalled "reversed" "reversed.__new__" "object.__init__" :=
 ⟨by decide +kernel,PySem.F.create_reversed,⟨_,_,PySem.F.mro_reversed⟩,PySem.F.made_reversed,PySem.F.plain_reversed_new,PySem.F.sub_reversed_self,jx⟩
noncomputable def iD (l:Addr) (i:Int):Obj:={ cls:=.type "reversed",data:=.fields #[.ref l,rawInt i] }
noncomputable def dJ (h:Heap) (a l:Addr) (i:Int):Prop:=∃ o,h.get? a=some o∧o.cls=.type "reversed"∧o.data=.fields #[.ref l,rawInt i]
theorem dJ.typeIs {s:Shared}{a l:Addr}{i:Int} (x:dJ s.heap a l i):s.TypeIs (.ref a) "reversed":=let ⟨o,ho,hc,_⟩:=x;⟨o,ho,hc⟩
theorem dJ.at {h h':Heap}{a l:Addr}{i:Int} (x:dJ h a l i) (e:∀ o,h.get? a=some o→h'.get? a=some o):dJ h' a l i:=let ⟨o,ho,r⟩:=x;⟨o,e _ ho,r⟩
section
variable {prog : Program} {w : World} {A : Around} {R : Result → Shared → Prop} {E : Value → Shared → Prop} {s : Shared}
theorem uO {l:Addr}{items:Array Value}{Q:Value→Shared→Prop} (hl:IsTup s.heap l items) (hz:items.size≤sizeLine)
  (h:Q (.ref s.heap.objs.size) { s with heap:=s.heap.push (iD l ((items.size:Int) - 1)),toks:=s.toks+2 }) :
  codeAny (model prog w) A (.call (.builtin "reversed.__new__") ⟨[.type "reversed",.ref l],[]⟩) (wants Q E) s:=by
 have big:sizeLine<2 ^ 60:=by decide
 refine codeAny_of_tree ?_
 show wpAny _ A.in1 (do checkBuiltinCall "reversed.__new__" ⟨[.type "reversed",.ref l],[]⟩;again (.builtin "reversed.__new__" ⟨[.type "reversed",.ref l],[]⟩)) _ _ s
 refine wpAny_bind (wpAny_of_eq (PySem.F.newCall_reversed_1 _) (wpAny_pure ⟨plainId_quiet PySem.F.plain_reversed_new _,codeAny_builtin PySem.F.entry_reversed_new ?_⟩))
 rw [Around.under_plainId PySem.F.plain_reversed_new _]
 unfold Builtin.«reversed.__new__»
 refine wpAny_bind (wpAny_of_eq (newClass_reversed _) ?_)
 try dsimp only
 refine wpAny_bind (wpAny_of_eq (a:=()) (by first|rfl|kernel_rfl) ?_)
 refine wpAny_bind (wpAny_of_eq (a:=()) (by first|rfl|kernel_rfl) ?_)
 try dsimp only
 refine wpAny_bind (wpAny_specialOf hl.typeIs kQ ?_)
 try dsimp only
 refine wpAny_bind ?_
 wp_delta
 refine wpAny_bind (wpAny_isInstance hl.typeIs jw ?_)
 rw [if_neg (by decide)]
 refine wpAny_bind (wpAny_specialOf hl.typeIs slot_tuple_getitem.lookup ?_)
 try dsimp only
 rw [if_pos (by decide)]
 refine wpAny_pure ?_
 rw [if_neg (by decide)]
 refine wpAny_bind (len_tuple hl (by omega) ?_)
 refine wpAny_bind (wpAny_pure ?_)
 show wpAny _ _ (newObj (.type "reversed") (.fields #[.ref l,rawInt ((items.size:Int) - 1)]) >>= _) _ _ _
 exact wpAny_bind (wpAny_newObj_type (wpAny_pure h) (by size_fits))
theorem sg {l:Addr}{items:Array Value}{Q:Value→Shared→Prop} (hl:IsTup s.heap l items) (hz:items.size≤sizeLine)
  (h:Q (.ref s.heap.objs.size) { s with heap:=s.heap.push (iD l ((items.size:Int) - 1)),toks:=s.toks+2 }):wpAny (model prog w) A (call (.type "reversed") [.ref l]) Q E s:=by
 refine callType_codes (Q₁:=fun obj s₁=>obj=.ref s.heap.objs.size∧s₁={ s with heap:=s.heap.push (iD l ((items.size:Int) - 1)),toks:=s.toks+2 }) fk (PySem.F.typeCall_reversed_1 _) PySem.F.entry_object_init (uO hl hz ⟨rfl,rfl⟩) ?_
 rintro obj s₁ ⟨rfl,rfl⟩
 have hT:({ s with heap:=s.heap.push (iD l ((items.size:Int) - 1)),toks:=s.toks+2 }:Shared).TypeIs (.ref s.heap.objs.size) "reversed":=⟨_,Heap.get?_push_size _ rfl,rfl⟩
 exact ⟨hT,PySem.F.args_object_init_2 _ _,object_init_meets fk.init.lookup fk.made (by decide) prog w A.in1 _ _ ⟨hT,rfl,h⟩⟩
theorem si {it l:Addr}{i:Nat}{items:Array Value}{x:Value}{Q:Option Value→Shared→Prop} (hz:items.size≤sizeLine) (hit:dJ s.heap it l (i:Int)) (hl:IsTup s.heap l items) (hx:items[i]?=some x)
  (hQ:∀ h' tk,dJ h' it l ((i:Int) - 1)→Heap.SameBut it s.heap h'→Q (some x) { s with heap:=h',toks:=tk }):wpAny (model prog w) A (pyNext (.ref it)) Q E s:=by
 obtain ⟨o,ho,hc,hd⟩:=id hit
 have big:sizeLine<2 ^ 60:=by decide
 have hi:i<items.size:=(Array.getElem?_eq_some_iff.mp hx).1
 unfold pyNext
 refine wpAny_bind (wpAny_attempt (wpAny_callSpecial?_slot (name:=Str.ofString "__next__") hit.typeIs bP
  (wpAny_call_entry bP hit.typeIs dZ ?_ (eX _))))
 unfold Builtin.«reversed.__next__»
 refine wpAny_bind (wpAny_of_eq (a:=(Value.ref it,[])) rfl ?_)
 try dsimp only
 refine wpAny_bind (wpAny_field ho hd (x:=.ref l) rfl ?_)
 refine wpAny_bind (wpAny_field ho hd (x:=rawInt (i:Int)) rfl ?_)
 show wpAny _ _ (if (i:Int)<0 then _ else _) _ _ s
 rw [if_neg (by omega)]
 refine wpAny_bind (wpAny_specialOf hl.typeIs slot_tuple_getitem.lookup ?_)
 rw [if_neg (by decide)]
 refine wpAny_bind (wpAny_mkInt (wpAny_bind (wpAny_attempt (getItem_tuple (s:={ s with toks:=s.toks+1 }) (j:=i) hl (by omega) (by omega) (by simp [seqIndex?];omega) hx ?_))))
 dsimp only
 refine wpAny_bind (wpAny_field ho hd (x:=rawInt (i:Int)) rfl ?_)
 refine wpAny_bind (wpAny_setField ho hd (by simp) ?_)
 refine wpAny_pure ⟨x,rfl,wpAny_pure (hQ _ _ ?_ (Heap.SameBut.update ..))⟩
 exact ⟨_,Heap.get?_update_self _ ho (Obj.isFreed_of_fields (Obj.data_mapFields hd _)),(Obj.cls_mapFields ..).trans hc,by
  rw [Obj.data_mapFields hd];simp⟩
theorem uP {it l:Addr}{Q:Option Value→Shared→Prop} (hh:A.handled=none) (hit:dJ s.heap it l (-1))
  (hQ:∀ h',Heap.ExtBut it s.heap h'→Q none { s with heap:=h' }):wpAny (model prog w) A (pyNext (.ref it)) Q E s:=by
 obtain ⟨o,ho,hc,hd⟩:=id hit
 unfold pyNext
 refine wpAny_bind (wpAny_attempt (wpAny_callSpecial?_slot (name:=Str.ofString "__next__") hit.typeIs bP
  (wpAny_call_entry bP hit.typeIs dZ ?_ (eX _))))
 unfold Builtin.«reversed.__next__»
 refine wpAny_bind (wpAny_of_eq (a:=(Value.ref it,[])) rfl ?_)
 try dsimp only
 refine wpAny_bind (wpAny_field ho hd (x:=.ref l) rfl ?_)
 refine wpAny_bind (wpAny_field ho hd (x:=rawInt (-1)) rfl ?_)
 show wpAny _ _ (if (-1:Int)<0 then _ else _) _ _ s
 rw [if_pos (by decide)]
 refine wpAny_bind (wpAny_rule ?_)
 refine wpAny_bind ?_
 wp_delta
 refine wpAny_bind (wpAny_setField ho hd (by simp) ?_)
 have ho2:=Heap.get?_update_self (Obj.mapFields fun xs=>xs.set! 1 (rawInt (-1))) ho (Obj.isFreed_of_fields (Obj.data_mapFields hd _))
 have hd2:=Obj.data_mapFields hd (fun xs=>xs.set! 1 (rawInt (-1)))
 refine wpAny_setField ho2 hd2 (by simp) ?_
 refine wpAny_bind ?_
 wp_delta
 simp only [newExc,newTuple]
 refine wpAny_bind (wpAny_bind (wpAny_newObj_type ?_ (by size_fits)))
 refine wpAny_bind (m:=firstArgMember _ _) (wpAny_of_eq (a:=Value.none) (by first|rfl|(simp only [firstArgMember];rfl)) ?_)
 refine wpAny_newObj_type ?_ (by size_fits)
 simp only [raiseNew]
 refine wpAny_bind (wpAny_handled ?_)
 first|rw [show A.in1.handled=none from hh]|rw [hh]
 refine wpAny_bind (wpAny_pure (wpAny_throw ?_))
 refine wpAny_bind (wpAny_isInstance (T:="StopIteration") (b:=true) ⟨_,Heap.get?_push_size _ rfl,rfl⟩ isSubtype_stop ?_)
 exact wpAny_pure (hQ _ (((((Heap.SameBut.update ..).extBut).trans (Heap.SameBut.update ..).extBut).push _).push _))
theorem sj {it l:Addr}{i:Int}{Q:Value→Shared→Prop} (hit:dJ s.heap it l i) (h:Q (.ref it) s):wpAny (model prog w) A (pyIter (.ref it)) Q E s:=by
 refine wpAny_pyIter_slot hit.typeIs eY (wpAny_call_entry eY hit.typeIs iB ?_ (ju _))
 show wpAny _ _ (ret (.ref it)) _ _ s
 exact wpAny_pure ⟨_,rfl,"reversed",_,hit.typeIs,bP.lookup,h⟩
theorem qM (hh:A.handled=none) (I l:Addr) (hne:l≠I) (items:Array Value) (hz:items.size≤sizeLine) :
  Walks prog w A I [I,l] [I] items.size (fun i v=>items[items.size - 1 - i]?=some v) (fun i h=>i≤items.size∧dJ h I l ((items.size:Int) - 1 - (i:Int))∧IsTup h l items) where
 sub:=fun b hb=>by simp at hb;simp [hb]
 frame:=fun _ _ _ x hk=>⟨x.1,x.2.1.at fun o e=>hk I (by simp) o e,let ⟨o,ho,r⟩:=x.2.2;⟨o,hk l (by simp) o ho,r⟩⟩
 item:=fun i s Q E hi x hQ=>by
  have e:(items.size:Int) - 1 - (i:Int)=((items.size - 1 - i:Nat):Int):=by omega
  have hit:=x.2.1
  rw [e] at hit
  have hx:items[items.size - 1 - i]?=some (items[items.size - 1 - i]'(by omega)):=Array.getElem?_eq_getElem (by omega)
  refine si hz hit x.2.2 hx fun h' tk hit' hs'=>?_
  have e2:((items.size - 1 - i:Nat):Int) - 1=(items.size:Int) - 1 - ((i+1:Nat):Int):=by omega
  rw [e2] at hit'
  exact hQ _ h' tk hx ⟨hi,hit',let ⟨o,ho,r⟩:=x.2.2;⟨o,(hs'.2 l hne).trans ho,r⟩⟩ fun b o hb eo=>hs'.extBut b o (fun h=>hb (by simp [h])) eo
 done:=fun s Q E x hQ=>by
  have e:(items.size:Int) - 1 - (items.size:Int)=-1:=by omega
  have hit:=x.2.1
  rw [e] at hit
  exact uP hh hit fun h' he'=>hQ h' s.toks fun b o hb eo=>he' b o (fun h=>hb (by simp [h])) eo
 self:=fun _ _ _ _ x hQ=>sj x.2.1 hQ
theorem sk {I l:Addr}{items:Array Value}{Q:Bool→Shared→Prop} (hit:dJ s.heap I l ((items.size:Int) - 1)) (hl:IsTup s.heap l items) (hz:items.size≤sizeLine) (h:∀ b tk,s.toks≤tk→Q b { s with toks:=tk }) :
  wpAny (model prog w) A (Builtin.List.listLengthHint (.ref I)) Q E s:=by
 have big:sizeLine<2 ^ 60:=by decide
 obtain ⟨o,ho,hc,hd⟩:=id hit
 unfold Builtin.List.listLengthHint
 refine wpAny_bind (wpAny_specialOf hit.typeIs n9 ?_)
 show wpAny _ A (specialOf (Value.ref I) (Str.ofString "__length_hint__") >>= _) _ _ _
 refine wpAny_bind (wpAny_specialOf hit.typeIs cT.lookup ?_)
 have hsp:splitId "reversed.__length_hint__"=some ("reversed","__length_hint__"):=by decide +kernel
 dsimp only
 rw [hsp]
 dsimp only
 refine wpAny_bind (wpAny_isInstance hit.typeIs PySem.F.sub_reversed_self ?_)
 rw [if_neg (by decide)]
 rw [if_neg (by decide +kernel)]
 refine wpAny_bind (wpAny_rule ?_)
 refine wpAny_bind (wpAny_of_eq (cT.bind _) ?_)
 dsimp only
 refine wpAny_bind (wpAny_attempt (wpAny_call_entry cT hit.typeIs iC ?_ (jv _)))
 unfold Builtin.«reversed.__length_hint__»
 refine wpAny_bind (wpAny_of_eq (a:=Value.ref I) rfl ?_)
 refine wpAny_bind (wpAny_field ho hd (x:=.ref l) rfl ?_)
 rw [if_neg (show ¬ ((Value.ref l==Value.none)=true) from Bool.false_ne_true)]
 refine wpAny_bind (len_tuple hl (by omega) ?_)
 refine wpAny_bind (wpAny_pure ?_)
 refine wpAny_bind (wpAny_field (s:={ s with toks:=s.toks+1+1 }) ho hd (x:=rawInt ((items.size:Int) - 1)) rfl ?_)
 show wpAny _ _ (if (items.size:Int)<(items.size:Int) - 1+1 then _ else _) _ _ _
 rw [if_neg (by omega)]
 refine wpAny_bind (wpAny_mkInt (wpAny_pure ⟨_,rfl,?_⟩))
 dsimp only
 refine wpAny_bind (wpAny_pure ?_)
 dsimp only
 rw [if_neg (by simp only [Builtin.List.listFitsIndex,Bool.not_eq_true',Bool.and_eq_false_iff,decide_eq_false_iff_not];omega),if_neg (by omega),if_neg (by simp only [Builtin.List.listTooLong,decide_eq_true_eq];omega)]
 exact wpAny_pure (h _ _ (by omega))
variable {I : Addr} {fp wr : List Addr} {G : Array GenState → Array GenState → Prop} {n : Nat} {P : Nat → Value → Prop} {St : Nat → Shared → Prop}
theorem n_ (W:WalksS prog w A.in1 I fp wr G n P St) (hT:∀ i s,St i s→s.TypeIs (.ref I) "reversed") (hhint:∀ (A:Around) (E:Value→Shared→Prop) (s:Shared) (Q:Bool→Shared→Prop),St 0 s→(∀ b tk,s.toks≤tk→Q b { s with toks:=tk })→wpAny (model prog w) A (Builtin.List.listLengthHint (.ref I)) Q E s) (S:Addr) (res:Value) (c₀:Nat) (hst:St 0 s) (hSf:S∉fp) (hI:I∈fp)
  (hS:s.heap.get? S=some { cls:=.type "list",data:=.seq #[] c₀ })
  (hR:∀ s' acc' c',Moved (S::wr) G s s'→s'.heap.get? S=some { cls:=.type "list",dict:=none,data:=.seq acc' c',slots:=#[] }→ItemsOf P acc' n→R (.ok (.ret res)) s') (hn:n≤sizeLine) :
  wpAny (model prog w) A.in1 (Builtin.List.listExtendWith (.ref S) (.ref I) res)
   (fun fin s'=>match fin with|.done f=>R (.ok f) s'|.again c'=>c'.quiet=true∧codeAny (model prog w) A c' R s') (fun e s'=>R (.error e) s') s:=by
 have hSI:S≠I:=fun e=>hSf (e ▸ hI)
 unfold Builtin.List.listExtendWith
 refine wpAny_bind (wpAny_typeOf (hT 0 _ hst) ?_)
 have h1:Builtin.List.listSameRef (.ref S) (.ref I)=false:=by simp [Builtin.List.listSameRef,hSI]
 have h2:(Value.type "reversed"==Value.type "list")=false:=by decide
 have h3:(Value.type "reversed"==Value.type "tuple")=false:=by decide
 simp only [h1,h2,h3,Bool.or_false,Bool.false_eq_true,if_false]
 refine wpAny_bind (W.self 0 _ _ _ hst ?_)
 refine wpAny_bind (wpAny_holding ?_)
 refine hhint _ _ _ _ hst fun b tk htk=>?_
 have hst₁:=W.frame 0 s s.heap tk hst htk fun b _ o e=>e
 refine wpAny_ite_split (fun _=>?_) (fun _=>wpAny_pure ⟨plainId_quiet PySem.F.plain_extend_loop _,codeAny_extend_loopS W hn _ hSf _ n 0 _ _ _ rfl (Nat.zero_le _) hst₁ hS (ItemsOf.nil P) fun s' acc' c' hm hS' hacc=>hR s' acc' c' (Moved.trans W.gtrans ((Moved.refl W.grefl).then_heap htk fun b o _ e=>e) hm) hS' hacc⟩)
 refine wpAny_bind (wpAny_rule ?_)
 refine wpAny_bind ?_
 show wpAny _ _ (updateSeq S (·.push .none) >>= fun _=>updateSeq S (·.pop)) _ _ _
 refine wpAny_bind (wpAny_updateSeq (s:={ s with toks:=tk }) hS rfl ?_)
 have hS₂:=Heap.get?_update_self (Obj.mapSeq (·.push Value.none)) hS rfl
 refine wpAny_updateSeq (hz:=by seq_fits) hS₂ rfl ?_
 have hS₃:=Heap.get?_update_self (Obj.mapSeq (·.pop)) hS₂ rfl
 have oth:∀ b o,b≠S→s.heap.get? b=some o→((s.heap.update S (Obj.mapSeq (·.push Value.none))).update S (Obj.mapSeq (·.pop))).get? b=some o:=fun b o hb e=>(Heap.get?_update_other _ _ (Ne.symm hb)).trans ((Heap.get?_update_other _ _ (Ne.symm hb)).trans e)
 refine wpAny_pure ⟨plainId_quiet PySem.F.plain_extend_loop _,codeAny_extend_loopS W hn _ hSf _ n 0 _ _ _ rfl (Nat.zero_le _) (W.frame 0 s _ tk hst htk fun b hb o e=>oth b o (fun h=>hSf (h ▸ hb)) e) hS₃ (ItemsOf.nil P) fun s' acc' c' hm hS' hacc=>?_⟩
 exact hR s' acc' c' (Moved.trans W.gtrans ((Moved.refl W.grefl).then_heap htk fun b o hb e=>oth b o (fun h=>hb (h ▸ List.mem_cons_self)) e) hm) hS' hacc
theorem mF {Q:List Value→Shared→Prop} (W:WalksS prog w A.in1 I fp wr G n P St) (hT:∀ i s,St i s→s.TypeIs (.ref I) "reversed") (hhint:∀ (A:Around) (E:Value→Shared→Prop) (s:Shared) (Q:Bool→Shared→Prop),St 0 s→(∀ b tk,s.toks≤tk→Q b { s with toks:=tk })→wpAny (model prog w) A (Builtin.List.listLengthHint (.ref I)) Q E s) (hst:St 0 s) (hfp:∀ b∈fp,b<s.heap.objs.size) (hI:I∈fp)
  (hQ:∀ s' acc,Moved wr G s s'→ItemsOf P acc n→Q acc.toList s') (hn:n≤sizeLine):wpAny (model prog w) A (collect (.ref I)) Q E s:=by
 have hSf:s.heap.objs.size∉fp:=fun hm=>Nat.lt_irrefl _ (hfp _ hm)
 unfold collect
 refine wpAny_bind (wpAny_runValue (codeAny_builtin PySem.F.entry_proto_collect ?_))
 rw [Around.under_plainId PySem.F.plain_proto_collect _]
 show wpAny _ A.in1 (newList [] >>= fun l=>again (.builtin "list.__iadd__" ⟨[l,.ref I],[]⟩)) _ _ s
 refine wpAny_bind (wpAny_newObj_type ?_)
 refine wpAny_pure ⟨plainId_quiet PySem.F.plain_list_iadd _,codeAny_builtin PySem.F.entry_list_iadd ?_⟩
 rw [Around.under_plainId PySem.F.plain_list_iadd _]
 have hst₁:=W.frame 0 s (s.heap.push { cls:=.type "list",data:=.seq ([]:List Value).toArray }) s.toks hst (Nat.le_refl _) fun b _ o e=>Heap.get?_push_of_some _ e
 show wpAny _ A.in1 (Builtin.List.listExtendWith (.ref s.heap.objs.size) (.ref I) (.ref s.heap.objs.size)) _ _ _
 refine n_ (R:=fun r s'=>match r with
  |.ok (.ret v)=>wpAny (model prog w) A (match v with
   |.ref a=>do
    let o ←load a
    match o.data with
    |.seq xs _=>pure xs.toList
    |_=>unsupported "internal:collect"
   |_=>unsupported "internal:collect") Q E s'
  |.ok _=>False
  |.error e=>E e s') W hT hhint _ _ 0 hst₁ hSf hI (Heap.get?_push_size _ rfl) (fun s' acc' c' hm hS' hacc=>?_) hn
 show wpAny _ A (load s.heap.objs.size >>= _) _ _ s'
 refine wpAny_bind (wpAny_load hS' ?_)
 exact wpAny_pure (hQ s' acc' (Moved.drop_new (o:={ cls:=.type "list",data:=.seq ([]:List Value).toArray }) (tk:=s.toks) hm (Nat.le_refl _)) hacc)
open AutoSeq1 (wpAny_loadPart') in
theorem kR {Q:Value→Shared→Prop} (W:WalksS prog w A.in1.in1.in1 I fp wr G n P St) (hT:∀ i s,St i s→s.TypeIs (.ref I) "reversed") (hhint:∀ (A:Around) (E:Value→Shared→Prop) (s:Shared) (Q:Bool→Shared→Prop),St 0 s→(∀ b tk,s.toks≤tk→Q b { s with toks:=tk })→wpAny (model prog w) A (Builtin.List.listLengthHint (.ref I)) Q E s) (hst:St 0 s) (hfp:∀ b∈fp,b<s.heap.objs.size) (hI:I∈fp)
  (hQ:∀ s' acc,Moved wr G s s'→ItemsOf P acc n→Q (.ref s'.heap.objs.size) { s' with heap:=s'.heap.push { cls:=.type "tuple",data:=.seq acc } }) (hsz:n≤sizeLine) :
  wpAny (model prog w) A (call (.type "tuple") [.ref I]) Q E s:=by
 refine callType_codes (Q₁:=fun obj s₁=>s₁.TypeIs obj "tuple"∧Q obj s₁) PySem.F.called_tuple (PySem.F.typeCall_tuple_1 _) PySem.F.entry_object_init
  (?_) fun obj s₁ h₁=>?_
 ·refine codeAny_of_tree ?_
  show wpAny _ A.in1.in1 (do checkBuiltinCall "tuple.__new__" ⟨[.type "tuple",.ref I],[]⟩;again (.builtin "tuple.__new__" ⟨[.type "tuple",.ref I],[]⟩)) _ _ s
  refine wpAny_bind (wpAny_of_eq (PySem.F.newCall_tuple_1 _) (wpAny_pure ⟨plainId_quiet PySem.F.plain_tuple_new _,codeAny_builtin PySem.F.entry_tuple_new ?_⟩))
  rw [Around.under_plainId PySem.F.plain_tuple_new _]
  have hsub:=sub_tuple_self
  have hinit:=init_tuple_lookup
  have hmh:=madeHere_tuple
  have hTI:=hT 0 s hst
  wp_walk using wpAny_typeOf hTI,mF (hn:=hsz) W hT hhint hst hfp hI
  intro s' acc hm hacc
  show wpAny _ _ (Builtin.Tuple.tupleExact acc.toList.toArray >>= fun v=>ret v) _ _ _
  unfold Builtin.Tuple.tupleExact
  refine wpAny_bind (wpAny_newObj_type ?_ (by show acc.toList.toArray.size≤sizeLine;simp only [Array.toArray_toList];rw [hacc.1];exact hsz))
  refine wpAny_pure ?_
  have e:acc.toList.toArray=acc:=by simp
  rw [e]
  exact ⟨⟨_,Heap.get?_push_size _ rfl,rfl⟩,hQ s' acc hm hacc⟩
 ·exact ⟨h₁.1,PySem.F.args_object_init_2 obj _,object_init_meets PySem.F.called_tuple.init.lookup PySem.F.called_tuple.made (by decide) prog w A.in1 _ s₁ ⟨h₁.1,rfl,h₁.2⟩⟩
end
section
variable {X : Cx} {pins : List (Addr × Obj)} {σ : List (Option V)} {H : Hp} {s : Shared}
theorem qN {a:Addr}{xs:List V}{Q:VK} (hc:X.calm=true) (I:Inv X pins σ H s) (hq:SqT X.K H a xs) (q:∀ l,H l=none→Q (.ref l) (upd H l (.tup xs.reverse))) :
  wpAny (model X.prog X.w) X.A (call (.type "reversed") [.ref a]) (fun v s1=>wpAny (model X.prog X.w) X.A (call (.type "tuple") [v]) (EP X pins σ Q) X.xe s1) X.xe s:=by
 obtain ⟨its,rv,p,hz⟩:=I.tuple hq
 have el:its.length=xs.length:=rv.length.symm
 have hlt:a<s.heap.objs.size:=p.lt
 have hz':its.toArray.size≤sizeLine:=by simp;omega
 have hsz:(s.heap.push (iD a ((its.toArray.size:Int) - 1))).objs.size=s.heap.objs.size+1:=size_push' ..
 refine sg p hz' ?_
 have hr:dJ (s.heap.push (iD a ((its.toArray.size:Int) - 1))) s.heap.objs.size a ((its.toArray.size:Int) - 1):=⟨_,Heap.get?_push_size _ rfl,rfl,rfl⟩
 refine kR (qM (A:=X.A.in1.in1.in1) (I.ok.hd hc) s.heap.objs.size a (Nat.ne_of_lt hlt) its.toArray hz').toS (fun i s st=>st.2.1.typeIs) (fun A E s Q st h=>sk (by simpa using st.2.1) st.2.2 hz' h) ⟨Nat.zero_le _,by simpa using hr,p.push _⟩ (fun b hb=>?_) (by simp) (fun s' acc hm hacc=>?_) hz'
 ·show b<(s.heap.push (iD a ((its.toArray.size:Int) - 1))).objs.size
  rw [hsz]
  rcases List.mem_cons.mp hb with z|z
  ·rw [z];exact Nat.lt_succ_self _
  ·rw [List.mem_singleton.mp z];exact Nat.lt_succ_of_lt hlt
 ·obtain ⟨h2,g2,d2,t2,o2⟩:=s'
  have eg:g2=s.gens:=hm.gens
  have ed:d2=s.drawn:=hm.drawn
  have eo:o2=s.os:=hm.os
  subst eg ed eo
  have k2:∀ b o,s.heap.get? b=some o→h2.get? b=some o:=fun b o e=>hm.heap b o (fun z=>by
   rw [List.mem_singleton.mp z] at e;exact absurd (Heap.lt_size e) (Nat.lt_irrefl _)) (Heap.get?_push_of_some _ e)
  have I1:Inv X pins σ H { s with heap:=h2,toks:=t2 }:=I.kept k2
  have ea:=uL hacc
  have I2:Inv X pins σ (upd H h2.objs.size (.tup xs.reverse)) { s with heap:=h2.push { cls:=.type "tuple",data:=.seq acc },toks:=t2 } :=
   I1.laid (t':=t2) (fun b o e=>Heap.get?_push_of_some _ e) (Nat.le_refl _) (show bJ X.prog X.w _ _ _ (.tup xs.reverse) from ⟨by rw [List.length_reverse];exact hz,its.reverse,rv.reverse,by rw [←ea,Array.toArray_toList];exact IsTup.new _ _⟩)
  exact ⟨.ref h2.objs.size,_,I2,rfl,q _ (I1.hok.fresh (Nat.le_refl _))⟩
end
end L2
namespace TM
open PySem L2
inductive U where
 |non|bl (b:Bool)|int (i:Int)|str (x:Str)
 |tup (xs:List U)|lst (xs:List U)
 |dic (ks:List Str) (vs:List U)|rdc (ks:List dr)
mutual
noncomputable def imm:U→Bool
 |.tup xs=>fU xs
 |.lst _=>false
 |.dic _ _=>false
 |.rdc _=>false
 |.non=>true|.bl _=>true|.int _=>true|.str _=>true
noncomputable def fU:List U→Bool
 |[]=>true
 |u::us=>imm u&&fU us
end
inductive Kd where|own|io|loc|any|bor (j:Nat)|ownD
deriving DecidableEq
noncomputable def Kd.root:Kd→Bool
 |.own=>true
 |.io=>true
 |_=>false
noncomputable abbrev ak:=List (Option (Kd×U))
structure Ct where
 P:Program
 w:World
 K:PySem.W.Frag
 H₀:Hp
 Par:Addr→Prop
 IO:Addr→Prop
noncomputable def KL (K:PySem.W.Frag) (a:Addr) (xs:List V):Prop :=
 ∃ (o:Obj) (its:Array Value) (n:Nat),K.lookup a=some o∧o.cls=.type "list"∧o.dict=none∧o.data=.seq its n∧its.size≤sizeLine∧Vals xs its.toList
noncomputable def LAt (K:PySem.W.Frag) (S:Addr→Prop) (H:Hp) (a:Addr) (vs:List V):Prop:=(S a∧Rd H a (.lst vs))∨KL K a vs
theorem LAt.sq {K:PySem.W.Frag}{S:Addr→Prop}{H:Hp}{a:Addr}{vs:List V} (h:LAt K S H a vs):SqL K H a vs:=h.elim (fun z=>.inl z.2) .inr
noncomputable def DAt (H:Hp) (R:List V→Prop) (a:Addr) (ks:List Str):Prop:=∃ kvs:List (Key×V),H a=some (.dK kvs)∧kvs.map (·.1)=ks.map Sum.inr∧R (kvs.map (·.2))
section
variable (C : Ct) (S : Addr → Prop) (H : Hp)
mutual
noncomputable def Rep:U→V→Prop
 |.non,v=>v=.non
 |.bl b,v=>v=.bl b
 |.int i,v=>v=.int i
 |.str x,v=>v=.str x
 |.tup us,v=>∃ a vs,v=.ref a∧SqT C.K H a vs∧ah us vs
 |.lst us,v=>∃ a vs,v=.ref a∧LAt C.K S H a vs∧ah us vs
 |.dic ks us,v=>∃ a,v=.ref a∧S a∧DAt H (ah us) a ks
 |.rdc ks,v=>∃ a,v=.ref a∧S a∧dI C.P C.w C.K H a ks
noncomputable def ah:List U→List V→Prop
 |[],vs=>vs=[]
 |u::us,vs=>∃ v r,vs=v::r∧Rep u v∧ah us r
end
end
noncomputable def Tp:HO→Prop
 |.tup _=>True
 |.frz _ (.tup _)=>True
 |_=>False
structure Mv (S:Addr→Prop) (H:Hp) (S':Addr→Prop) (H':Hp):Prop where
 sub:∀ a,S a→S' a
 tps:∀ a o,H a=some o→Tp o→H' a=some o
 sam:∀ a o,S a→H a=some o→H' a=some o
theorem Mv.sqT {K:PySem.W.Frag}{S S':Addr→Prop}{H H':Hp}{a:Addr}{vs:List V} (m:Mv S H S' H') (h:SqT K H a vs):SqT K H' a vs:=by
 rcases h with (h|⟨o,h⟩)|h
 ·exact .inl (.inl (m.tps a _ h trivial))
 ·exact .inl (.inr ⟨o,m.tps a _ h trivial⟩)
 ·exact .inr h
theorem Mv.lat {K:PySem.W.Frag}{S S':Addr→Prop}{H H':Hp}{a:Addr}{vs:List V} (m:Mv S H S' H') (h:LAt K S H a vs):LAt K S' H' a vs:=by
 rcases h with ⟨s,h|⟨o,h⟩⟩|h
 ·exact .inl ⟨m.sub a s,.inl (m.sam a _ s h)⟩
 ·exact .inl ⟨m.sub a s,.inr ⟨o,m.sam a _ s h⟩⟩
 ·exact .inr h
theorem Mv.row {K:PySem.W.Frag}{S S':Addr→Prop}{H H':Hp}{v:V}{r:dr} (m:Mv S H S' H') (h:dW K H v r):dW K H' v r :=
 let ⟨a,b,e,h1,h2⟩:=h;⟨a,b,e,m.sqT h1,m.sqT h2⟩
theorem DAt.mv {H H':Hp}{R R':List V→Prop}{a:Addr}{ks:List Str} (ha:∀ o,H a=some o→H' a=some o) (hR:∀ vs,R vs→R' vs) (h:DAt H R a ks):DAt H' R' a ks :=
 let ⟨kvs,h1,h2,h3⟩:=h;⟨kvs,ha _ h1,h2,hR _ h3⟩
theorem Mv.pG {P:Program}{w:World}{K:PySem.W.Frag}{S S':Addr→Prop}{H H':Hp}{a:Addr}{ks:List dr} (m:Mv S H S' H') (ha:∀ o,H a=some o→H' a=some o) (h:dI P w K H a ks):dI P w K H' a ks :=
 let ⟨xs,h1,h2,h3⟩:=h;⟨xs,ha _ h1,h2,fun x hx=>m.row (h3 x hx)⟩
section
variable {C : Ct} {S S' : Addr → Prop} {H H' : Hp}
mutual
theorem Rep.mv' (m:Mv S H S' H'):∀ (u:U) (v:V),Rep C S H u v→Rep C S' H' u v
 |.non,_,h=>h
 |.bl _,_,h=>h
 |.int _,_,h=>h
 |.str _,_,h=>h
 |.tup us,v,h=>by
  obtain ⟨a,vs,e,h1,h2⟩:=h
  exact ⟨a,vs,e,m.sqT h1,ah.mv' m us vs h2⟩
 |.lst us,v,h=>by
  obtain ⟨a,vs,e,h1,h2⟩:=h
  exact ⟨a,vs,e,m.lat h1,ah.mv' m us vs h2⟩
 |.dic ks us,v,h=>by
  obtain ⟨a,e,h1,h2⟩:=h
  exact ⟨a,e,m.sub a h1,h2.mv (fun o q=>m.sam a o h1 q) fun vs q=>ah.mv' m us vs q⟩
 |.rdc ks,v,h=>by
  obtain ⟨a,e,h1,h2⟩:=h
  exact ⟨a,e,m.sub a h1,m.pG (fun o q=>m.sam a o h1 q) h2⟩
theorem ah.mv' (m:Mv S H S' H'):∀ (us:List U) (vs:List V),ah C S H us vs→ah C S' H' us vs
 |[],_,h=>h
 |u::us,vs,h=>by
  obtain ⟨v,r,e,h1,h2⟩:=h
  exact ⟨v,r,e,Rep.mv' m u v h1,ah.mv' m us r h2⟩
end
mutual
theorem Rep.qO:∀ (u:U) (v:V),imm u=true→Rep C S H u v→Rep C S' H u v
 |.non,_,_,h=>h
 |.bl _,_,_,h=>h
 |.int _,_,_,h=>h
 |.str _,_,_,h=>h
 |.tup us,v,i,h=>by
  obtain ⟨a,vs,e,h1,h2⟩:=h
  exact ⟨a,vs,e,h1,ah.qO us vs (by simpa [TM.imm] using i) h2⟩
 |.lst us,v,i,h=>by simp [TM.imm] at i
 |.dic ks us,v,i,h=>by simp [TM.imm] at i
 |.rdc ks,v,i,h=>by simp [TM.imm] at i
theorem ah.qO:∀ (us:List U) (vs:List V),fU us=true→ah C S H us vs→ah C S' H us vs
 |[],_,_,h=>h
 |u::us,vs,i,h=>by
  obtain ⟨v,r,e,h1,h2⟩:=h
  have i':TM.imm u=true∧fU us=true:=by simpa [fU] using i
  exact ⟨v,r,e,Rep.qO u v i'.1 h1,ah.qO us r i'.2 h2⟩
end
theorem Rep.mv (m:Mv S H S' H') {u:U}{v:V} (h:Rep C S H u v):Rep C S' H' u v:=Rep.mv' m u v h
theorem ah.mv (m:Mv S H S' H') {us:List U}{vs:List V} (h:ah C S H us vs):ah C S' H' us vs:=ah.mv' m us vs h
theorem Rep.imm {u:U}{v:V} (i:TM.imm u=true) (h:Rep C S H u v):Rep C S' H u v:=Rep.qO u v i h
theorem ah.imm {us:List U}{vs:List V} (i:fU us=true) (h:ah C S H us vs):ah C S' H us vs:=ah.qO us vs i h
theorem Mv.up (sub:∀ a,S a→S' a):Mv S H S' H:=⟨sub,fun _ _ h _=>h,fun _ _ _ h=>h⟩
theorem ah.len:∀ {us:List U}{vs:List V},ah C S H us vs→us.length=vs.length
 |[],_,h=>by cases h;rfl
 |u::us,vs,h=>by
  obtain ⟨v,r,rfl,_,h2⟩:=h
  rw [List.length_cons,List.length_cons,ah.len h2]
theorem ah.get:∀ {us:List U}{vs:List V}{i:Nat}{u:U},ah C S H us vs→us[i]?=some u→∃ v,vs[i]?=some v∧Rep C S H u v
 |[],_,_,_,_,e=>by simp at e
 |u::us,vs,0,w,h,e=>by
  obtain ⟨v,r,rfl,h1,_⟩:=h
  simp at e
  subst e
  exact ⟨v,rfl,h1⟩
 |u::us,vs,i+1,w,h,e=>by
  obtain ⟨v,r,rfl,_,h2⟩:=h
  obtain ⟨v',e',h'⟩:=ah.get (i:=i) (u:=w) h2 (by simpa using e)
  exact ⟨v',by simpa using e',h'⟩
theorem ah.append:∀ {us ws:List U}{vs ys:List V},ah C S H us vs→ah C S H ws ys→ah C S H (us++ws) (vs++ys)
 |[],_,_,_,h,h'=>by cases h;exact h'
 |u::us,ws,vs,ys,h,h'=>by
  obtain ⟨v,r,rfl,h1,h2⟩:=h
  exact ⟨v,r++ys,rfl,h1,h2.append h'⟩
theorem ah.take:∀ {us:List U}{vs:List V} (n:Nat),ah C S H us vs→ah C S H (us.take n) (vs.take n)
 |_,_,0,_=>by simp [ah]
 |[],_,n+1,h=>by cases h;simp [ah]
 |u::us,vs,n+1,h=>by
  obtain ⟨v,r,rfl,h1,h2⟩:=h
  exact ⟨v,r.take n,rfl,h1,h2.take n⟩
theorem ah.drop:∀ {us:List U}{vs:List V} (n:Nat),ah C S H us vs→ah C S H (us.drop n) (vs.drop n)
 |_,_,0,h=>h
 |[],_,n+1,h=>by cases h;simp [ah]
 |u::us,vs,n+1,h=>by
  obtain ⟨v,r,rfl,h1,h2⟩:=h
  exact h2.drop n
theorem ah.set:∀ {us:List U}{vs:List V} (n:Nat) {u:U}{v:V},ah C S H us vs→Rep C S H u v→ah C S H (us.set n u) (vs.set n v)
 |[],_,n,_,_,h,_=>by cases h;simp [ah]
 |u::us,vs,0,_,_,h,h'=>by
  obtain ⟨v,r,rfl,h1,h2⟩:=h
  exact ⟨_,r,rfl,h',h2⟩
 |u::us,vs,n+1,_,_,h,h'=>by
  obtain ⟨v,r,rfl,h1,h2⟩:=h
  exact ⟨v,_,rfl,h1,h2.set n h'⟩
theorem ah.snoc {us:List U}{vs:List V}{u:U}{v:V} (h:ah C S H us vs) (h':Rep C S H u v):ah C S H (us++[u]) (vs++[v]):=h.append ⟨v,[],rfl,h',rfl⟩
theorem ah.strs:∀ {xs:List Str}{vs:List V},ah C S H (xs.map .str) vs↔vs=xs.map V.str
 |[],vs=>by simp [ah]
 |x::xs,vs=>by
  constructor
  ·rintro ⟨v,r,rfl,h1,h2⟩
   rw [ah.strs.mp h2]
   have:v=.str x:=h1
   rw [this];rfl
  ·rintro rfl
   exact ⟨_,_,rfl,rfl,ah.strs.mpr rfl⟩
end
structure Ct.Eqv (C C':Ct):Prop where
 P:C.P=C'.P
 w:C.w=C'.w
 K:C.K=C'.K
section
variable {C C' : Ct} {S : Addr → Prop} {H : Hp}
mutual
theorem Rep.cg' (q:C.Eqv C'):∀ (u:U) (v:V),Rep C S H u v→Rep C' S H u v
 |.non,_,h=>h
 |.bl _,_,h=>h
 |.int _,_,h=>h
 |.str _,_,h=>h
 |.tup us,v,h=>by
  obtain ⟨a,vs,e,h1,h2⟩:=h
  exact ⟨a,vs,e,q.K ▸ h1,ah.cg' q us vs h2⟩
 |.lst us,v,h=>by
  obtain ⟨a,vs,e,h1,h2⟩:=h
  exact ⟨a,vs,e,q.K ▸ h1,ah.cg' q us vs h2⟩
 |.dic ks us,v,h=>by
  obtain ⟨a,e,h1,h2⟩:=h
  exact ⟨a,e,h1,h2.mv (fun _ q=>q) fun vs z=>ah.cg' q us vs z⟩
 |.rdc ks,v,h=>by
  obtain ⟨a,e,h1,h2⟩:=h
  exact ⟨a,e,h1,by rw [←q.P,←q.w,←q.K];exact h2⟩
theorem ah.cg' (q:C.Eqv C'):∀ (us:List U) (vs:List V),ah C S H us vs→ah C' S H us vs
 |[],_,h=>h
 |u::us,vs,h=>by
  obtain ⟨v,r,e,h1,h2⟩:=h
  exact ⟨v,r,e,Rep.cg' q u v h1,ah.cg' q us r h2⟩
end
theorem Rep.cg (q:C.Eqv C') {u:U}{v:V} (h:Rep C S H u v):Rep C' S H u v:=Rep.cg' q u v h
theorem ah.cg (q:C.Eqv C') {us:List U}{vs:List V} (h:ah C S H us vs):ah C' S H us vs:=ah.cg' q us vs h
end
noncomputable def cN (C:Ct) (S:Addr→Prop) (H:Hp) (r:Addr):U→Prop
 |.lst us=>∃ vs,H r=some (.lst vs)∧ah C S H us vs
 |.dic ks us=>DAt H (ah C S H us) r ks
 |.rdc ks=>dI C.P C.w C.K H r ks
 |_=>False
theorem cN.mv {C:Ct}{S S':Addr→Prop}{H H':Hp}{r:Addr}{u:U} (m:Mv S H S' H') (hr:∀ o,H r=some o→H' r=some o) (h:cN C S H r u):cN C S' H' r u:=by
 cases u with
 |lst us=>obtain ⟨vs,h1,h2⟩:=h;exact ⟨vs,hr _ h1,h2.mv m⟩
 |dic ks us=>exact DAt.mv hr (fun vs q=>q.mv m) h
 |rdc ks=>exact m.pG hr h
 |non=>exact h
 |bl _=>exact h
 |int _=>exact h
 |str _=>exact h
 |tup _=>exact h
theorem cN.rep {C:Ct}{S S':Addr→Prop}{H:Hp}{r:Addr}{u:U} (hs:∀ a,S a→S' a) (hr:S' r) (h:cN C S H r u):Rep C S' H u (.ref r):=by
 cases u with
 |lst us=>obtain ⟨vs,h1,h2⟩:=h;exact ⟨r,vs,rfl,.inl ⟨hr,.inl h1⟩,h2.mv (.up hs)⟩
 |dic ks us=>exact ⟨r,rfl,hr,DAt.mv (fun _ q=>q) (fun vs q=>q.mv (.up hs)) h⟩
 |rdc ks=>exact ⟨r,rfl,hr,h⟩
 |non=>exact h.elim
 |bl _=>exact h.elim
 |int _=>exact h.elim
 |str _=>exact h.elim
 |tup _=>exact h.elim
theorem cN.cg {C C':Ct}{S:Addr→Prop}{H:Hp}{r:Addr} (q:C.Eqv C') {u:U} (h:cN C S H r u):cN C' S H r u:=by
 cases u with
 |lst us=>obtain ⟨vs,h1,h2⟩:=h;exact ⟨vs,h1,h2.cg q⟩
 |dic ks us=>exact DAt.mv (fun _ q=>q) (fun vs z=>z.cg q) h
 |rdc ks=>show dI _ _ _ _ _ _;rw [←q.P,←q.w,←q.K];exact h
 |non=>exact h
 |bl _=>exact h
 |int _=>exact h
 |str _=>exact h
 |tup _=>exact h
theorem cN.some {C:Ct}{S:Addr→Prop}{H:Hp}{r:Addr}{u:U} (h:cN C S H r u):∃ o,H r=some o∧¬ Tp o:=by
 cases u with
 |lst us=>obtain ⟨vs,h1,_⟩:=h;exact ⟨_,h1,fun z=>z⟩
 |dic ks us=>obtain ⟨kvs,h1,_⟩:=h;exact ⟨_,h1,fun z=>z⟩
 |rdc ks=>obtain ⟨xs,h1,_⟩:=h;exact ⟨_,h1,fun z=>z⟩
 |non=>exact h.elim
 |bl _=>exact h.elim
 |int _=>exact h.elim
 |str _=>exact h.elim
 |tup _=>exact h.elim
end TM
namespace TM
open PySem L2
structure Cf where
 S:Addr→Prop
 H:Hp
 σ:St
 st:ak
 kid:Nat→List Addr
noncomputable def Cf.R1 (c:Cf) (a:Addr):Prop:=∃ (j:Nat) (k:Kd) (u:U),k.root=true∧c.st[j]?=some (some (k,u))∧c.σ[j]?=some (some (.ref a))
noncomputable def Cf.RD (c:Cf) (j:Nat) (a:Addr):Prop:=∃ (u:U) (r:Addr),c.st[j]?=some (some (.ownD,u))∧c.σ[j]?=some (some (.ref r))∧(a=r∨a∈c.kid j)
noncomputable def Cf.R (c:Cf) (a:Addr):Prop:=c.R1 a∨∃ j,c.RD j a
noncomputable def PS (C:Ct) (S:Addr→Prop):Addr→Prop:=fun a=>C.Par a∨S a
noncomputable def d0 (C:Ct) (S:Addr→Prop) (H:Hp):Kd→U→V→Prop
 |.own,u,v=>∃ r,v=.ref r∧¬ S r∧¬ C.Par r∧C.H₀ r=none∧cN C S H r u
 |.io,u,v=>∃ r,v=.ref r∧¬ S r∧¬ C.Par r∧C.IO r∧cN C S H r u
 |.loc,u,v=>Rep C S H u v
 |.any,u,v=>Rep C (PS C S) H u v
 |.bor _,_,_=>False
 |.ownD,_,v=>∃ r,v=.ref r
noncomputable def kS (C:Ct) (S:Addr→Prop) (H:Hp):List U→List Addr→Prop
 |[],as=>as=[]
 |u::us,as=>∃ a as' ys vs,as=a::as'∧u=.lst ys∧H a=some (.lst vs)∧ah C S H ys vs∧kS C S H us as'
noncomputable def d4 (C:Ct) (S:Addr→Prop) (H:Hp) (r:Addr) (as:List Addr):U→Prop
 |.dic ks us=>∃ kvs:List (Key×V),H r=some (.dK kvs)∧kvs.map (·.1)=ks.map Sum.inr∧kvs.map (·.2)=as.map V.ref∧(r::as).Nodup∧(∀ a∈r::as,¬ S a∧¬ C.Par a∧C.H₀ a=none)∧kS C S H us as
 |_=>False
structure DOk (C:Ct) (c:Cf):Prop where
 kd:∀ (j:Nat) (u:U) (r:Addr),c.st[j]?=some (some (.ownD,u))→c.σ[j]?=some (some (.ref r))→d4 C c.S c.H r (c.kid j) u
 dj:∀ (i j:Nat) (a:Addr),c.RD i a→c.RD j a→i=j
 d1:∀ (j:Nat) (a:Addr),c.RD j a→¬ c.R1 a
structure Ok (C:Ct) (c:Cf):Prop where
 same:∀ a o,C.H₀ a=some o→¬ C.IO a→c.H a=some o
 sfr:∀ a,c.S a→C.H₀ a=none∧∃ o,c.H a=some o
 par:∀ a,C.Par a→(∃ o,C.H₀ a=some o)∧¬ C.IO a
 io:∀ a,C.IO a→(∃ o,C.H₀ a=some o)∧∃ o,c.H a=some o
 len:c.st.length=c.σ.length
 sl:∀ (i:Nat) (k:Kd) (u:U),c.st[i]?=some (some (k,u))→∃ v,c.σ[i]?=some (some v)∧d0 C c.S c.H k u v
 inj:∀ (i j:Nat) (k k':Kd) (u u':U) (r:Addr),k.root=true→k'.root=true→c.st[i]?=some (some (k,u))→c.st[j]?=some (some (k',u'))→c.σ[i]?=some (some (.ref r))→c.σ[j]?=some (some (.ref r))→i=j
 dd:DOk C c
structure Ns (c c':Cf):Prop where
 keep:∀ a o,c.H a=some o→¬ c.R a→c'.H a=some o
 there:∀ a o,c.H a=some o→∃ o',c'.H a=some o'
 roots:∀ a,c'.R a→c.R a∨c.H a=none
 sub:∀ a,c.S a→c'.S a
 new:∀ a,c'.S a→c.S a∨c.R a∨c.H a=none
section
variable {C : Ct} {c c' c'' c0 c1 : Cf}
theorem Ns.refl (c:Cf):Ns c c:=⟨fun _ _ h _=>h,fun _ o h=>⟨o,h⟩,fun _ h=>.inl h,fun _ h=>h,fun _ h=>.inl h⟩
theorem Ns.none (n:Ns c c') {a:Addr} (h:c'.H a=.none):c.H a=.none:=by
 cases e:c.H a with
 |none=>rfl
 |some o=>obtain ⟨o',q⟩:=n.there a o e;rw [h] at q;cases q
theorem Ns.trans (m:Ns c c') (n:Ns c' c''):Ns c c'' where
 keep:=fun a o h hr=>by
  refine n.keep a o (m.keep a o h hr) fun z=>?_
  rcases m.roots a z with z|z
  ·exact hr z
  ·rw [h] at z;cases z
 there:=fun a o h=>let ⟨o',h'⟩:=m.there a o h;n.there a o' h'
 roots:=fun a h=>by
  rcases n.roots a h with z|z
  ·exact m.roots a z
  ·exact .inr (m.none z)
 sub:=fun a h=>n.sub a (m.sub a h)
 new:=fun a h=>by
  rcases n.new a h with z|z|z
  ·exact m.new a z
  ·rcases m.roots a z with z|z
   ·exact .inr (.inl z)
   ·exact .inr (.inr z)
  ·exact .inr (.inr (m.none z))
theorem d0.rt {S:Addr→Prop}{H:Hp}{k:Kd}{u:U}{v:V} (hk:k.root=true) (h:d0 C S H k u v):∃ r,v=.ref r∧¬ S r∧¬ C.Par r∧(C.H₀ r=none∨C.IO r)∧cN C S H r u:=by
 cases k with
 |own=>obtain ⟨r,h1,h2,h3,h4,h5⟩:=h;exact ⟨r,h1,h2,h3,.inl h4,h5⟩
 |io=>obtain ⟨r,h1,h2,h3,h4,h5⟩:=h;exact ⟨r,h1,h2,h3,.inr h4,h5⟩
 |_=>cases hk
theorem kS.mem {S:Addr→Prop}{H:Hp}:∀ {us:List U}{as:List Addr}{a:Addr},kS C S H us as→a∈as→∃ vs,H a=some (.lst vs)
 |[],as,a,h,ha=>by cases h;cases ha
 |u::us,as,a,h,ha=>by
  obtain ⟨a',as',ys,vs,rfl,_,h1,_,h2⟩:=h
  rcases List.mem_cons.mp ha with rfl|ha
  ·exact ⟨vs,h1⟩
  ·exact kS.mem h2 ha
theorem kS.mv {S S':Addr→Prop}{H H':Hp} (m:Mv S H S' H'):∀ {us:List U}{as:List Addr},(∀ a∈as,∀ o,H a=some o→H' a=some o)→kS C S H us as→kS C S' H' us as
 |[],as,_,h=>h
 |u::us,as,hf,h=>by
  obtain ⟨a,as',ys,vs,rfl,e,h1,h2,h3⟩:=h
  exact ⟨a,as',ys,vs,rfl,e,hf a (by simp) _ h1,h2.mv m,kS.mv m (fun a ha=>hf a (by simp [ha])) h3⟩
theorem d4.fr {S:Addr→Prop}{H:Hp}{r:Addr}{as:List Addr}{u:U} (h:d4 C S H r as u):∀ a∈r::as,¬ S a∧¬ C.Par a∧C.H₀ a=none:=by
 cases u <;> first|exact h.elim|(obtain ⟨kvs,_,_,_,_,h5,_⟩:=h;exact h5)
theorem d4.there {S:Addr→Prop}{H:Hp}{r:Addr}{as:List Addr}{u:U} (h:d4 C S H r as u):∀ a∈r::as,∃ o,H a=some o∧¬ Tp o:=by
 cases u <;> first|exact h.elim|skip
 obtain ⟨kvs,h1,_,_,_,_,h6⟩:=h
 intro a ha
 rcases List.mem_cons.mp ha with rfl|ha
 ·exact ⟨_,h1,fun z=>z⟩
 ·obtain ⟨vs,e⟩:=h6.mem ha
  exact ⟨_,e,fun z=>z⟩
theorem d4.mv {S S':Addr→Prop}{H H':Hp}{r:Addr}{as:List Addr}{u:U} (m:Mv S H S' H') (hf:∀ a∈r::as,¬ S' a∧∀ o,H a=some o→H' a=some o) (h:d4 C S H r as u):d4 C S' H' r as u:=by
 cases u <;> first|exact h.elim|skip
 obtain ⟨kvs,h1,h2,h3,h4,h5,h6⟩:=h
 exact ⟨kvs,(hf r (by simp)).2 _ h1,h2,h3,h4,fun a ha=>⟨(hf a ha).1,(h5 a ha).2⟩,h6.mv m fun a ha=>(hf a (by simp [ha])).2⟩
theorem DOk.of (d:DOk C c) (hk:c'.kid=c.kid) (hD:∀ (j:Nat) (u:U),c'.st[j]?=some (some (.ownD,u))→c.st[j]?=some (some (.ownD,u))∧c'.σ[j]?=c.σ[j]?) (h1:∀ a,c'.R1 a→c.R1 a∨∀ j,¬ c.RD j a)
  (m:Mv c.S c.H c'.S c'.H) (hf:∀ j a,c.RD j a→¬ c'.S a∧∀ o,c.H a=some o→c'.H a=some o):DOk C c':=by
 have back:∀ j a,c'.RD j a→c.RD j a:=fun j a hIx=>by
  obtain ⟨u,r,e1,e2,e3⟩:=hIx
  obtain ⟨q1,q2⟩:=hD j u e1
  rw [q2] at e2
  rw [hk] at e3
  exact ⟨u,r,q1,e2,e3⟩
 refine ⟨fun j u r e1 e2=>?_,fun i j a z1 z2=>d.dj i j a (back i a z1) (back j a z2),fun j a z1 z2=>?_⟩
 ·obtain ⟨q1,q2⟩:=hD j u e1
  rw [q2] at e2
  rw [hk]
  exact d4.mv m (fun a ha=>hf j a ⟨u,r,q1,e2,List.mem_cons.mp ha⟩) (d.kd j u r q1 e2)
 ·rcases h1 a z2 with z|z
  ·exact d.d1 j a (back j a z1) z
  ·exact z j (back j a z1)
theorem DOk.hs (d:DOk C c) {H':Hp}{S':Addr→Prop} (m:Mv c.S c.H S' H') (hf:∀ j a,c.RD j a→¬ S' a∧∀ o,c.H a=Option.some o→H' a=Option.some o):DOk C { c with H:=H',S:=S' } :=
 d.of rfl (fun _ _ e=>⟨e,rfl⟩) (fun _ z=>.inl z) m hf
theorem Ok.root (ok:Ok C c) {r:Addr} (h:c.R r):¬ c.S r∧¬ C.Par r∧(C.H₀ r=none∨C.IO r)∧∃ o,c.H r=some o∧¬ Tp o:=by
 rcases h with ⟨j,k,u,hk,h1,h2⟩|⟨j,u,r',h1,h2,h3⟩
 ·obtain ⟨v,e,hs⟩:=ok.sl j _ _ h1
  obtain ⟨r',ev,h3,h4,h5,h6⟩:=hs.rt hk
  rw [h2] at e
  cases e
  cases ev
  exact ⟨h3,h4,h5,h6.some⟩
 ·have hd:=ok.dd.kd j u r' h1 h2
  obtain ⟨q1,q2,q3⟩:=d4.fr hd r (List.mem_cons.mpr h3)
  exact ⟨q1,q2,.inl q3,d4.there hd r (List.mem_cons.mpr h3)⟩
theorem Ok.mv (ok:Ok C c) (n:Ns c c'):Mv c.S c.H c'.S c'.H:=⟨n.sub,fun a o h t=>n.keep a o h fun z=>by
  obtain ⟨_,_,_,o',h',nt⟩:=ok.root z
  rw [h] at h';cases h'
  exact nt t,fun a o s h=>n.keep a o h fun z=>(ok.root z).1 s⟩
theorem Ok.mvP (ok:Ok C c) (n:Ns c c'):Mv (PS C c.S) c.H (PS C c'.S) c'.H:=⟨fun a h=>h.imp id (n.sub a),(ok.mv n).tps,fun a o s h=>n.keep a o h fun z=>by
  rcases s with s|s
  ·exact (ok.root z).2.1 s
  ·exact (ok.root z).1 s⟩
theorem Ok.oe (ok:Ok C c) {p:Addr} (h:c.H p=none):C.H₀ p=none∧¬ c.S p∧¬ C.Par p∧¬ C.IO p∧¬ c.R p:=by
 have hio:¬ C.IO p:=fun z=>by obtain ⟨_,o,q⟩:=ok.io p z;rw [h] at q;cases q
 have h0:C.H₀ p=none:=by
  cases e:C.H₀ p with
  |none=>rfl
  |some o=>have:=ok.same p o e hio;rw [h] at this;cases this
 refine ⟨h0,fun z=>?_,fun z=>?_,hio,fun z=>?_⟩
 ·obtain ⟨_,o,q⟩:=ok.sfr p z;rw [h] at q;cases q
 ·obtain ⟨⟨o,q⟩,_⟩:=ok.par p z;rw [h0] at q;cases q
 ·obtain ⟨_,_,_,o,q,_⟩:=ok.root z;rw [h] at q;cases q
theorem d0.mv {S S':Addr→Prop}{H H':Hp}{k:Kd}{u:U}{v:V} (m:Mv S H S' H') (mp:Mv (PS C S) H (PS C S') H') (hr:k.root=true→∀ r,v=.ref r→¬ S' r∧∀ o,H r=some o→H' r=some o) (h:d0 C S H k u v):d0 C S' H' k u v:=by
 cases k with
 |own =>
  obtain ⟨r,e,h1,h2,h3,h4⟩:=h
  obtain ⟨q1,q2⟩:=hr rfl r e
  exact ⟨r,e,q1,h2,h3,h4.mv m q2⟩
 |io =>
  obtain ⟨r,e,h1,h2,h3,h4⟩:=h
  obtain ⟨q1,q2⟩:=hr rfl r e
  exact ⟨r,e,q1,h2,h3,h4.mv m q2⟩
 |loc=>exact Rep.mv m h
 |any=>exact Rep.mv mp h
 |bor j=>exact h.elim
 |ownD=>exact h
structure Nx (c c':Cf):Prop extends Ns c c' where
 all:∀ a o,c.H a=some o→c'.H a=some o
noncomputable instance {c c':Cf}:Coe (Nx c c') (Ns c c'):=⟨Nx.toNs⟩
theorem Nx.refl (c:Cf):Nx c c:=⟨.refl c,fun _ _ h=>h⟩
theorem Nx.trans (m:Nx c c') (n:Nx c' c''):Nx c c'':=⟨m.toNs.trans n.toNs,fun a o h=>n.all a o (m.all a o h)⟩
theorem Nx.none (n:Nx c c') {a:Addr} (h:c'.H a=.none):c.H a=.none:=n.toNs.none h
theorem Ok.lay (ok:Ok C c) {p:Addr}{o:HO} (h:c.H p=none):Ok C { c with H:=upd c.H p o }∧Nx c { c with H:=upd c.H p o }:=by
 have ne:∀ {a:Addr} {o':HO},c.H a=some o'→a≠p:=fun e z=>by subst z;rw [h] at e;cases e
 have kp:∀ a o',c.H a=some o'→(upd c.H p o) a=some o':=fun a o' e=>by rw [aI (ne e)];exact e
 have nx:Nx c { c with H:=upd c.H p o }:=⟨⟨fun a o' e _=>kp a o' e,fun a o' e=>⟨o',kp a o' e⟩,fun a z=>.inl z,fun _ z=>z,fun _ z=>.inl z⟩,kp⟩
 refine ⟨⟨fun a o' e z=>kp a o' (ok.same a o' e z),fun a z=>⟨(ok.sfr a z).1,let ⟨o',q⟩:=(ok.sfr a z).2;⟨o',kp a o' q⟩⟩,ok.par,fun a z=>⟨(ok.io a z).1,let ⟨o',q⟩:=(ok.io a z).2;⟨o',kp a o' q⟩⟩,ok.len,fun i k u e=>?_,ok.inj,ok.dd.hs (ok.mv nx.toNs) fun j a z=>⟨(ok.root (.inr ⟨j,z⟩)).1,fun o' e=>kp a o' e⟩⟩,nx⟩
 obtain ⟨v,e1,e2⟩:=ok.sl i k u e
 refine ⟨v,e1,e2.mv (ok.mv nx.toNs) (ok.mvP nx.toNs) fun hk r er=>?_⟩
 obtain ⟨r',er',q1,_⟩:=e2.rt hk
 rw [er] at er'
 cases er'
 exact ⟨q1,fun o' e=>kp r o' e⟩
theorem Ok.grow (ok:Ok C c) {H':Hp}{S':Addr→Prop} (hs:yM c.H H') (hS:∀ a,S' a→c.S a∨(c.H a=none∧∃ o,H' a=some o)) (hS1:∀ a,c.S a→S' a):Ok C { c with H:=H',S:=S' }∧Nx c { c with H:=H',S:=S' }:=by
 have nx:Nx c { c with H:=H',S:=S' }:=⟨⟨fun a o' e _=>hs a o' e,fun a o' e=>⟨o',hs a o' e⟩,fun a z=>.inl z,hS1,fun a z=>(hS a z).imp id fun q=>.inr q.1⟩,hs⟩
 refine ⟨⟨fun a o' e z=>hs a o' (ok.same a o' e z),fun a z=>?_,ok.par,fun a z=>⟨(ok.io a z).1,let ⟨o',q⟩:=(ok.io a z).2;⟨o',hs a o' q⟩⟩,ok.len,fun i k u e=>?_,ok.inj,ok.dd.hs (ok.mv nx.toNs) fun j a z=>⟨fun z'=>?_,fun o' e=>hs a o' e⟩⟩,nx⟩
 rotate_left 2
 ·obtain ⟨q1,_,_,o,q4,_⟩:=ok.root (.inr ⟨j,z⟩)
  rcases hS a z' with z'|⟨z',_⟩
  ·exact q1 z'
  ·rw [q4] at z';cases z'
 ·rcases hS a z with q|⟨q1,q2⟩
  ·exact ⟨(ok.sfr a q).1,let ⟨o',q⟩:=(ok.sfr a q).2;⟨o',hs a o' q⟩⟩
  ·exact ⟨(ok.oe q1).1,q2⟩
 ·obtain ⟨v,e1,e2⟩:=ok.sl i k u e
  refine ⟨v,e1,e2.mv (ok.mv nx.toNs) (ok.mvP nx.toNs) fun hk r er=>?_⟩
  obtain ⟨r',er',q1,q2,q3,q4⟩:=e2.rt hk
  rw [er] at er'
  cases er'
  obtain ⟨o,ho,_⟩:=q4.some
  refine ⟨fun z=>?_,fun o' e=>hs r o' e⟩
  rcases hS r z with z|⟨z,_⟩
  ·exact q1 z
  ·rw [z] at ho;cases ho
noncomputable def aG (C:Ct) (c0 c:Cf):Kd→U→V→Prop
 |.own,u,v=>∃ r,v=.ref r∧c0.H r=none∧¬ c.S r∧¬ c.R r∧cN C c.S c.H r u
 |.loc,u,v=>Rep C c.S c.H u v
 |.any,u,v=>Rep C (PS C c.S) c.H u v
 |.bor j,u,v=>(∃ k:Kd,k.root=true∧c.st[j]?=some (some (k,u)))∧c.σ[j]?=some (some v)
 |.io,_,_=>False
 |.ownD,_,_=>False
noncomputable def d5 (C:Ct) (c0 c:Cf):Kd→U→V→Prop
 |.own,u,v=>∃ r,v=.ref r∧c0.H r=none∧¬ c.S r∧¬ c.R r∧cN C c.S c.H r u
 |.loc,u,v=>Rep C c.S c.H u v
 |.any,u,v=>Rep C (PS C c.S) c.H u v
 |.bor j,u,v=>c.σ[j]?=some (some v)
 |.io,_,_=>False
 |.ownD,_,_=>False
theorem aG.w {k:Kd}{u:U}{v:V} (h:aG C c0 c k u v):d5 C c0 c k u v:=by
 cases k with
 |own=>exact h
 |loc=>exact h
 |any=>exact h
 |bor j=>exact h.2
 |io=>exact h
 |ownD=>exact h
theorem d5.on' {k:Kd}{u:U}{v:V} (ok:Ok C c) (n:Ns c c') (hσ:∀ j,k=.bor j→c'.σ[j]?=c.σ[j]?) (h:d5 C c0 c k u v):d5 C c0 c' k u v:=by
 cases k with
 |own =>
  obtain ⟨r,e,h1,h2,h3,h4⟩:=h
  obtain ⟨o,ho,_⟩:=h4.some
  refine ⟨r,e,h1,fun z=>?_,fun z=>?_,h4.mv (ok.mv n) fun o q=>n.keep r o q h3⟩
  ·rcases n.new r z with z|z|z
   ·exact h2 z
   ·exact h3 z
   ·rw [z] at ho;cases ho
  ·rcases n.roots r z with z|z
   ·exact h3 z
   ·rw [z] at ho;cases ho
 |loc=>exact Rep.mv (ok.mv n) h
 |any=>exact Rep.mv (ok.mvP n) h
 |bor j=>show c'.σ[j]?=_;rw [hσ j rfl];exact h
 |io=>exact h
 |ownD=>exact h
theorem d5.on {k:Kd}{u:U}{v:V} (ok:Ok C c) (n:Ns c c') (hσ:c'.σ=c.σ) (h:d5 C c0 c k u v):d5 C c0 c' k u v:=h.on' ok n fun j _=>by rw [hσ]
theorem d5.from {k:Kd}{u:U}{v:V} (n:Ns c0 c1) (h:d5 C c1 c k u v):d5 C c0 c k u v:=by
 cases k with
 |own=>obtain ⟨r,e,h1,h2⟩:=h;exact ⟨r,e,n.none h1,h2⟩
 |loc=>exact h
 |any=>exact h
 |bor j=>exact h
 |io=>exact h
 |ownD=>exact h
theorem aG.from {k:Kd}{u:U}{v:V} (n:Ns c0 c1) (h:aG C c1 c k u v):aG C c0 c k u v:=by
 cases k with
 |own=>obtain ⟨r,e,h1,h2⟩:=h;exact ⟨r,e,n.none h1,h2⟩
 |loc=>exact h
 |any=>exact h
 |bor j=>exact h
 |io=>exact h
 |ownD=>exact h
noncomputable def SK (C:Ct) (c:Cf):Kd→Addr→Prop
 |.any=>PS C c.S
 |_=>c.S
noncomputable def kE:Kd→Kd
 |.any=>.any
 |_=>.loc
theorem Ok.rootOf (ok:Ok C c) {j:Nat}{u:U}{v:V} (h:∃ k:Kd,k.root=true∧c.st[j]?=some (some (k,u))) (e:c.σ[j]?=some (some v)):∃ r,v=.ref r∧¬ c.S r∧¬ C.Par r∧(C.H₀ r=none∨C.IO r)∧cN C c.S c.H r u:=by
 obtain ⟨k,hk,h⟩:=h
 obtain ⟨v',e1,e2⟩:=ok.sl j _ _ h
 rw [e] at e1
 cases e1
 exact e2.rt hk
theorem aG.list {k:Kd}{us:List U}{v:V} (ok:Ok C c) (h:aG C c0 c k (.lst us) v):∃ a vs,v=.ref a∧SqL C.K c.H a vs∧ah C (SK C c k) c.H us vs:=by
 cases k with
 |own=>obtain ⟨r,e,_,_,_,vs,h1,h2⟩:=h;exact ⟨r,vs,e,SqL.of h1,h2⟩
 |loc=>obtain ⟨a,vs,e,h1,h2⟩:=h;exact ⟨a,vs,e,h1.sq,h2⟩
 |any=>obtain ⟨a,vs,e,h1,h2⟩:=h;exact ⟨a,vs,e,h1.sq,h2⟩
 |bor j=>obtain ⟨r,e,_,_,_,vs,h1,h2⟩:=ok.rootOf h.1 h.2;exact ⟨r,vs,e,SqL.of h1,h2⟩
 |io=>exact h.elim
 |ownD=>exact h.elim
theorem aG.tuple {k:Kd}{us:List U}{v:V} (ok:Ok C c) (h:aG C c0 c k (.tup us) v):∃ a vs,v=.ref a∧SqT C.K c.H a vs∧ah C (SK C c k) c.H us vs:=by
 cases k with
 |own=>obtain ⟨r,e,_,_,_,h⟩:=h;exact h.elim
 |loc=>obtain ⟨a,vs,e,h1,h2⟩:=h;exact ⟨a,vs,e,h1,h2⟩
 |any=>obtain ⟨a,vs,e,h1,h2⟩:=h;exact ⟨a,vs,e,h1,h2⟩
 |bor j=>obtain ⟨r,e,_,_,_,h⟩:=ok.rootOf h.1 h.2;exact h.elim
 |io=>exact h.elim
 |ownD=>exact h.elim
theorem aG.flat {k:Kd}{u:U}{v:V} (ok:Ok C c) (hu:imm u=true) (h:aG C c0 c k u v):Rep C c.S c.H u v:=by
 cases k with
 |own=>obtain ⟨r,e,_,_,_,h⟩:=h;cases u <;> simp [imm] at hu <;> exact h.elim
 |loc=>exact h
 |any=>exact Rep.imm hu h
 |bor j=>obtain ⟨r,e,_,_,_,h⟩:=ok.rootOf h.1 h.2;cases u <;> simp [imm] at hu <;> exact h.elim
 |io=>exact h.elim
 |ownD=>exact h.elim
theorem aG.int {k:Kd}{i:Int}{v:V} (ok:Ok C c) (h:aG C c0 c k (.int i) v):v=.int i:=h.flat ok rfl
theorem aG.str {k:Kd}{x:Str}{v:V} (ok:Ok C c) (h:aG C c0 c k (.str x) v):v=.str x:=h.flat ok rfl
theorem aG.bl {k:Kd}{b:Bool}{v:V} (ok:Ok C c) (h:aG C c0 c k (.bl b) v):v=.bl b:=h.flat ok rfl
theorem aG.item {k:Kd}{u:U}{v:V} (h:Rep C (SK C c k) c.H u v):aG C c0 c (kE k) u v:=by
 cases k <;> exact h
noncomputable def Dom (H:Hp):Addr→Prop:=fun a=>∃ o,H a=some o
theorem Ok.uQ (ok:Ok C c):∀ a,c.S a→Dom c.H a:=fun a h=>(ok.sfr a h).2
theorem Ok.AA (ok:Ok C c):∀ a,PS C c.S a→Dom c.H a:=fun a h=>by
 rcases h with h|h
 ·obtain ⟨⟨o,e⟩,n⟩:=ok.par a h
  exact ⟨o,ok.same a o e n⟩
 ·exact ok.uQ a h
theorem aG.read {k:Kd}{u:U}{v:V} (ok:Ok C c) (h:aG C c0 c k u v):Rep C (Dom c.H) c.H u v:=by
 cases k with
 |own =>
  obtain ⟨r,e,_,_,_,h4⟩:=h
  rw [e]
  obtain ⟨o,ho,_⟩:=h4.some
  exact h4.rep ok.uQ ⟨o,ho⟩
 |loc=>exact Rep.mv (.up ok.uQ) h
 |any=>exact Rep.mv (.up ok.AA) h
 |bor j =>
  obtain ⟨r,e,_,_,_,h4⟩:=ok.rootOf h.1 h.2
  rw [e]
  obtain ⟨o,ho,_⟩:=h4.some
  exact h4.rep ok.uQ ⟨o,ho⟩
 |io=>exact h.elim
 |ownD=>exact h.elim
theorem Ok.newList (ok:Ok C c) (n:Nx c0 c) {p:Addr}{us:List U}{vs:List V} (h:c.H p=none) (hr:ah C c.S c.H us vs) :
  Ok C { c with H:=upd c.H p (.lst vs) }∧Nx c0 { c with H:=upd c.H p (.lst vs) }∧aG C c0 { c with H:=upd c.H p (.lst vs) } .own (.lst us) (.ref p):=by
 obtain ⟨ok',n'⟩:=ok.lay (o:=.lst vs) h
 obtain ⟨h0,h1,h2,h3,h4⟩:=ok.oe h
 exact ⟨ok',n.trans n',p,rfl,n.none h,h1,h4,vs,aR,hr.mv (ok.mv n'.toNs)⟩
theorem Ok.xg (ok:Ok C c) (n:Nx c0 c) {p:Addr}{us:List U}{vs:List V} (h:c.H p=none) (hr:ah C c.S c.H us vs) :
  Ok C { c with H:=upd c.H p (.tup vs) }∧Nx c0 { c with H:=upd c.H p (.tup vs) }∧aG C c0 { c with H:=upd c.H p (.tup vs) } .loc (.tup us) (.ref p):=by
 obtain ⟨ok',n'⟩:=ok.lay (o:=.tup vs) h
 exact ⟨ok',n.trans n',p,vs,rfl,SqT.of aR,hr.mv (ok.mv n'.toNs)⟩
end
end TM
namespace TM
open PySem L2
inductive Ex (α:Type) where|ok (a:α)|exc (c:Str)
noncomputable def M (α:Type):=ak→Option (Ex α×ak)
namespace M
variable {α β : Type}
noncomputable def pure (a:α):M α:=fun st=>some (.ok a,st)
noncomputable def fail:M α:=fun _=>none
noncomputable def bind (m:M α) (f:α→M β):M β:=fun st=>match m st with
 |none=>none
 |some (.ok a,st')=>f a st'
 |some (.exc c,st')=>some (.exc c,st')
noncomputable def ofO (o:Option α):M α:=fun st=>match o with
 |none=>none
 |some a=>some (.ok a,st)
end M
noncomputable instance:Monad M:={ pure:=M.pure,bind:=M.bind }
noncomputable def W {α:Type} (m:M α) (st:ak) (Q:α→ak→Prop):Prop:=∃ a st',m st=some (.ok a,st')∧Q a st'
section
variable {α β : Type} {m : M α} {f : α → M β} {st : ak}
theorem ai {a:α}{Q:α→ak→Prop}:W (pure a) st Q↔Q a st:=by
 constructor
 ·rintro ⟨b,st',e,h⟩;cases e;exact h
 ·intro h;exact ⟨a,st,rfl,h⟩
theorem ag {Q:β→ak→Prop}:W (m >>= f) st Q↔W m st fun a st'=>W (f a) st' Q:=by
 constructor
 ·rintro ⟨b,st',e,h⟩
  have e':M.bind m f st=some (.ok b,st'):=e
  unfold M.bind at e'
  cases q:m st with
  |none=>rw [q] at e';cases e'
  |some r =>
   obtain ⟨r,s1⟩:=r
   rw [q] at e'
   cases r with
   |ok a=>exact ⟨a,s1,q,b,st',e',h⟩
   |exc c=>cases e'
 ·rintro ⟨a,s1,q,b,st',e,h⟩
  refine ⟨b,st',?_,h⟩
  show M.bind m f st=_
  unfold M.bind
  rw [q]
  exact e
theorem bQ {o:Option α}{Q:α→ak→Prop}:W (M.ofO o) st Q↔∃ a,o=some a∧Q a st:=by
 cases o with
 |none=>exact ⟨fun ⟨_,_,e,_⟩=>(by cases e),fun ⟨_,e,_⟩=>(by cases e)⟩
 |some a=>exact ⟨fun ⟨_,_,e,h⟩=>(by cases e;exact ⟨a,rfl,h⟩),fun ⟨_,e,h⟩=>(by cases e;exact ⟨a,st,rfl,h⟩)⟩
theorem aq {Q:α→ak→Prop}:W (M.fail:M α) st Q↔False:=⟨fun ⟨_,_,e,_⟩=>(by cases e),False.elim⟩
theorem W.mono {Q Q':α→ak→Prop} (h:W m st Q) (i:∀ a s,Q a s→Q' a s):W m st Q':=let ⟨a,s,e,q⟩:=h;⟨a,s,e,i a s q⟩
end
inductive Bop where|add|sub|mul|fdv|mod|pow
deriving DecidableEq
inductive Cop where|eq|ne|lt|le|gt|ge|isin|notin|is|isnt
deriving DecidableEq
inductive Bf where|len|sorted|list|tuple|str|int|repr|max|min|all|any
 |dict
deriving DecidableEq
inductive B2 where|revT|revL|sset|kz
deriving DecidableEq
inductive Mf where|split|join|partition|endswith
deriving DecidableEq
inductive Ty5 where|str|list|tuple|int|bool
deriving DecidableEq
inductive Ik where|seq|rng1|rng2|enm|zip|rev
deriving DecidableEq
inductive E where
 |var (i:Nat)
 |cst (u:U)
 |glb (x:Str) (u:U)
 |bin (op:Bop) (a b:E)
 |cmp (op:Cop) (a b:E)
 |cmp2 (o1 o2:Cop) (a b c:E)
 |and (es:List E)|or (es:List E)|not (a:E)
 |ite (c a b:E)
 |tup (es:List E)|lst (es:List E)|dnew (r:Bool)
 |idx (a b:E)
 |slc (a:E) (lo hi:List E)
 |bi (f:Bf) (es:List E)
 |bi2 (f:B2) (es:List E)
 |mth (m:Mf) (a:E) (es:List E)
 |call (f:Str) (es:List E)
 |comp (k:Nat) (t:Bool) (ik:Ik) (src:List E) (cond:List E) (e:E)
 |neg (a:E)|bad|isi (a:E) (T:Ty5)|fst (es:List E)|inD (neg:Bool) (a:E) (i:Nat)|pub (i:Nat)|get2 (i:Nat) (k d:E)|sit (i:Nat)|sdf (ln:Bool) (a b:E)
 |vls (i:Nat)
inductive S where
 |set (i:Nat) (e:E)
 |setT (is:List Nat) (e:E)
 |put (i:Nat) (k v:E)
 |app (i:Nat) (e:E)|ext (i:Nat) (e:E)|bad|newD (i:Nat)|putD (i:Nat) (k v:E)|appD (i:Nat) (k v:E)|aug (sub:Bool) (i:Nat) (k v:E)|rvs (i:Nat)
 |exp (e:E)
 |ret (e:E)|retN
 |ite (c:E) (a b:List S)
 |for_ (t:Bool) (is:List Nat) (ik:Ik) (src:List E) (body:List S)
 |whl (c:E) (body:List S)
 |brk|cnt|pas
noncomputable def isAny:Kd→Bool
 |.any=>true
 |_=>false
noncomputable def fV (k:Kd) (xs:List U):Bool:=!isAny k||fU xs
noncomputable def cut {α:Type} (xs:List α) (lo hi:Option Int):List α:=(xs.drop (HT.sIx xs.length 0 lo)).take (HT.sIx xs.length xs.length hi - HT.sIx xs.length 0 lo)
noncomputable def qP:Kd×U→Kd×U→Option (Kd×U)
 |(_,.int i),(_,.int j)=>some (.loc,.int (i+j))
 |(_,.str x),(_,.str y)=>if x.length+y.length≤sizeLine then some (.loc,.str (x++y)) else none
 |(k,.lst xs),(k',.lst ys)=>if xs.length+ys.length≤sizeLine∧fV k xs=true∧fV k' ys=true then some (.own,.lst (xs++ys)) else none
 |_,_=>none
noncomputable def og (f:Int→Int→Option Int):U→U→Option (Kd×U)
 |.int i,.int j=>(f i j).map fun n=>(.loc,.int n)
 |_,_=>none
noncomputable def uR (i j:Int):Option Int:=if ((-(2 ^ 64)<i∧i<2 ^ 64)∨(-(2 ^ 64)<j∧j<2 ^ 64)) then some (i * j) else none
noncomputable def uS (i j:Int):Option Int:=if 0<j∧j<1073741824 then some (i / j) else none
noncomputable def uT (i j:Int):Option Int:=if 0<j then some (i % j) else none
noncomputable def uU (i j:Int):Option Int:=if 0≤j∧j≤1000000∧i.natAbs<2 ^ 64 then some (i ^ j.toNat) else none
noncomputable def opU (op:Bop) (x y:Kd×U):Option (Kd×U):=match op with
 |.add=>qP x y
 |.sub=>og (fun i j=>some (i - j)) x.2 y.2
 |.mul=>og uR x.2 y.2
 |.fdv=>og uS x.2 y.2
 |.mod=>og uT x.2 y.2
 |.pow=>og uU x.2 y.2
mutual
noncomputable def eqD:Nat→U→Bool
 |_,.dic _ _=>false
 |_,.rdc _=>false
 |0,.tup _=>false
 |0,.lst _=>false
 |n+1,.tup xs=>b8 n xs
 |n+1,.lst xs=>b8 n xs
 |_,.non=>true|_,.bl _=>true|_,.int _=>true|_,.str _=>true
noncomputable def b8:Nat→List U→Bool
 |_,[]=>true
 |n,u::us=>eqD n u&&b8 n us
end
mutual
noncomputable def a5:U→U→Bool
 |.non,.non=>true
 |.bl a,.bl b=>a==b
 |.bl a,.int b=>(if a then 1 else 0)==b
 |.int a,.bl b=>a==(if b then 1 else 0)
 |.int a,.int b=>a==b
 |.str a,.str b=>a==b
 |.tup xs,.tup ys=>bH xs ys
 |.lst xs,.lst ys=>bH xs ys
 |_,_=>false
noncomputable def bH:List U→List U→Bool
 |[],[]=>true
 |u::us,w::ws=>a5 u w&&bH us ws
 |_,_=>false
end
noncomputable def inU (x:U) (ys:List U):Option Bool:=if eqD 50 x=true∧b8 50 ys=true then some (ys.any fun y=>a5 y x) else none
noncomputable def strsOf:List U→Option (List Str)
 |[]=>some []
 |.str x::us=>(strsOf us).map (x::·)
 |_::_=>none
noncomputable def rowOf:U→Option dr
 |.tup [.str x,.tup ys]=>(strsOf ys).map fun ss=>(x,ss)
 |_=>none
noncomputable def uV:U→U→Option Bool
 |x,.lst ys=>inU x ys
 |x,.tup ys=>inU x ys
 |.str x,.dic ks _=>some (decide (x∈ks))
 |x,.rdc ks=>(rowOf x).map fun r=>decide (r∈ks)
 |_,_=>none
noncomputable def kU:List Str→List U→Str→Option U
 |y::ks,u::us,x=>if y=x then some u else kU ks us x
 |_,_,_=>none
noncomputable def dput (ks:List Str) (us:List U) (x:Str) (u:U):List Str×List U :=
 if x∈ks then (ks,(ks.zip us).map fun p=>if p.1=x then u else p.2) else (ks++[x],us++[u])
noncomputable def bz:Cop→U→U→Option Bool
 |.eq,a,b=>if eqD 50 a=true∧eqD 50 b=true then some (a5 a b) else none
 |.ne,a,b=>if eqD 50 a=true∧eqD 50 b=true then some (!a5 a b) else none
 |.lt,.int i,.int j=>some (decide (i<j))
 |.gt,.int i,.int j=>some (decide (j<i))
 |.ge,.int i,.int j=>some (decide (j≤i))
 |.isin,x,y=>uV x y
 |.notin,x,y=>(uV x y).map (!·)
 |_,_,_=>none
noncomputable def iE:List U→Option (List Bool)
 |[]=>some []
 |.bl x::us=>(iE us).map (x::·)
 |_::_=>none
noncomputable def eR:Kd×U→U→Option (Kd×U)
 |(k,.lst xs),.int i=>(atI xs i).map fun u=>(kE k,u)
 |(k,.tup xs),.int i=>(atI xs i).map fun u=>(kE k,u)
 |(_,.str x),.int i=>if x.length≤sizeLine then (atI x.cps.toList i).map fun c=>(.loc,.str ⟨#[c]⟩) else none
 |(k,.dic ks us),.str x=>(kU ks us x).map fun u=>(kE k,u)
 |_,_=>none
noncomputable def jy:Kd×U→Option Int→Option Int→Option (Kd×U)
 |(k,.lst xs),lo,hi=>if fV k xs=true then some (.own,.lst (cut xs lo hi)) else none
 |(k,.tup xs),lo,hi=>some (kE k,.tup (cut xs lo hi))
 |(_,.str x),lo,hi=>if x.length≤sizeLine then some (.loc,.str (PySem.StrLaws.sliceText x lo hi)) else none
 |_,_,_=>none
noncomputable def xh:U→Option Nat
 |.lst xs=>some xs.length
 |.tup xs=>some xs.length
 |.str x=>if x.length≤sizeLine then some x.length else none
 |_=>none
noncomputable def eS {β:Type} (f:Kd×U→Option β):List (Kd×U)→Option β
 |[x]=>f x
 |_=>none
noncomputable def xi:Kd×U→Option (Kd×U)
 |(_,.lst xs)=>(strsOf xs).bind fun ss=>if ss.length<64 then some (.own,.lst ((bo ss).map .str)) else none
 |(_,.tup xs)=>(strsOf xs).bind fun ss=>if ss.length<64 then some (.own,.lst ((bo ss).map .str)) else none
 |_=>none
noncomputable def xj:Kd×U→Option (Kd×U)
 |(k,.lst xs)=>if fV k xs=true then some (.own,.lst xs) else none
 |(k,.tup xs)=>if fV k xs=true then some (.own,.lst xs) else none
 |_=>none
noncomputable def xk:Kd×U→Option (Kd×U)
 |(k,.lst xs)=>some (kE k,.tup xs)
 |(k,.tup xs)=>some (kE k,.tup xs)
 |_=>none
noncomputable def sm:Kd×U→Option (Kd×U)
 |(_,.int i)=>if i.natAbs.log2<1920 then some (.loc,.str (toString i)) else none
 |_=>none
noncomputable def xl:Kd×U→Option (Kd×U)
 |(_,.lst xs)=>(iE xs).map fun bs=>(.loc,.bl (bs.any id))
 |_=>none
noncomputable def iF:List U→Option (List (Str×Str))
 |[]=>some []
 |.tup [.str x,.str y]::us=>(iF us).map ((x,y)::·)
 |_::_=>none
noncomputable def xm:Kd×U→Option (Kd×U)
 |(_,.lst xs)=>(iF xs).bind fun ps=>if (ps.map (·.1)).Nodup then some (.own,.dic (ps.map (·.1)) (ps.map fun p=>.str p.2)) else none
 |_=>none
noncomputable def biU (f:Bf) (rs:List (Kd×U)):Option (Kd×U):=match f with
 |.len=>eS (fun x=>(xh x.2).map fun (n:Nat)=>(Kd.loc,U.int (n:Int))) rs
 |.sorted=>eS xi rs
 |.list=>eS xj rs
 |.tuple=>eS xk rs
 |.str=>eS sm rs
 |.any=>eS xl rs
 |.dict=>eS xm rs
 |_=>none
noncomputable def mG:U→Option (List Str)
 |.lst xs=>(strsOf xs).bind fun ss=>if ss.length+1<scanBound then some (aJ ss) else none
 |.tup xs=>(strsOf xs).bind fun ss=>if ss.length+1<scanBound then some (aJ ss) else none
 |_=>none
noncomputable def xn:Kd×U→Option (Kd×U)
 |(k,.tup xs)=>some (kE k,.tup xs.reverse)
 |_=>none
noncomputable def oh (f:B2) (rs:List (Kd×U)):Option (Kd×U):=match f with
 |.revT=>eS xn rs
 |.sset=>eS (fun x=>(mG x.2).bind fun ss=>if ss.length<64 then some (.own,.lst ((bo ss).map .str)) else none) rs
 |.kz=>eS (fun x=>(mG x.2).map fun ss=>(.loc,.int ss.length)) rs
 |_=>none
noncomputable def fW:Mf→U→List (Kd×U)→Option (Kd×U)
 |.split,.str a,[(_,.str b)]=>if (b.length==0)=false∧a.length+2≤sizeLine then some (.own,.lst ((Txt.split a b).map .str)) else none
 |.join,.str a,[(_,.lst xs)]=>(strsOf xs).bind fun ss=>if JoinOk a ss=true then some (.loc,.str (Txt.join a ss)) else none
 |.endswith,.str a,[(_,.str b)]=>some (.loc,.bl (Txt.endswith a b))
 |.partition,.str a,[(_,.str b)]=>if (b.length==0)=false∧a.length≤sizeLine then some (.loc,.tup [.str (Txt.partition a b).1,.str (Txt.partition a b).2.1,.str (Txt.partition a b).2.2]) else none
 |_,_,_=>none
noncomputable def AB:Kd×U→Option (List (Kd×U))
 |(k,.lst xs)=>some (xs.map fun u=>(kE k,u))
 |(k,.tup xs)=>some (xs.map fun u=>(kE k,u))
 |_=>none
noncomputable def qQ:Kd×U→Option (List (Kd×U))
 |(_,.int n)=>if n<2 ^ 62∧-(2 ^ 62)<n then some ((List.range n.toNat).map fun i:Nat=>(Kd.loc,U.int (0+(i:Int)))) else none
 |_=>none
noncomputable def xo:List (Kd×U)→Option (List (Kd×U))
 |[(_,.int lo),(_,.int hi)]=>if hi<2 ^ 62∧-(2 ^ 62)<lo∧lo<2 ^ 62∧-(2 ^ 62)<hi then some ((List.range (hi - lo).toNat).map fun i:Nat=>(Kd.loc,U.int (lo+(i:Int)))) else none
 |_=>none
noncomputable def itU (ik:Ik) (rs:List (Kd×U)):Option (List (Kd×U)):=match ik with
 |.seq=>eS AB rs
 |.rng1=>eS qQ rs
 |.rng2=>xo rs
 |_=>none
noncomputable def so:U→Option (Kd×U)
 |.dic _ us=>(strsOf us).map fun ss=>(.own,.lst (ss.map .str))
 |_=>none
noncomputable def jz:U→Option Bool
 |.bl b=>some b
 |.lst xs=>some !xs.isEmpty
 |.tup xs=>some !xs.isEmpty
 |.str x=>if x.length≤sizeLine then some ((x.length:Int) != 0) else none
 |_=>none
noncomputable def lift:Kd×U→M U
 |(.own,u)=>pure u
 |(.loc,u)=>pure u
 |(.any,u)=>if imm u=true then pure u else M.fail
 |(.bor j,_)=>fun st=>match st[j]? with
  |some (some (.own,u))=>some (.ok u,st.set j (some (.loc,u)))
  |_=>none
 |(.io,_)=>M.fail
 |(.ownD,_)=>M.fail
noncomputable def cw:List (Kd×U)→M (List U)
 |[]=>pure []
 |r::rs=>do let u ←lift r;let us ←cw rs;pure (u::us)
noncomputable def dP (i:Nat):Kd×U→M Unit
 |(.bor j,_)=>fun st=>match st[j]? with
  |some (some (.own,u))=>some (.ok (),(st.set j (some (.loc,u))).set i (some (.loc,u)))
  |_=>none
 |(.io,_)=>M.fail
 |(.ownD,_)=>M.fail
 |(k,u)=>fun st=>some (.ok (),st.set i (some (k,u)))
noncomputable def ba:List (Kd×U)→ak→Prop
 |[],_=>True
 |(.bor j,u)::rs,st=>(∃ k:Kd,k.root=true∧st[j]?=some (some (k,u)))∧ba rs st
 |_::rs,st=>ba rs st
open Classical in
noncomputable def ar (rs:List (Kd×U)):M Unit:=fun st=>if ba rs st then some (.ok (),st) else none
noncomputable abbrev Tab:=Str→List U→Option (Ex (Kd×U))
noncomputable def iG (Γ:Tab) (f:Str) (us:List U):M (Kd×U):=fun st=>match Γ f us with
 |none=>none
 |some r=>some (r,st)
noncomputable def d6 (i:Nat):M (Kd×U):=fun st=>match st[i]? with
 |some (some (.ownD,_))=>none
 |some (some (k,u))=>some (.ok (if k.root=true then .bor i else k,u),st)
 |_=>none
noncomputable def sets:List Nat→List (Kd×U)→M Unit
 |[],[]=>pure ()
 |i::is,r::rs=>do dP i r;sets is rs
 |_,_=>M.fail
noncomputable def c7 (t:Bool) (is:List Nat) (r:Kd×U):M Unit:=match t,is,r with
 |false,[i],r=>dP i r
 |true,is,(k,.tup xs)=>sets is (xs.map fun u=>(kE k,u))
 |_,_,_=>M.fail
noncomputable def inScope {α:Type} (k:Nat) (m:M α):M α:=fun st=>match m (List.replicate k none++st) with
 |none=>none
 |some (r,st')=>some (r,st'.drop k)
noncomputable def bA (k:Nat) (t:Bool) (cond:M Bool) (elt:M (Kd×U)) (src:List (Kd×U)):List (Kd×U)→List U→M (List U)
 |[],acc=>do ar src;pure acc
 |x::xs,acc=>do
  ar src
  let r ←inScope k (c7 t (List.range k) x >>= fun _=>cond >>= fun b=>if b=true then (elt >>= fun r=>lift r >>= fun u=>pure (some u)) else pure none)
  match r with
  |some u=>if acc.length<sizeLine then bA k t cond elt src xs (acc++[u]) else M.fail
  |none=>bA k t cond elt src xs acc
noncomputable def oi:U→Ty5→Option Bool
 |.str _,T=>some (decide (T=.str))
 |.int _,T=>some (decide (T=.int))
 |.bl _,.bool=>some true
 |.bl _,.int=>some true
 |.lst _,.list=>some true
 |.tup _,.tuple=>some true
 |_,_=>none
noncomputable def jA:U→Str→Option Str
 |.str y,out=>if y.length≤sizeLine∧(out++y).length≤sizeLine then some (out++y) else none
 |.int i,out=>if i.natAbs.log2<1920∧(out++(toString i:Str)).length≤sizeLine then some (out++(toString i:Str)) else none
 |_,_=>none
noncomputable def AD:Kd×U→Option (Kd×U)
 |(_,.int i)=>some (.loc,.int (-i))
 |_=>none
noncomputable def xp (x:Kd×U):M (Option Int):=match x.2 with
 |.int i=>pure (some i)
 |_=>M.fail
section
variable (Γ : Tab)
mutual
noncomputable def ev:E→M (Kd×U)
 |.var i=>d6 i
 |.cst u=>pure (.loc,u)
 |.glb _ u=>pure (.loc,u)
 |.bin op a b=>do
  let x ←ev a
  let y ←ev b
  ar [x,y]
  M.ofO (opU op x y)
 |.cmp op a b=>do
  let x ←ev a
  let y ←ev b
  ar [x,y]
  let c ←M.ofO (bz op x.2 y.2)
  pure (.loc,.bl c)
 |.cmp2 o1 o2 a b c=>do
  let x ←ev a
  let y ←ev b
  ar [x,y]
  let p ←M.ofO (bz o1 x.2 y.2)
  if p=true then do
   let z ←ev c
   ar [y,z]
   let q ←M.ofO (bz o2 y.2 z.2)
   pure (.loc,.bl q)
  else pure (.loc,.bl false)
 |.and es=>sr es
 |.or es=>xq es
 |.not a=>do
  let x ←ev a
  match x.2 with
  |.bl c=>pure (.loc,.bl !c)
  |_=>M.fail
 |.ite c a b=>do
  let p ←tst c
  if p=true then ev a else ev b
 |.tup es=>do
  let rs ←bB es
  ar rs
  let us ←cw rs
  if us.length≤sizeLine then pure (.loc,.tup us) else M.fail
 |.lst es=>do
  let rs ←bB es
  ar rs
  let us ←cw rs
  if us.length≤sizeLine then pure (.own,.lst us) else M.fail
 |.dnew r=>pure (.own,if r=true then .rdc [] else .dic [] [])
 |.idx a b=>do
  let x ←ev a
  let y ←ev b
  ar [x,y]
  M.ofO (eR x y.2)
 |.slc a lo hi=>do
  let x ←ev a
  let l ←evO lo
  let h ←evO hi
  ar [x]
  M.ofO (jy x l h)
 |.bi f es=>do
  let rs ←bB es
  ar rs
  M.ofO (biU f rs)
 |.bi2 f es=>do
  let rs ←bB es
  ar rs
  M.ofO (oh f rs)
 |.mth m a es=>do
  let x ←ev a
  let rs ←bB es
  ar (x::rs)
  M.ofO (fW m x.2 rs)
 |.call f es=>do
  let rs ←bB es
  ar rs
  iG Γ f (rs.map (·.2))
 |.comp k t ik src cond e=>do
  let rs ←bB src
  ar rs
  let xs ←M.ofO (itU ik rs)
  let us ←bA k t (aU cond) (ev e) rs xs []
  pure (.own,.lst us)
 |.neg a=>do
  let x ←ev a
  M.ofO (AD x)
 |.bad=>M.fail
 |.sit _=>M.fail
 |.inD _ _ _=>M.fail
 |.pub _=>M.fail
 |.get2 _ _ _=>M.fail
 |.vls i=>do
  let x ←d6 i
  M.ofO (so x.2)
 |.sdf _ _ _=>M.fail
 |.fst es=>do
  let s ←evF es Str.empty
  pure (.loc,.str s)
 |.isi a T=>do
  let x ←ev a
  let b ←M.ofO (oi x.2 T)
  pure (.loc,.bl b)
noncomputable def evF:List E→Str→M Str
 |[],out=>pure out
 |e::es,out=>do
  let x ←ev e
  let y ←M.ofO (jA x.2 out)
  evF es y
noncomputable def bB:List E→M (List (Kd×U))
 |[]=>pure []
 |e::es=>do let r ←ev e;let rs ←bB es;pure (r::rs)
noncomputable def evO:List E→M (Option Int)
 |[]=>pure none
 |[e]=>do let x ←ev e;xp x
 |_=>M.fail
noncomputable def sr:List E→M (Kd×U)
 |[]=>M.fail
 |[e]=>ev e
 |e::es=>do
  let x ←ev e
  match x.2 with
  |.bl true=>sr es
  |.bl false=>pure (.loc,.bl false)
  |_=>M.fail
noncomputable def xq:List E→M (Kd×U)
 |[]=>M.fail
 |[e]=>ev e
 |e::es=>do
  let x ←ev e
  match x.2 with
  |.bl true=>pure (.loc,.bl true)
  |.bl false=>xq es
  |_=>M.fail
noncomputable def tst:E→M Bool
 |.and es=>aU es
 |.or es=>d7 es
 |.not a=>do let b ←tst a;pure !b
 |.cmp op a b=>do
  let x ←ev a
  let y ←ev b
  ar [x,y]
  M.ofO (bz op x.2 y.2)
 |.var i=>do let x ←d6 i;M.ofO (jz x.2)
 |.cst u=>M.ofO (jz u)
 |.idx a b=>do
  let x ←ev a
  let y ←ev b
  ar [x,y]
  let r ←M.ofO (eR x y.2)
  M.ofO (jz r.2)
 |.bi2 f es=>do
  let rs ←bB es
  ar rs
  let r ←M.ofO (oh f rs)
  M.ofO (jz r.2)
 |.bi f es=>do
  let rs ←bB es
  ar rs
  let r ←M.ofO (biU f rs)
  M.ofO (jz r.2)
 |.mth m a es=>do
  let x ←ev a
  let rs ←bB es
  ar (x::rs)
  let r ←M.ofO (fW m x.2 rs)
  M.ofO (jz r.2)
 |.call f es=>do
  let rs ←bB es
  ar rs
  let r ←iG Γ f (rs.map (·.2))
  M.ofO (jz r.2)
 |.cmp2 o1 o2 a b c=>do
  let x ←ev a
  let y ←ev b
  ar [x,y]
  let p ←M.ofO (bz o1 x.2 y.2)
  if p=true then do
   let z ←ev c
   ar [y,z]
   M.ofO (bz o2 y.2 z.2)
  else pure false
 |.isi a T=>do
  let x ←ev a
  M.ofO (oi x.2 T)
 |_=>M.fail
noncomputable def aU:List E→M Bool
 |[]=>pure true
 |[e]=>tst e
 |e::es=>do let b ←tst e;if b=true then aU es else pure false
noncomputable def d7:List E→M Bool
 |[]=>pure false
 |[e]=>tst e
 |e::es=>do let b ←tst e;if b=true then pure true else d7 es
end
inductive Fl where|nx|rt (k:Kd) (u:U)|bk|ct
noncomputable def retS:Kd×U→M Fl
 |(.own,u)=>pure (.rt .own u)
 |(.loc,u)=>pure (.rt .loc u)
 |(.any,u)=>if imm u=true then pure (.rt .loc u) else M.fail
 |(.bor j,_)=>fun st=>match st[j]? with
  |some (some (.own,u))=>some (.ok (.rt .own u),st.set j none)
  |_=>none
 |(.io,_)=>M.fail
 |(.ownD,_)=>M.fail
noncomputable def forM (t:Bool) (is:List Nat) (body:M Fl) (src:List (Kd×U)):List (Kd×U)→M Fl
 |[]=>do ar src;pure .nx
 |x::xs=>do
  ar src
  c7 t is x
  let f ←body
  match f with
  |.nx=>forM t is body src xs
  |.ct=>forM t is body src xs
  |.bk=>pure .nx
  |.rt k u=>pure (.rt k u)
noncomputable def kW (c:M Bool) (body:M Fl):Nat→M Fl
 |0=>M.fail
 |n+1=>do
  let b ←c
  if b=true then do
   let f ←body
   match f with
   |.nx=>kW c body n
   |.ct=>kW c body n
   |.bk=>pure .nx
   |.rt k u=>pure (.rt k u)
  else pure .nx
noncomputable def modS (i:Nat) (f:U→Option U):M Unit:=fun st=>match st[i]? with
 |some (some (k,u))=>if k.root=true then match f u with
   |some u'=>some (.ok (),st.set i (some (k,u')))
   |none=>none
  else none
 |_=>none
noncomputable def su (u:U):U→Option U
 |.lst xs=>if xs.length<sizeLine then some (.lst (xs++[u])) else none
 |_=>none
noncomputable def jB:Kd×U→U→Option U
 |(k,.lst ys),.lst xs=>if xs.length+ys.length≤sizeLine∧fV k ys=true then some (.lst (xs++ys)) else none
 |(k,.tup ys),.lst xs=>if xs.length+ys.length≤sizeLine∧fV k ys=true then some (.lst (xs++ys)) else none
 |_,_=>none
noncomputable def fX (x u:U):U→Option U
 |.dic ks vs=>match x with
  |.str y=>if ks.length<sizeLine then some (.dic (dput ks vs y u).1 (dput ks vs y u).2) else none
  |_=>none
 |.rdc ks=>match rowOf x,u with
  |some r,.bl true=>if r∉ks∧ks.length≤1000 then some (.rdc (ks++[r])) else none
  |_,_=>none
 |.lst xs=>match x with
  |.int i=>(ixN xs.length i).map fun j=>.lst (xs.set j u)
  |_=>none
 |_=>none
noncomputable def pH:List U→U→Option U
 |[u,x]=>fX x u
 |_=>fun _=>none
noncomputable def isL:U→M Unit
 |.lst _=>pure ()
 |_=>M.fail
noncomputable def fuel:Nat:=100000
mutual
noncomputable def nsS:S→Nat→Bool
 |.set i _,j=>decide (j≠i)
 |.setT is _,j=>decide (j∉is)
 |.ite _ a b,j=>nsL a j&&nsL b j
 |.for_ _ is _ _ body,j=>decide (j∉is)&&nsL body j
 |.whl _ body,j=>nsL body j
 |.put _ _ _,_=>true
 |.app _ _,_=>true
 |.ext _ _,_=>true
 |.bad,_=>true
 |.newD i,j=>decide (j≠i)
 |.putD _ _ _,_=>true
 |.appD _ _ _,_=>true
 |.aug _ _ _ _,_=>true
 |.rvs _,_=>true
 |.exp _,_=>true
 |.ret _,_=>true
 |.retN,_=>true
 |.brk,_=>true
 |.cnt,_=>true
 |.pas,_=>true
noncomputable def nsL:List S→Nat→Bool
 |[],_=>true
 |s::ss,j=>nsS s j&&nsL ss j
end
noncomputable def pI (rs:List (Kd×U)) (is:List Nat) (body:List S):Bool:=rs.all fun r=>match r.1 with
 |.bor j=>decide (j∉is)&&nsL body j
 |_=>true
mutual
noncomputable def exec:S→M Fl
 |.set i e=>do let r ←ev Γ e;dP i r;pure .nx
 |.setT is e=>do let r ←ev Γ e;c7 true is r;pure .nx
 |.put i k v=>do
  let r ←ev Γ v
  let _ ←d6 i
  let x ←ev Γ k
  let us ←cw [r,x]
  modS i (pH us)
  pure .nx
 |.app i e=>do
  let x ←d6 i
  isL x.2
  let r ←ev Γ e
  let u ←lift r
  modS i (su u)
  pure .nx
 |.ext i e=>do
  let x ←d6 i
  isL x.2
  let r ←ev Γ e
  modS i (jB r)
  pure .nx
 |.bad=>M.fail
 |.newD _=>M.fail
 |.putD _ _ _=>M.fail
 |.appD _ _ _=>M.fail
 |.aug _ _ _ _=>M.fail
 |.rvs _=>M.fail
 |.exp e=>do let _ ←ev Γ e;pure .nx
 |.ret e=>do let r ←ev Γ e;retS r
 |.retN=>pure (.rt .loc .non)
 |.ite c a b=>do let p ←tst Γ c;if p=true then execs a else execs b
 |.for_ t is ik src body=>do
  let rs ←bB Γ src
  ar rs
  let xs ←M.ofO (itU ik rs)
  if pI rs is body=true then forM t is (execs body) rs xs else M.fail
 |.whl c body=>kW (tst Γ c) (execs body) fuel
 |.brk=>pure .bk
 |.cnt=>pure .ct
 |.pas=>pure .nx
noncomputable def execs:List S→M Fl
 |[]=>pure .nx
 |s::ss=>do
  let f ←exec s
  match f with
  |.nx=>execs ss
  |f=>pure f
end
end
structure Fn where
 name:Str
 np:Nat
 ns:Nat
 body:List S
noncomputable def start (us:List U) (n:Nat):ak:=us.map (fun u=>some (if imm u=true then Kd.loc else Kd.any,u))++List.replicate (n - us.length) none
noncomputable def bN (Γ:Tab) (fn:Fn) (us:List U):Option (Ex (Kd×U)):=if us.length=fn.np then match execs Γ fn.body (start us fn.ns) with
  |some (.ok (.rt .own u),_)=>some (.ok (.own,u))
  |some (.ok (.rt .loc u),_)=>some (.ok (.loc,u))
  |some (.ok .nx,_)=>some (.ok (.loc,.non))
  |some (.exc c,_)=>some (.exc c)
  |_=>none
 else none
noncomputable def sem (P:List Fn):Nat→Tab
 |0=>fun _ _=>none
 |d+1=>fun f us=>match P.find? fun fn=>decide (fn.name=f) with
  |some fn=>bN (sem P d) fn us
  |none=>none
end TM
namespace TM
open PySem L2
section
variable {X : Cx} {pins : List (Addr × Obj)} {σ : St} {H : Hp} {s : Shared} {C : Ct} {S : Addr → Prop}
theorem pJ (I:Inv X pins σ H s) {a:Addr}{vs:List V} (h:SqL X.K H a vs):∃ its:List Value,Vals vs its∧s.heap.IsList a its.toArray∧vs.length≤sizeLine:=by
 obtain ⟨its,r,p,z⟩:=I.list h
 exact ⟨its,r,p.isList,z⟩
theorem aF (I:Inv X pins σ H s) (hK:C.K=X.K) {a:Addr}{vs:List V} (h:LAt C.K S H a vs):∃ its:List Value,Vals vs its∧s.heap.IsList a its.toArray∧vs.length≤sizeLine:=pJ I (hK ▸ h.sq)
theorem pK (I:Inv X pins σ H s) (hK:C.K=X.K) {a:Addr}{vs ws:List V} (h:LAt C.K S H a vs) (h':LAt C.K S H a ws):vs=ws:=I.lR (hK ▸ h.sq) (hK ▸ h'.sq)
theorem fY (I:Inv X pins σ H s) (hK:C.K=X.K) {a:Addr}{vs ws:List V} (h:LAt C.K S H a vs) (h':SqT C.K H a ws):False:=by
 obtain ⟨its,_,p,_⟩:=aF I hK h
 rw [hK] at h'
 obtain ⟨its',_,p',_⟩:=I.tuple h'
 exact SeqAt.ne_of_list_tuple p p' rfl
mutual
theorem oj (I:Inv X pins σ H s) (hK:C.K=X.K):∀ (u w:U) (v:V) (n:Nat),eqD n u=true→eqD n w=true→Rep C S H u v→Rep C S H w v→a5 u w=true
 |.non,w,v,n,_,h2,h3,h4=>by
  cases w <;> first|rfl|(simp only [Rep] at h3 h4;subst h3;first|(cases h4;done)|(obtain ⟨a,vs,e,_⟩:=h4;cases e;done))|(cases n <;> simp [eqD] at h2)
 |.bl b,w,v,n,_,h2,h3,h4=>by
  cases w <;> first|(simp only [Rep] at h3 h4;subst h3;first|(cases h4;done)|(cases h4;simp [a5];done)|(obtain ⟨a,vs,e,_⟩:=h4;cases e;done))|(cases n <;> simp [eqD] at h2)
 |.int b,w,v,n,_,h2,h3,h4=>by
  cases w <;> first|(simp only [Rep] at h3 h4;subst h3;first|(cases h4;done)|(cases h4;simp [a5];done)|(obtain ⟨a,vs,e,_⟩:=h4;cases e;done))|(cases n <;> simp [eqD] at h2)
 |.str b,w,v,n,_,h2,h3,h4=>by
  cases w <;> first|(simp only [Rep] at h3 h4;subst h3;first|(cases h4;done)|(cases h4;simp [a5];done)|(obtain ⟨a,vs,e,_⟩:=h4;cases e;done))|(cases n <;> simp [eqD] at h2)
 |.tup us,w,v,n,h1,h2,h3,h4=>by
  obtain ⟨a,vs,rfl,q1,q2⟩:=h3
  cases n with
  |zero=>simp [eqD] at h1
  |succ n =>
   cases w with
   |tup ws =>
    obtain ⟨a',vs',e,q3,q4⟩:=h4
    cases e
    rw [hK] at q1 q3
    have:=I.gh q1 q3
    subst this
    simp only [eqD] at h1 h2
    exact kX I hK us ws vs n h1 h2 q2 q4
   |lst ws =>
    obtain ⟨a',vs',e,q3,q4⟩:=h4
    cases e
    exact (fY I hK q3 q1).elim
   |dic=>simp [eqD] at h2
   |rdc=>simp [eqD] at h2
   |_=>simp only [Rep] at h4;cases h4
 |.lst us,w,v,n,h1,h2,h3,h4=>by
  obtain ⟨a,vs,rfl,q1,q2⟩:=h3
  cases n with
  |zero=>simp [eqD] at h1
  |succ n =>
   cases w with
   |lst ws =>
    obtain ⟨a',vs',e,q3,q4⟩:=h4
    cases e
    have:=pK I hK q1 q3
    subst this
    simp only [eqD] at h1 h2
    exact kX I hK us ws vs n h1 h2 q2 q4
   |tup ws =>
    obtain ⟨a',vs',e,q3,q4⟩:=h4
    cases e
    exact (fY I hK q1 q3).elim
   |dic=>simp [eqD] at h2
   |rdc=>simp [eqD] at h2
   |_=>simp only [Rep] at h4;cases h4
 |.dic _ _,_,_,n,h,_,_,_=>by cases n <;> simp [eqD] at h
 |.rdc _,_,_,n,h,_,_,_=>by cases n <;> simp [eqD] at h
theorem kX (I:Inv X pins σ H s) (hK:C.K=X.K):∀ (us ws:List U) (vs:List V) (n:Nat),b8 n us=true→b8 n ws=true→ah C S H us vs→ah C S H ws vs→bH us ws=true
 |[],[],_,_,_,_,_,_=>rfl
 |[],w::ws,vs,n,_,_,h3,h4=>by
  obtain ⟨v,r,e,_⟩:=h4
  simp only [ah] at h3
  rw [h3] at e;cases e
 |u::us,[],vs,n,_,_,h3,h4=>by
  obtain ⟨v,r,e,_⟩:=h3
  simp only [ah] at h4
  rw [h4] at e;cases e
 |u::us,w::ws,vs,n,h1,h2,h3,h4=>by
  obtain ⟨v,r,rfl,q1,q2⟩:=h3
  obtain ⟨v',r',e,q3,q4⟩:=h4
  cases e
  simp only [b8,Bool.and_eq_true] at h1 h2
  simp only [bH,Bool.and_eq_true]
  exact ⟨oj I hK u w v n h1.1 h2.1 q1 q3,kX I hK us ws r n h1.2 h2.2 q2 q4⟩
end
mutual
theorem pL (I:Inv X pins σ H s) (hK:C.K=X.K):∀ (u w:U) (v:V) (n:Nat),eqD n u=true→eqD n w=true→Rep C S H u v→Rep C S H w v→u=w
 |.non,w,v,n,_,h2,h3,h4=>by
  cases w <;> first|rfl|(simp only [Rep] at h3 h4;subst h3;first|(cases h4;done)|(obtain ⟨a,vs,e,_⟩:=h4;cases e;done))|(cases n <;> simp [eqD] at h2)
 |.bl b,w,v,n,_,h2,h3,h4=>by
  cases w <;> first|(simp only [Rep] at h3 h4;subst h3;first|(cases h4;done)|(cases h4;rfl;done)|(obtain ⟨a,vs,e,_⟩:=h4;cases e;done))|(cases n <;> simp [eqD] at h2)
 |.int b,w,v,n,_,h2,h3,h4=>by
  cases w <;> first|(simp only [Rep] at h3 h4;subst h3;first|(cases h4;done)|(cases h4;rfl;done)|(obtain ⟨a,vs,e,_⟩:=h4;cases e;done))|(cases n <;> simp [eqD] at h2)
 |.str b,w,v,n,_,h2,h3,h4=>by
  cases w <;> first|(simp only [Rep] at h3 h4;subst h3;first|(cases h4;done)|(cases h4;rfl;done)|(obtain ⟨a,vs,e,_⟩:=h4;cases e;done))|(cases n <;> simp [eqD] at h2)
 |.tup us,w,v,n,h1,h2,h3,h4=>by
  obtain ⟨a,vs,rfl,q1,q2⟩:=h3
  cases n with
  |zero=>simp [eqD] at h1
  |succ n =>
   cases w with
   |tup ws =>
    obtain ⟨a',vs',e,q3,q4⟩:=h4
    cases e
    rw [hK] at q1 q3
    have:=I.gh q1 q3
    subst this
    simp only [eqD] at h1 h2
    rw [iH I hK us ws vs n h1 h2 q2 q4]
   |lst ws =>
    obtain ⟨a',vs',e,q3,q4⟩:=h4
    cases e
    exact (fY I hK q3 q1).elim
   |dic=>simp [eqD] at h2
   |rdc=>simp [eqD] at h2
   |_=>simp only [Rep] at h4;cases h4
 |.lst us,w,v,n,h1,h2,h3,h4=>by
  obtain ⟨a,vs,rfl,q1,q2⟩:=h3
  cases n with
  |zero=>simp [eqD] at h1
  |succ n =>
   cases w with
   |lst ws =>
    obtain ⟨a',vs',e,q3,q4⟩:=h4
    cases e
    have:=pK I hK q1 q3
    subst this
    simp only [eqD] at h1 h2
    rw [iH I hK us ws vs n h1 h2 q2 q4]
   |tup ws =>
    obtain ⟨a',vs',e,q3,q4⟩:=h4
    cases e
    exact (fY I hK q1 q3).elim
   |dic=>simp [eqD] at h2
   |rdc=>simp [eqD] at h2
   |_=>simp only [Rep] at h4;cases h4
 |.dic _ _,_,_,n,h,_,_,_=>by cases n <;> simp [eqD] at h
 |.rdc _,_,_,n,h,_,_,_=>by cases n <;> simp [eqD] at h
theorem iH (I:Inv X pins σ H s) (hK:C.K=X.K):∀ (us ws:List U) (vs:List V) (n:Nat),b8 n us=true→b8 n ws=true→ah C S H us vs→ah C S H ws vs→us=ws
 |[],[],_,_,_,_,_,_=>rfl
 |[],w::ws,vs,n,_,_,h3,h4=>by
  obtain ⟨v,r,e,_⟩:=h4
  simp only [ah] at h3
  rw [h3] at e;cases e
 |u::us,[],vs,n,_,_,h3,h4=>by
  obtain ⟨v,r,e,_⟩:=h3
  simp only [ah] at h4
  rw [h4] at e;cases e
 |u::us,w::ws,vs,n,h1,h2,h3,h4=>by
  obtain ⟨v,r,rfl,q1,q2⟩:=h3
  obtain ⟨v',r',e,q3,q4⟩:=h4
  cases e
  simp only [b8,Bool.and_eq_true] at h1 h2
  rw [pL I hK u w v n h1.1 h2.1 q1 q3,iH I hK us ws r n h1.2 h2.2 q2 q4]
end
theorem cc:∀ {us ws:List U},us.length≠ws.length→bH us ws=false
 |[],[],h=>absurd rfl h
 |[],_::_,_=>rfl
 |_::_,[],_=>rfl
 |u::us,w::ws,h=>by
  rw [bH,cc (us:=us) (ws:=ws) (fun e=>h (by simp [e])),Bool.and_false]
theorem bK:∀ {us ws:List U},us.length=ws.length→bH us ws=(List.range us.length).all fun j=>a5 (us.getD j .non) (ws.getD j .non)
 |[],[],_=>rfl
 |[],_::_,h=>by simp at h
 |_::_,[],h=>by simp at h
 |u::us,w::ws,h=>by
  have h':us.length=ws.length:=by simpa using h
  rw [bH,bK h',List.length_cons,List.range_succ_eq_map,List.all_cons,List.all_map]
  rfl
mutual
theorem sv (I:Inv X pins σ H s) (hK:C.K=X.K):∀ (u w:U) (v v':V) (x x':Value) (n:Nat) (A:Around),eqD n u=true→eqD n w=true→Rep C S H u v→Rep C S H w v'→RelV v x→RelV v' x'→A.units+n<cLine→SeqAt.EqAt A s x x' (a5 u w)
 |.non,w,v,v',x,x',n,A,_,h2,h3,h4,r1,r2,hu=>by
  simp only [Rep] at h3
  subst h3
  cases r1
  cases w with
  |non=>simp only [Rep] at h4;subst h4;cases r2;exact SeqAt.EqAt.same _
  |bl b=>simp only [Rep] at h4;subst h4;cases r2;exact SeqAt.EqAt.none_bool b
  |int b=>simp only [Rep] at h4;subst h4;obtain ⟨t,rfl⟩:=r2;exact SeqAt.EqAt.none_int b t
  |str b=>simp only [Rep] at h4;subst h4;obtain ⟨t,rfl⟩:=r2;exact SeqAt.EqAt.none_str b t
  |tup ws=>obtain ⟨a,vs,rfl,q1,q2⟩:=h4;cases r2;rw [hK] at q1;obtain ⟨its,_,p,_⟩:=I.tuple q1;exact SeqAt.EqAt.none_tuple p (by omega)
  |lst ws=>obtain ⟨a,vs,rfl,q1,q2⟩:=h4;cases r2;obtain ⟨its,_,p,_⟩:=aF I hK q1;exact SeqAt.EqAt.none_list p (by omega)
  |dic=>cases n <;> simp [eqD] at h2
  |rdc=>cases n <;> simp [eqD] at h2
 |.bl a,w,v,v',x,x',n,A,_,h2,h3,h4,r1,r2,hu=>by
  simp only [Rep] at h3
  subst h3
  cases r1
  cases w with
  |non=>simp only [Rep] at h4;subst h4;cases r2;exact SeqAt.EqAt.bool_none a
  |bl b=>simp only [Rep] at h4;subst h4;cases r2;exact SeqAt.EqAt.bool_bool a b
  |int b=>simp only [Rep] at h4;subst h4;obtain ⟨t,rfl⟩:=r2;exact SeqAt.EqAt.bool_int a b t
  |str b=>simp only [Rep] at h4;subst h4;obtain ⟨t,rfl⟩:=r2;exact SeqAt.EqAt.bool_str a b t
  |tup ws=>obtain ⟨a,vs,rfl,q1,q2⟩:=h4;cases r2;rw [hK] at q1;obtain ⟨its,_,p,_⟩:=I.tuple q1;exact SeqAt.EqAt.bool_tuple _ p (by omega)
  |lst ws=>obtain ⟨a,vs,rfl,q1,q2⟩:=h4;cases r2;obtain ⟨its,_,p,_⟩:=aF I hK q1;exact SeqAt.EqAt.bool_list _ p (by omega)
  |dic=>cases n <;> simp [eqD] at h2
  |rdc=>cases n <;> simp [eqD] at h2
 |.int a,w,v,v',x,x',n,A,_,h2,h3,h4,r1,r2,hu=>by
  simp only [Rep] at h3
  subst h3
  obtain ⟨t',rfl⟩:=r1
  cases w with
  |non=>simp only [Rep] at h4;subst h4;cases r2;exact SeqAt.EqAt.int_none a t'
  |bl b=>simp only [Rep] at h4;subst h4;cases r2;exact SeqAt.EqAt.int_bool a t' b
  |int b=>simp only [Rep] at h4;subst h4;obtain ⟨t,rfl⟩:=r2;exact SeqAt.EqAt.int_int a t' b t
  |str b=>simp only [Rep] at h4;subst h4;obtain ⟨t,rfl⟩:=r2;exact SeqAt.EqAt.int_str a t' b t
  |tup ws=>obtain ⟨a,vs,rfl,q1,q2⟩:=h4;cases r2;rw [hK] at q1;obtain ⟨its,_,p,_⟩:=I.tuple q1;exact SeqAt.EqAt.int_tuple _ _ p (by omega)
  |lst ws=>obtain ⟨a,vs,rfl,q1,q2⟩:=h4;cases r2;obtain ⟨its,_,p,_⟩:=aF I hK q1;exact SeqAt.EqAt.int_list _ _ p (by omega)
  |dic=>cases n <;> simp [eqD] at h2
  |rdc=>cases n <;> simp [eqD] at h2
 |.str a,w,v,v',x,x',n,A,_,h2,h3,h4,r1,r2,hu=>by
  simp only [Rep] at h3
  subst h3
  obtain ⟨t',rfl⟩:=r1
  cases w with
  |non=>simp only [Rep] at h4;subst h4;cases r2;exact SeqAt.EqAt.str_none a t'
  |bl b=>simp only [Rep] at h4;subst h4;cases r2;exact SeqAt.EqAt.str_bool a t' b
  |int b=>simp only [Rep] at h4;subst h4;obtain ⟨t,rfl⟩:=r2;exact SeqAt.EqAt.str_int a t' b t
  |str b=>simp only [Rep] at h4;subst h4;obtain ⟨t,rfl⟩:=r2;exact SeqAt.EqAt.str_str a t' b t
  |tup ws=>obtain ⟨a,vs,rfl,q1,q2⟩:=h4;cases r2;rw [hK] at q1;obtain ⟨its,_,p,_⟩:=I.tuple q1;exact SeqAt.EqAt.str_tuple _ _ p (by omega)
  |lst ws=>obtain ⟨a,vs,rfl,q1,q2⟩:=h4;cases r2;obtain ⟨its,_,p,_⟩:=aF I hK q1;exact SeqAt.EqAt.str_list _ _ p (by omega)
  |dic=>cases n <;> simp [eqD] at h2
  |rdc=>cases n <;> simp [eqD] at h2
 |.tup us,w,v,v',x,x',n,A,h1,h2,h3,h4,r1,r2,hu=>by
  obtain ⟨a,vs,rfl,q1,q2⟩:=id h3
  cases r1
  have q1':=q1
  rw [hK] at q1'
  obtain ⟨its,rv,p,_⟩:=I.tuple q1'
  cases n with
  |zero=>simp [eqD] at h1
  |succ n =>
   cases w with
   |tup ws =>
    obtain ⟨a',vs',rfl,q3,q4⟩:=id h4
    cases r2
    by_cases e:a=a'
    ·subst e
     rw [oj I hK (.tup us) (.tup ws) (.ref a) (n+1) h1 h2 h3 h4]
     exact SeqAt.EqAt.same _
    ·rw [hK] at q3
     obtain ⟨its',rv',p',_⟩:=I.tuple q3
     simp only [eqD] at h1 h2
     have l1:=q2.len
     have l2:=q4.len
     have l3:=rv.length
     have l4:=rv'.length
     have ee:a5 (.tup us) (.tup ws)=((List.range (min its.toArray.size its'.toArray.size)).all (fun j=>a5 (us.getD j .non) (ws.getD j .non))&&its.toArray.size==its'.toArray.size):=by
      show bH us ws=_
      simp only [List.size_toArray]
      by_cases el:us.length=ws.length
      ·rw [bK el,show min its.length its'.length=us.length by omega,show (its.length==its'.length)=true by simp;omega,Bool.and_true]
      ·rw [cc el,show (its.length==its'.length)=false by simp;omega,Bool.and_false]
     rw [ee]
     refine .of_refs e (.tuples p p' (by omega) fun j h1' h2'=>?_)
     simp only [List.size_toArray] at h1' h2'
     exact iI I hK us ws vs vs' its its' n A.in1 h1 h2 q2 q4 rv rv' (by show A.units+1+n < _;omega) j (us.getD j .non) (ws.getD j .non) _ _ (by rw [List.getD_eq_getElem?_getD,List.getElem?_eq_getElem (by omega)];simp) (by rw [List.getD_eq_getElem?_getD,List.getElem?_eq_getElem (by omega)];simp) (by simp) (by simp)
   |lst ws=>obtain ⟨a',vs',rfl,q3,q4⟩:=h4;cases r2;obtain ⟨its',_,p',_⟩:=aF I hK q3;exact SeqAt.EqAt.tuple_list p p' (by omega)
   |non=>simp only [Rep] at h4;subst h4;cases r2;exact SeqAt.EqAt.tuple_none p (by omega)
   |bl b=>simp only [Rep] at h4;subst h4;cases r2;exact SeqAt.EqAt.tuple_bool b p (by omega)
   |int b=>simp only [Rep] at h4;subst h4;obtain ⟨t,rfl⟩:=r2;exact SeqAt.EqAt.tuple_int b t p (by omega)
   |str b=>simp only [Rep] at h4;subst h4;obtain ⟨t,rfl⟩:=r2;exact SeqAt.EqAt.tuple_str b t p (by omega)
   |dic=>simp [eqD] at h2
   |rdc=>simp [eqD] at h2
 |.lst us,w,v,v',x,x',n,A,h1,h2,h3,h4,r1,r2,hu=>by
  obtain ⟨a,vs,rfl,q1,q2⟩:=id h3
  cases r1
  obtain ⟨its,rv,p,_⟩:=aF I hK q1
  cases n with
  |zero=>simp [eqD] at h1
  |succ n =>
   cases w with
   |lst ws =>
    obtain ⟨a',vs',rfl,q3,q4⟩:=id h4
    cases r2
    by_cases e:a=a'
    ·subst e
     rw [oj I hK (.lst us) (.lst ws) (.ref a) (n+1) h1 h2 h3 h4]
     exact SeqAt.EqAt.same _
    ·obtain ⟨its',rv',p',_⟩:=aF I hK q3
     simp only [eqD] at h1 h2
     have l1:=q2.len
     have l2:=q4.len
     have l3:=rv.length
     have l4:=rv'.length
     by_cases el:us.length=ws.length
     ·have ee:a5 (.lst us) (.lst ws)=(List.range its.toArray.size).all (fun j=>a5 (us.getD j .non) (ws.getD j .non)):=by
       show bH us ws=_
       rw [bK el,List.size_toArray,show its.length=us.length by omega]
      rw [ee]
      refine .of_refs e (.lists p p' (by simp;omega) (by omega) fun j h1' h2'=>?_)
      simp only [List.size_toArray] at h1' h2'
      exact iI I hK us ws vs vs' its its' n A.in1 h1 h2 q2 q4 rv rv' (by show A.units+1+n < _;omega) j (us.getD j .non) (ws.getD j .non) _ _ (by rw [List.getD_eq_getElem?_getD,List.getElem?_eq_getElem (by omega)];simp) (by rw [List.getD_eq_getElem?_getD,List.getElem?_eq_getElem (by omega)];simp) (by simp) (by simp)
     ·have ee:a5 (.lst us) (.lst ws)=false:=cc el
      rw [ee]
      exact .of_refs e (.lists_lengths p p' (by simp;omega) (by omega))
   |tup ws=>obtain ⟨a',vs',rfl,q3,q4⟩:=h4;cases r2;rw [hK] at q3;obtain ⟨its',_,p',_⟩:=I.tuple q3;exact SeqAt.EqAt.list_tuple p p' (by omega)
   |non=>simp only [Rep] at h4;subst h4;cases r2;exact SeqAt.EqAt.list_none p (by omega)
   |bl b=>simp only [Rep] at h4;subst h4;cases r2;exact SeqAt.EqAt.list_bool b p (by omega)
   |int b=>simp only [Rep] at h4;subst h4;obtain ⟨t,rfl⟩:=r2;exact SeqAt.EqAt.list_int b t p (by omega)
   |str b=>simp only [Rep] at h4;subst h4;obtain ⟨t,rfl⟩:=r2;exact SeqAt.EqAt.list_str b t p (by omega)
   |dic=>simp [eqD] at h2
   |rdc=>simp [eqD] at h2
 |.dic _ _,_,_,_,_,_,n,_,h,_,_,_,_,_,_=>by cases n <;> simp [eqD] at h
 |.rdc _,_,_,_,_,_,n,_,h,_,_,_,_,_,_=>by cases n <;> simp [eqD] at h
theorem iI (I:Inv X pins σ H s) (hK:C.K=X.K):∀ (us ws:List U) (vs vs':List V) (its its':List Value) (n:Nat) (A:Around),b8 n us=true→b8 n ws=true→ah C S H us vs→ah C S H ws vs'→Vals vs its→Vals vs' its'→A.units+n<cLine →
  ∀ (j:Nat) (u w:U) (x x':Value),us[j]?=some u→ws[j]?=some w→its[j]?=some x→its'[j]?=some x'→SeqAt.EqAt A s x x' (a5 u w)
 |[],_,_,_,_,_,_,_,_,_,_,_,_,_,_,j,_,_,_,_,e,_,_,_=>by simp at e
 |u::us,[],_,_,_,_,_,_,_,_,_,_,_,_,_,j,_,_,_,_,_,e,_,_=>by simp at e
 |u::us,w::ws,vs,vs',its,its',n,A,h1,h2,h3,h4,r1,r2,hu,j,u',w',x,x',e1,e2,e3,e4=>by
  obtain ⟨v,r,rfl,q1,q2⟩:=h3
  obtain ⟨v',r',rfl,q3,q4⟩:=h4
  simp only [b8,Bool.and_eq_true] at h1 h2
  cases r1 with
  |cons ra rb =>
   cases r2 with
   |cons rc rd =>
    cases j with
    |zero =>
     simp at e1 e2 e3 e4
     subst e1 e2 e3 e4
     exact sv I hK u w v v' _ _ n A h1.1 h2.1 q1 q3 ra rc hu
    |succ j=>exact iI I hK us ws r r' _ _ n A h1.2 h2.2 q2 q4 rb rd hu j u' w' x x' (by simpa using e1) (by simpa using e2) (by simpa using e3) (by simpa using e4)
end
end
end TM
namespace TM
open PySem L2
section
variable {X : Cx} {pins : List (Addr × Obj)} {σ : St} {H : Hp} {s : Shared} {C : Ct} {S : Addr → Prop}
theorem AE (I:Inv X pins σ H s) (hK:C.K=X.K) (u w:U) (v v':V) (x x':Value) (n:Nat) (A:Around) (h1:eqD n u=true) (h2:eqD n w=true) (h3:Rep C S H u v) (h4:Rep C S H w v') (r1:RelV v x) (r2:RelV v' x') (hu:A.units+n<cLine):SeqAt.RcAt A s x x' (a5 u w):=by
 cases u with
 |non =>
  simp only [Rep] at h3;subst h3;cases r1
  cases w with
  |non=>simp only [Rep] at h4;subst h4;cases r2;exact SeqAt.RcAt.none_none
  |bl q=>simp only [Rep] at h4;subst h4;cases r2;exact SeqAt.RcAt.none_bool  q
  |int q=>simp only [Rep] at h4;subst h4;obtain ⟨t,rfl⟩:=r2;exact SeqAt.RcAt.none_int  q t
  |str q=>simp only [Rep] at h4;subst h4;obtain ⟨t,rfl⟩:=r2;exact SeqAt.RcAt.none_str  q t
  |tup ws=>obtain ⟨a',vs',rfl,q3,q4⟩:=id h4;cases r2;rw [hK] at q3;obtain ⟨its',rv',p',_⟩:=I.tuple q3;exact SeqAt.RcAt.none_tuple  p' (by omega)
  |lst ws=>obtain ⟨a',vs',rfl,q3,q4⟩:=id h4;cases r2;obtain ⟨its',rv',p',_⟩:=aF I hK q3;exact SeqAt.RcAt.none_list  p' (by omega)
  |dic=>cases n <;> simp [eqD] at h2
  |rdc=>cases n <;> simp [eqD] at h2
 |bl p =>
  simp only [Rep] at h3;subst h3;cases r1
  cases w with
  |non=>simp only [Rep] at h4;subst h4;cases r2;exact SeqAt.RcAt.bool_none p
  |bl q=>simp only [Rep] at h4;subst h4;cases r2;exact SeqAt.RcAt.bool_bool p q
  |int q=>simp only [Rep] at h4;subst h4;obtain ⟨t,rfl⟩:=r2;exact SeqAt.RcAt.bool_int p q t
  |str q=>simp only [Rep] at h4;subst h4;obtain ⟨t,rfl⟩:=r2;exact SeqAt.RcAt.bool_str p q t
  |tup ws=>obtain ⟨a',vs',rfl,q3,q4⟩:=id h4;cases r2;rw [hK] at q3;obtain ⟨its',rv',p',_⟩:=I.tuple q3;exact SeqAt.RcAt.bool_tuple p p' (by omega)
  |lst ws=>obtain ⟨a',vs',rfl,q3,q4⟩:=id h4;cases r2;obtain ⟨its',rv',p',_⟩:=aF I hK q3;exact SeqAt.RcAt.bool_list p p' (by omega)
  |dic=>cases n <;> simp [eqD] at h2
  |rdc=>cases n <;> simp [eqD] at h2
 |int p =>
  simp only [Rep] at h3;subst h3;obtain ⟨t',rfl⟩:=r1
  cases w with
  |non=>simp only [Rep] at h4;subst h4;cases r2;exact SeqAt.RcAt.int_none p t'
  |bl q=>simp only [Rep] at h4;subst h4;cases r2;exact SeqAt.RcAt.int_bool p t' q
  |int q=>simp only [Rep] at h4;subst h4;obtain ⟨t,rfl⟩:=r2;exact SeqAt.RcAt.int_int p t' q t
  |str q=>simp only [Rep] at h4;subst h4;obtain ⟨t,rfl⟩:=r2;exact SeqAt.RcAt.int_str p t' q t
  |tup ws=>obtain ⟨a',vs',rfl,q3,q4⟩:=id h4;cases r2;rw [hK] at q3;obtain ⟨its',rv',p',_⟩:=I.tuple q3;exact SeqAt.RcAt.int_tuple p t' p' (by omega)
  |lst ws=>obtain ⟨a',vs',rfl,q3,q4⟩:=id h4;cases r2;obtain ⟨its',rv',p',_⟩:=aF I hK q3;exact SeqAt.RcAt.int_list p t' p' (by omega)
  |dic=>cases n <;> simp [eqD] at h2
  |rdc=>cases n <;> simp [eqD] at h2
 |str p =>
  simp only [Rep] at h3;subst h3;obtain ⟨t',rfl⟩:=r1
  cases w with
  |non=>simp only [Rep] at h4;subst h4;cases r2;exact SeqAt.RcAt.str_none p t'
  |bl q=>simp only [Rep] at h4;subst h4;cases r2;exact SeqAt.RcAt.str_bool p t' q
  |int q=>simp only [Rep] at h4;subst h4;obtain ⟨t,rfl⟩:=r2;exact SeqAt.RcAt.str_int p t' q t
  |str q=>simp only [Rep] at h4;subst h4;obtain ⟨t,rfl⟩:=r2;exact SeqAt.RcAt.str_str p t' q t
  |tup ws=>obtain ⟨a',vs',rfl,q3,q4⟩:=id h4;cases r2;rw [hK] at q3;obtain ⟨its',rv',p',_⟩:=I.tuple q3;exact SeqAt.RcAt.str_tuple p t' p' (by omega)
  |lst ws=>obtain ⟨a',vs',rfl,q3,q4⟩:=id h4;cases r2;obtain ⟨its',rv',p',_⟩:=aF I hK q3;exact SeqAt.RcAt.str_list p t' p' (by omega)
  |dic=>cases n <;> simp [eqD] at h2
  |rdc=>cases n <;> simp [eqD] at h2
 |tup us =>
  obtain ⟨a,vs,rfl,q1,q2⟩:=id h3;cases r1;rw [hK] at q1;obtain ⟨its,rv,p,_⟩:=I.tuple q1
  cases w with
  |non=>simp only [Rep] at h4;subst h4;cases r2;exact SeqAt.RcAt.tuple_none  p (by omega)
  |bl q=>simp only [Rep] at h4;subst h4;cases r2;exact SeqAt.RcAt.tuple_bool q p (by omega)
  |int q=>simp only [Rep] at h4;subst h4;obtain ⟨t,rfl⟩:=r2;exact SeqAt.RcAt.tuple_int q t p (by omega)
  |str q=>simp only [Rep] at h4;subst h4;obtain ⟨t,rfl⟩:=r2;exact SeqAt.RcAt.tuple_str q t p (by omega)
  |tup ws =>
   obtain ⟨a',vs',rfl,q3,q4⟩:=id h4;cases r2;rw [hK] at q3;obtain ⟨its',rv',p',_⟩:=I.tuple q3
   cases n with
   |zero=>simp [eqD] at h1
   |succ n =>
    simp only [eqD] at h1 h2
    have l1:=q2.len
    have l2:=q4.len
    have l3:=rv.length
    have l4:=rv'.length
    have ee:a5 (.tup us) (.tup ws)=((List.range (min its.toArray.size its'.toArray.size)).all (fun j=>a5 (us.getD j .non) (ws.getD j .non))&&its.toArray.size==its'.toArray.size):=by
     show bH us ws=_
     simp only [List.size_toArray]
     by_cases el:us.length=ws.length
     ·rw [bK el,show min its.length its'.length=us.length by omega,show (its.length==its'.length)=true by simp;omega,Bool.and_true]
     ·rw [cc el,show (its.length==its'.length)=false by simp;omega,Bool.and_false]
    rw [ee]
    refine SeqAt.RcAt.tuples p p' (by omega) fun j h1' h2'=>?_
    simp only [List.size_toArray] at h1' h2'
    exact iI I hK us ws vs vs' its its' n A.in1 h1 h2 q2 q4 rv rv' (by show A.units+1+n < _;omega) j (us.getD j .non) (ws.getD j .non) _ _ (by rw [List.getD_eq_getElem?_getD,List.getElem?_eq_getElem (by omega)];simp) (by rw [List.getD_eq_getElem?_getD,List.getElem?_eq_getElem (by omega)];simp) (by simp) (by simp)
  |lst ws=>obtain ⟨a',vs',rfl,q3,q4⟩:=id h4;cases r2;obtain ⟨its',rv',p',_⟩:=aF I hK q3;exact SeqAt.RcAt.tuple_list p p' (by omega)
  |dic=>cases n <;> simp [eqD] at h2
  |rdc=>cases n <;> simp [eqD] at h2
 |lst us =>
  obtain ⟨a,vs,rfl,q1,q2⟩:=id h3;cases r1;obtain ⟨its,rv,p,_⟩:=aF I hK q1
  cases w with
  |non=>simp only [Rep] at h4;subst h4;cases r2;exact SeqAt.RcAt.list_none  p (by omega)
  |bl q=>simp only [Rep] at h4;subst h4;cases r2;exact SeqAt.RcAt.list_bool q p (by omega)
  |int q=>simp only [Rep] at h4;subst h4;obtain ⟨t,rfl⟩:=r2;exact SeqAt.RcAt.list_int q t p (by omega)
  |str q=>simp only [Rep] at h4;subst h4;obtain ⟨t,rfl⟩:=r2;exact SeqAt.RcAt.list_str q t p (by omega)
  |tup ws=>obtain ⟨a',vs',rfl,q3,q4⟩:=id h4;cases r2;rw [hK] at q3;obtain ⟨its',rv',p',_⟩:=I.tuple q3;exact SeqAt.RcAt.list_tuple p p' (by omega)
  |lst ws =>
   obtain ⟨a',vs',rfl,q3,q4⟩:=id h4;cases r2;obtain ⟨its',rv',p',_⟩:=aF I hK q3
   cases n with
   |zero=>simp [eqD] at h1
   |succ n =>
    simp only [eqD] at h1 h2
    have l1:=q2.len
    have l2:=q4.len
    have l3:=rv.length
    have l4:=rv'.length
    by_cases el:us.length=ws.length
    ·have ee:a5 (.lst us) (.lst ws)=(List.range its.toArray.size).all (fun j=>a5 (us.getD j .non) (ws.getD j .non)):=by
      show bH us ws=_
      rw [bK el,List.size_toArray,show its.length=us.length by omega]
     rw [ee]
     refine SeqAt.RcAt.lists p p' (by simp;omega) (by omega) fun j h1' h2'=>?_
     simp only [List.size_toArray] at h1' h2'
     exact iI I hK us ws vs vs' its its' n A.in1 h1 h2 q2 q4 rv rv' (by show A.units+1+n < _;omega) j (us.getD j .non) (ws.getD j .non) _ _ (by rw [List.getD_eq_getElem?_getD,List.getElem?_eq_getElem (by omega)];simp) (by rw [List.getD_eq_getElem?_getD,List.getElem?_eq_getElem (by omega)];simp) (by simp) (by simp)
    ·have ee:a5 (.lst us) (.lst ws)=false:=cc el
     rw [ee]
     exact SeqAt.RcAt.lists_lengths p p' (by simp;omega) (by omega)
  |dic=>cases n <;> simp [eqD] at h2
  |rdc=>cases n <;> simp [eqD] at h2
 |dic=>cases n <;> simp [eqD] at h1
 |rdc=>cases n <;> simp [eqD] at h1
theorem xr (I:Inv X pins σ H s) (hK:C.K=X.K) (u w:U) (v v':V) (x x':Value) (n:Nat) (A:Around) (h1:eqD n u=true) (h2:eqD n w=true) (h3:Rep C S H u v) (h4:Rep C S H w v') (r1:RelV v x) (r2:RelV v' x') (hu:A.units+n<cLine):SeqAt.RcNeAt A s x x' (!(a5 u w)):=by
 cases u with
 |non =>
  simp only [Rep] at h3;subst h3;cases r1
  cases w with
  |non=>simp only [Rep] at h4;subst h4;cases r2;exact SeqAt.RcNeAt.none_none
  |bl q=>simp only [Rep] at h4;subst h4;cases r2;exact SeqAt.RcNeAt.none_bool  q
  |int q=>simp only [Rep] at h4;subst h4;obtain ⟨t,rfl⟩:=r2;exact SeqAt.RcNeAt.none_int  q t
  |str q=>simp only [Rep] at h4;subst h4;obtain ⟨t,rfl⟩:=r2;exact SeqAt.RcNeAt.none_str  q t
  |tup ws=>obtain ⟨a',vs',rfl,q3,q4⟩:=id h4;cases r2;rw [hK] at q3;obtain ⟨its',rv',p',_⟩:=I.tuple q3;exact SeqAt.RcNeAt.none_tuple  p' (by omega)
  |lst ws=>obtain ⟨a',vs',rfl,q3,q4⟩:=id h4;cases r2;obtain ⟨its',rv',p',_⟩:=aF I hK q3;exact SeqAt.RcNeAt.none_list  p' (by omega)
  |dic=>cases n <;> simp [eqD] at h2
  |rdc=>cases n <;> simp [eqD] at h2
 |bl p =>
  simp only [Rep] at h3;subst h3;cases r1
  cases w with
  |non=>simp only [Rep] at h4;subst h4;cases r2;exact SeqAt.RcNeAt.bool_none p
  |bl q=>simp only [Rep] at h4;subst h4;cases r2;exact SeqAt.RcNeAt.bool_bool p q
  |int q=>simp only [Rep] at h4;subst h4;obtain ⟨t,rfl⟩:=r2;exact SeqAt.RcNeAt.bool_int p q t
  |str q=>simp only [Rep] at h4;subst h4;obtain ⟨t,rfl⟩:=r2;exact SeqAt.RcNeAt.bool_str p q t
  |tup ws=>obtain ⟨a',vs',rfl,q3,q4⟩:=id h4;cases r2;rw [hK] at q3;obtain ⟨its',rv',p',_⟩:=I.tuple q3;exact SeqAt.RcNeAt.bool_tuple p p' (by omega)
  |lst ws=>obtain ⟨a',vs',rfl,q3,q4⟩:=id h4;cases r2;obtain ⟨its',rv',p',_⟩:=aF I hK q3;exact SeqAt.RcNeAt.bool_list p p' (by omega)
  |dic=>cases n <;> simp [eqD] at h2
  |rdc=>cases n <;> simp [eqD] at h2
 |int p =>
  simp only [Rep] at h3;subst h3;obtain ⟨t',rfl⟩:=r1
  cases w with
  |non=>simp only [Rep] at h4;subst h4;cases r2;exact SeqAt.RcNeAt.int_none p t'
  |bl q=>simp only [Rep] at h4;subst h4;cases r2;exact SeqAt.RcNeAt.int_bool p t' q
  |int q=>simp only [Rep] at h4;subst h4;obtain ⟨t,rfl⟩:=r2;exact SeqAt.RcNeAt.int_int p t' q t
  |str q=>simp only [Rep] at h4;subst h4;obtain ⟨t,rfl⟩:=r2;exact SeqAt.RcNeAt.int_str p t' q t
  |tup ws=>obtain ⟨a',vs',rfl,q3,q4⟩:=id h4;cases r2;rw [hK] at q3;obtain ⟨its',rv',p',_⟩:=I.tuple q3;exact SeqAt.RcNeAt.int_tuple p t' p' (by omega)
  |lst ws=>obtain ⟨a',vs',rfl,q3,q4⟩:=id h4;cases r2;obtain ⟨its',rv',p',_⟩:=aF I hK q3;exact SeqAt.RcNeAt.int_list p t' p' (by omega)
  |dic=>cases n <;> simp [eqD] at h2
  |rdc=>cases n <;> simp [eqD] at h2
 |str p =>
  simp only [Rep] at h3;subst h3;obtain ⟨t',rfl⟩:=r1
  cases w with
  |non=>simp only [Rep] at h4;subst h4;cases r2;exact SeqAt.RcNeAt.str_none p t'
  |bl q=>simp only [Rep] at h4;subst h4;cases r2;exact SeqAt.RcNeAt.str_bool p t' q
  |int q=>simp only [Rep] at h4;subst h4;obtain ⟨t,rfl⟩:=r2;exact SeqAt.RcNeAt.str_int p t' q t
  |str q=>simp only [Rep] at h4;subst h4;obtain ⟨t,rfl⟩:=r2;exact SeqAt.RcNeAt.str_str p t' q t
  |tup ws=>obtain ⟨a',vs',rfl,q3,q4⟩:=id h4;cases r2;rw [hK] at q3;obtain ⟨its',rv',p',_⟩:=I.tuple q3;exact SeqAt.RcNeAt.str_tuple p t' p' (by omega)
  |lst ws=>obtain ⟨a',vs',rfl,q3,q4⟩:=id h4;cases r2;obtain ⟨its',rv',p',_⟩:=aF I hK q3;exact SeqAt.RcNeAt.str_list p t' p' (by omega)
  |dic=>cases n <;> simp [eqD] at h2
  |rdc=>cases n <;> simp [eqD] at h2
 |tup us =>
  obtain ⟨a,vs,rfl,q1,q2⟩:=id h3;cases r1;rw [hK] at q1;obtain ⟨its,rv,p,_⟩:=I.tuple q1
  cases w with
  |non=>simp only [Rep] at h4;subst h4;cases r2;exact SeqAt.RcNeAt.tuple_none  p (by omega)
  |bl q=>simp only [Rep] at h4;subst h4;cases r2;exact SeqAt.RcNeAt.tuple_bool q p (by omega)
  |int q=>simp only [Rep] at h4;subst h4;obtain ⟨t,rfl⟩:=r2;exact SeqAt.RcNeAt.tuple_int q t p (by omega)
  |str q=>simp only [Rep] at h4;subst h4;obtain ⟨t,rfl⟩:=r2;exact SeqAt.RcNeAt.tuple_str q t p (by omega)
  |tup ws =>
   obtain ⟨a',vs',rfl,q3,q4⟩:=id h4;cases r2;rw [hK] at q3;obtain ⟨its',rv',p',_⟩:=I.tuple q3
   cases n with
   |zero=>simp [eqD] at h1
   |succ n =>
    simp only [eqD] at h1 h2
    have l1:=q2.len
    have l2:=q4.len
    have l3:=rv.length
    have l4:=rv'.length
    have ee:a5 (.tup us) (.tup ws)=((List.range (min its.toArray.size its'.toArray.size)).all (fun j=>a5 (us.getD j .non) (ws.getD j .non))&&its.toArray.size==its'.toArray.size):=by
     show bH us ws=_
     simp only [List.size_toArray]
     by_cases el:us.length=ws.length
     ·rw [bK el,show min its.length its'.length=us.length by omega,show (its.length==its'.length)=true by simp;omega,Bool.and_true]
     ·rw [cc el,show (its.length==its'.length)=false by simp;omega,Bool.and_false]
    rw [ee]
    refine SeqAt.RcNeAt.tuples p p' (by omega) fun j h1' h2'=>?_
    simp only [List.size_toArray] at h1' h2'
    exact iI I hK us ws vs vs' its its' n A.in1 h1 h2 q2 q4 rv rv' (by show A.units+1+n < _;omega) j (us.getD j .non) (ws.getD j .non) _ _ (by rw [List.getD_eq_getElem?_getD,List.getElem?_eq_getElem (by omega)];simp) (by rw [List.getD_eq_getElem?_getD,List.getElem?_eq_getElem (by omega)];simp) (by simp) (by simp)
  |lst ws=>obtain ⟨a',vs',rfl,q3,q4⟩:=id h4;cases r2;obtain ⟨its',rv',p',_⟩:=aF I hK q3;exact SeqAt.RcNeAt.tuple_list p p' (by omega)
  |dic=>cases n <;> simp [eqD] at h2
  |rdc=>cases n <;> simp [eqD] at h2
 |lst us =>
  obtain ⟨a,vs,rfl,q1,q2⟩:=id h3;cases r1;obtain ⟨its,rv,p,_⟩:=aF I hK q1
  cases w with
  |non=>simp only [Rep] at h4;subst h4;cases r2;exact SeqAt.RcNeAt.list_none  p (by omega)
  |bl q=>simp only [Rep] at h4;subst h4;cases r2;exact SeqAt.RcNeAt.list_bool q p (by omega)
  |int q=>simp only [Rep] at h4;subst h4;obtain ⟨t,rfl⟩:=r2;exact SeqAt.RcNeAt.list_int q t p (by omega)
  |str q=>simp only [Rep] at h4;subst h4;obtain ⟨t,rfl⟩:=r2;exact SeqAt.RcNeAt.list_str q t p (by omega)
  |tup ws=>obtain ⟨a',vs',rfl,q3,q4⟩:=id h4;cases r2;rw [hK] at q3;obtain ⟨its',rv',p',_⟩:=I.tuple q3;exact SeqAt.RcNeAt.list_tuple p p' (by omega)
  |lst ws =>
   obtain ⟨a',vs',rfl,q3,q4⟩:=id h4;cases r2;obtain ⟨its',rv',p',_⟩:=aF I hK q3
   cases n with
   |zero=>simp [eqD] at h1
   |succ n =>
    simp only [eqD] at h1 h2
    have l1:=q2.len
    have l2:=q4.len
    have l3:=rv.length
    have l4:=rv'.length
    by_cases el:us.length=ws.length
    ·have ee:a5 (.lst us) (.lst ws)=(List.range its.toArray.size).all (fun j=>a5 (us.getD j .non) (ws.getD j .non)):=by
      show bH us ws=_
      rw [bK el,List.size_toArray,show its.length=us.length by omega]
     rw [ee]
     refine SeqAt.RcNeAt.lists p p' (by simp;omega) (by omega) fun j h1' h2'=>?_
     simp only [List.size_toArray] at h1' h2'
     exact iI I hK us ws vs vs' its its' n A.in1 h1 h2 q2 q4 rv rv' (by show A.units+1+n < _;omega) j (us.getD j .non) (ws.getD j .non) _ _ (by rw [List.getD_eq_getElem?_getD,List.getElem?_eq_getElem (by omega)];simp) (by rw [List.getD_eq_getElem?_getD,List.getElem?_eq_getElem (by omega)];simp) (by simp) (by simp)
    ·have ee:a5 (.lst us) (.lst ws)=false:=cc el
     rw [ee]
     exact SeqAt.RcNeAt.lists_lengths p p' (by simp;omega) (by omega)
  |dic=>cases n <;> simp [eqD] at h2
  |rdc=>cases n <;> simp [eqD] at h2
 |dic=>cases n <;> simp [eqD] at h1
 |rdc=>cases n <;> simp [eqD] at h1
end
end TM
namespace TM
open PySem L2 PyProof.Rows
noncomputable def tEv (C:Ct) (m:M (Kd×U)):TE:=fun σ H Q=>∃ c0:Cf,c0.σ=σ∧c0.H=H∧Ok C c0∧W m c0.st fun r st'=>∀ c v,c.σ=σ→c.st=st'→Ok C c→Nx c0 c→aG C c0 c r.1 r.2 v→Q v c.H
noncomputable def tTs (C:Ct) (m:M Bool):TT:=fun σ H Q=>∃ c0:Cf,c0.σ=σ∧c0.H=H∧Ok C c0∧W m c0.st fun b st'=>∀ c,c.σ=σ→c.st=st'→Ok C c→Nx c0 c→Q b c.H
noncomputable def cJ (C:Ct) (c0 c:Cf):List (Kd×U)→List V→Prop
 |[],vs=>vs=[]
 |r::rs,vs=>∃ v t,vs=v::t∧d5 C c0 c r.1 r.2 v∧cJ C c0 c rs t∧(r.1=.own→∀ (i:Nat) r' v',rs[i]?=some r'→t[i]?=some v'→r'.1=.own→v'≠v)
noncomputable def tEs (C:Ct) (m:M (List (Kd×U))):TA:=fun σ H Q=>∃ c0:Cf,c0.σ=σ∧c0.H=H∧Ok C c0∧W m c0.st fun rs st'=>∀ c vs,c.σ=σ→c.st=st'→Ok C c→Nx c0 c→cJ C c0 c rs vs→Q vs c.H
section
variable {X : Cx} {C : Ct}
theorem PE.weak {e:Expr}{t t':TE} (h:PE X e t) (i:∀ σ H Q,t' σ H Q→t σ H Q):PE X e t':=fun pins s σ H Q I q=>h pins s σ H Q I (i σ H Q q)
theorem PT.weak {e:Expr}{t t':TT} (h:PT X e t) (i:∀ σ H Q,t' σ H Q→t σ H Q):PT X e t':=fun pins s σ H Q I q=>h pins s σ H Q I (i σ H Q q)
theorem bT {rs:List (Kd×U)}{st:ak}{Q:Unit→ak→Prop}:W (ar rs) st Q↔ba rs st∧Q () st:=by
 constructor
 ·rintro ⟨a,st',e,h⟩
  unfold ar at e
  split at e
  ·cases e;exact ⟨by assumption,h⟩
  ·cases e
 ·rintro ⟨h1,h2⟩
  exact ⟨(),st,by unfold ar;rw [if_pos h1],h2⟩
theorem eF {r:Kd×U}{rs:List (Kd×U)}{st:ak}:ba (r::rs) st↔ba [r] st∧ba rs st:=by
 obtain ⟨k,u⟩:=r
 cases k <;> simp [ba]
theorem d5.t {c0 c:Cf}{k:Kd}{u:U}{v:V} (h:d5 C c0 c k u v) (s:ba [(k,u)] c.st):aG C c0 c k u v:=by
 cases k with
 |own=>exact h
 |loc=>exact h
 |any=>exact h
 |bor j=>exact ⟨s.1,h⟩
 |io=>exact h
 |ownD=>exact h
structure At2 (C:Ct) (c0 c:Cf) (x y:Kd×U) (vx vy:V):Prop where
 hσ:c.σ=c0.σ
 ok:Ok C c
 nx:Nx c0 c
 rx:aG C c0 c x.1 x.2 vx
 ry:aG C c0 c y.1 y.2 vy
 ne:x.1=.own→y.1=.own→vy≠vx
theorem kY {c0 c1 c:Cf}{k k':Kd}{u u':U}{v v':V} (h:d5 C c0 c1 k u v) (h':d5 C c1 c k' u' v'):k=.own→k'=.own→v'≠v:=by
 rintro rfl rfl e
 obtain ⟨r,e1,_,_,_,h4⟩:=h
 obtain ⟨r',e2,h5,_⟩:=h'
 obtain ⟨o,ho,_⟩:=h4.some
 subst e1
 rw [e2] at e
 cases e
 rw [ho] at h5;cases h5
variable {a b : Expr} {ma mb : M (Kd × U)} {pins : List (Addr × Obj)} {σ : L2.St} {H : Hp} {s : Shared}
theorem two {β:Type}{k:Kd×U→Kd×U→M β}{Post:β→ak→Prop}{α:Type}{f:Value→Value→Sem α}{Q':Value→Value→α→Shared→Prop}{c0:Cf} (ha:PE X a (tEv C ma)) (hb:PE X b (tEv C mb)) (I:Inv X pins c0.σ c0.H s) (ok:Ok C c0)
  (h:W (ma >>= fun x=>mb >>= fun y=>ar [x,y] >>= fun _=>k x y) c0.st Post)
  (hf:∀ x y c vx vy v u s2,At2 C c0 c x y vx vy→Inv X pins c.σ c.H s2→RelV vx v→RelV vy u→W (k x y) c.st Post→wpAny (model X.prog X.w) X.A (f v u) (Q' v u) X.xe s2) :
  wpAny (model X.prog X.w) X.A (eval a X.env) (fun v s₁=>wpAny (model X.prog X.w) X.A (eval b X.env) (fun u s₂=>wpAny (model X.prog X.w) X.A (f v u) (Q' v u) X.xe s₂) X.xe s₁) X.xe s:=by
 rw [ag] at h
 refine thn (ha pins s c0.σ c0.H (fun vx H1=>∃ x c1,c1.H=H1∧c1.σ=c0.σ∧Ok C c1∧Nx c0 c1∧aG C c0 c1 x.1 x.2 vx∧W (mb >>= fun y=>ar [x,y] >>= fun _=>k x y) c1.st Post) I ⟨c0,rfl,rfl,ok,h.mono fun x st1 h1 c1 vx e1 e2 ok1 n1 r1=>⟨x,c1,rfl,e1,ok1,n1,r1,by rw [e2];exact h1⟩⟩) ?_
 rintro v s1 ⟨vx,H1,I1,rv,x,c1,rfl,e1,ok1,n1,r1,h1⟩
 rw [ag] at h1
 refine thn (hb pins s1 c0.σ c1.H (fun vy H2=>∃ y c2,c2.H=H2∧At2 C c0 c2 x y vx vy∧W (k x y) c2.st Post) I1 ⟨c1,e1,rfl,ok1,h1.mono fun y st2 h2 c2 vy e3 e4 ok2 n2 r2=>?_⟩) ?_
 ·rw [ag,bT] at h2
  subst e4
  rw [eF] at h2
  exact ⟨y,c2,rfl,⟨e3,ok2,n1.trans n2,(r1.w.on ok1 n2 (e3.trans e1.symm)).t h2.1.1,(r2.from n1),kY r1.w r2.w⟩,h2.2⟩
 ·rintro u s2 ⟨vy,H2,I2,ru,y,c2,rfl,at2,h2⟩
  have hs:c2.σ=c0.σ:=at2.hσ
  exact hf x y c2 vx vy v u s2 at2 (by rw [hs];exact I2) rv ru h2
structure At1 (C:Ct) (c0 c:Cf) (x:Kd×U) (vx:V):Prop where
 hσ:c.σ=c0.σ
 ok:Ok C c
 nx:Nx c0 c
 rx:aG C c0 c x.1 x.2 vx
noncomputable def bR (C:Ct) (c0:Cf) (Q:VK) (r:Kd×U) (st':ak):Prop:=∀ c v,c.σ=c0.σ→c.st=st'→Ok C c→Nx c0 c→aG C c0 c r.1 r.2 v→Q v c.H
section
variable {c0 c : Cf} {Q : VK}
theorem bR.flat {u:U}{v:V} (h:bR C c0 Q (.loc,u) c.st) (hσ:c.σ=c0.σ) (ok:Ok C c) (n:Nx c0 c) (r:Rep C c.S c.H u v):Q v c.H:=h c v hσ rfl ok n r
theorem bR.list {us:List U}{vs:List V} (h:bR C c0 Q (.own,.lst us) c.st) (hσ:c.σ=c0.σ) (ok:Ok C c) (n:Nx c0 c) (r:ah C c.S c.H us vs) (p:Addr) (hp:c.H p=none):Q (.ref p) (upd c.H p (.lst vs)):=by
 obtain ⟨ok',n',r'⟩:=ok.newList n hp r
 exact h { c with H:=upd c.H p (.lst vs) } _ hσ rfl ok' n' r'
theorem bR.tup {us:List U}{vs:List V} (h:bR C c0 Q (.loc,.tup us) c.st) (hσ:c.σ=c0.σ) (ok:Ok C c) (n:Nx c0 c) (r:ah C c.S c.H us vs) (p:Addr) (hp:c.H p=none):Q (.ref p) (upd c.H p (.tup vs)):=by
 obtain ⟨ok',n',r'⟩:=ok.xg n hp r
 exact h { c with H:=upd c.H p (.tup vs) } _ hσ rfl ok' n' r'
theorem bR.tupK {k:Kd}{us:List U}{vs:List V} (h:bR C c0 Q (kE k,.tup us) c.st) (hσ:c.σ=c0.σ) (ok:Ok C c) (n:Nx c0 c) (r:ah C (SK C c k) c.H us vs) (p:Addr) (hp:c.H p=none):Q (.ref p) (upd c.H p (.tup vs)):=by
 obtain ⟨ok',n'⟩:=ok.lay (o:=.tup vs) hp
 refine h { c with H:=upd c.H p (.tup vs) } _ hσ rfl ok' (n.trans n') (aG.item ?_)
 cases k <;> exact ⟨p,vs,rfl,SqT.of aR,by first|exact r.mv (ok.mvP n')|exact r.mv (ok.mv n')⟩
theorem cK {k:Kd}{us:List U}{vs:List V} (h:fV k us=true) (r:ah C (SK C c k) c.H us vs):ah C c.S c.H us vs:=by
 cases k with
 |any=>exact r.imm (by simpa [fV,isAny] using h)
 |own=>exact r
 |loc=>exact r
 |bor j=>exact r
 |io=>exact r
 |ownD=>exact r
end
theorem uW:OpR X (binaryOp .Add) (fun x y H Q=>∃ l b xs zs,x=.ref l∧y=.ref b∧SqL X.K H l xs∧SqL X.K H b zs∧xs.length+zs.length≤sizeLine∧∀ p,H p=none→Q (.ref p) (upd H p (.lst (xs++zs)))):=by
 intro pins s σ H x y v u Q I rx ry h
 obtain ⟨l,b,xs,zs,rfl,rfl,hH,hB,hz,q⟩:=h
 cases rx
 cases ry
 obtain ⟨its,r,pl,z⟩:=I.list hH
 obtain ⟨its2,r2,pl2,z2⟩:=I.list hB
 have hl:=r.length
 have hl2:=r2.length
 obtain ⟨⟨cls,dd,data,sl⟩,ho,hc,n,hd⟩:=pl.isList
 obtain ⟨⟨cls2,dd2,data2,sl2⟩,ho2,hc2,n2,hd2⟩:=pl2.isList
 simp only at hc hd hc2 hd2
 subst hc hd hc2 hd2
 refine concat_meets ⟨_,ho,rfl⟩ ⟨_,ho2,rfl⟩ noFill_list_add seq_list_add PySem.F.slot_list_add PySem.F.entry_list_add (PySem.F.args_list_add_2 _ _)
   (list_addW l b its.toArray its2.toArray n n2 dd dd2 sl sl2 (by rw [List.size_toArray,List.size_toArray];omega)) ⟨ho,ho2,?_⟩
 have ea:its.toArray++its2.toArray=(its++its2).toArray:=by simp
 rw [ea]
 exact ⟨.ref _,_,I.Aw (t':=s.toks) (r.append r2) (by rw [List.length_append];omega),rfl,q _ I.fresh⟩
end
end TM
namespace TM
open PySem L2 PyProof.Rows
section
variable {X : Cx} {C : Ct} {pins : List (Addr × Obj)} {s : Shared} {c0 c : Cf} {Q : VK}
noncomputable def Bop.op:Bop→Operator
 |.add=>.Add|.sub=>.Sub|.mul=>.Mult|.fdv=>.FloorDiv|.mod=>.Mod|.pow=>.Pow
theorem c8 {f:Int→Int→Option Int}{a b:U}{r:Kd×U} (h:og f a b=some r):∃ i j o,a=.int i∧b=.int j∧f i j=some o∧r=(.loc,.int o):=by
 unfold og at h
 split at h
 ·rw [Option.map_eq_some_iff] at h
  obtain ⟨o,e,rfl⟩:=h
  exact ⟨_,_,o,rfl,rfl,e,rfl⟩
 ·cases h
theorem xt {op:Bop}{x y r:Kd×U}{vx vy:V}{v u:Value} (hK:C.K=X.K) (t:At2 C c0 c x y vx vy) (I:Inv X pins c.σ c.H s) (rx:RelV vx v) (ry:RelV vy u) (h:opU op x y=some r) (q:bR C c0 Q r c.st) :
  wpAny (model X.prog X.w) X.A (binaryOp op.op v u) (EP X pins c.σ Q) X.xe s:=by
 obtain ⟨hσ,ok,n,tx,ty,_⟩:=t
 cases op with
 |add =>
  have h:qP x y=some r:=h
  unfold qP at h
  split at h
  ·have ex:=tx.int ok;have ey:=ty.int ok
   cases h
   exact cQ pins s c.σ c.H vx vy v u Q I rx ry ⟨_,_,ex,ey,q.flat hσ ok n rfl⟩
  ·have ex:=tx.str ok;have ey:=ty.str ok
   split at h
   ·cases h
    exact nJ pins s c.σ c.H vx vy v u Q I rx ry ⟨_,_,ex,ey,by assumption,q.flat hσ ok n rfl⟩
   ·cases h
  ·obtain ⟨a,vs,ex,h1,h2⟩:=tx.list ok
   obtain ⟨b,ws,ey,h3,h4⟩:=ty.list ok
   split at h
   ·rename_i hh
    cases h
    exact uW pins s c.σ c.H vx vy v u Q I rx ry ⟨a,b,vs,ws,ex,ey,hK ▸ h1,hK ▸ h3,by rw [←h2.len,←h4.len];exact hh.1,fun p hp=>q.list hσ ok n ((cK hh.2.1 h2).append (cK hh.2.2 h4)) p hp⟩
   ·cases h
  ·cases h
 |sub =>
  obtain ⟨i,j,o,ex,ey,eo,rfl⟩:=c8 h
  have ex:=(ex ▸ tx).int ok;have ey:=(ey ▸ ty).int ok
  cases eo
  exact nH pins s c.σ c.H vx vy v u Q I rx ry ⟨_,_,ex,ey,q.flat hσ ok n rfl⟩
 |mul =>
  obtain ⟨i,j,o,ex,ey,eo,rfl⟩:=c8 h
  have ex:=(ex ▸ tx).int ok;have ey:=(ey ▸ ty).int ok
  unfold uR at eo
  split at eo
  ·cases eo
   exact kj pins s c.σ c.H vx vy v u Q I rx ry ⟨_,_,ex,ey,by assumption,q.flat hσ ok n rfl⟩
  ·cases eo
 |fdv =>
  obtain ⟨i,j,o,ex,ey,eo,rfl⟩:=c8 h
  have ex:=(ex ▸ tx).int ok;have ey:=(ey ▸ ty).int ok
  unfold uS at eo
  split at eo
  ·cases eo
   exact um pins s c.σ c.H vx vy v u Q I rx ry ⟨_,_,ex,ey,by assumption,q.flat hσ ok n rfl⟩
  ·cases eo
 |mod =>
  obtain ⟨i,j,o,ex,ey,eo,rfl⟩:=c8 h
  have ex:=(ex ▸ tx).int ok;have ey:=(ey ▸ ty).int ok
  unfold uT at eo
  split at eo
  ·cases eo
   exact bc pins s c.σ c.H vx vy v u Q I rx ry ⟨_,_,ex,ey,by assumption,q.flat hσ ok n rfl⟩
  ·cases eo
 |pow =>
  obtain ⟨i,j,o,ex,ey,eo,rfl⟩:=c8 h
  have ex:=(ex ▸ tx).int ok;have ey:=(ey ▸ ty).int ok
  unfold uU at eo
  split at eo
  ·cases eo
   exact kl pins s c.σ c.H vx vy v u Q I rx ry ⟨_,_,ex,ey,by assumption,q.flat hσ ok n rfl⟩
  ·cases eo
theorem uX {op:Bop}{a b:Expr}{ma mb:M (Kd×U)}{pos:Pos} (hK:C.K=X.K) (ha:PE X a (tEv C ma)) (hb:PE X b (tEv C mb)):PE X (.BinOp a op.op b pos) (tEv C (ma >>= fun x=>mb >>= fun y=>ar [x,y] >>= fun _=>M.ofO (opU op x y))):=by
 rintro pins s σ H Q I ⟨c0,rfl,rfl,ok,h⟩
 refine wpAny_BinOp (two ha hb I ok h fun x y c vx vy v u s2 t I2 rx ry w=>?_)
 obtain ⟨r,e,q⟩:=bQ.mp w
 exact thn (xt hK t I2 rx ry e q) fun _ _ z=>by rw [t.hσ] at z;exact z
noncomputable def Cop.op:Cop→CmpOp
 |.eq=>.Eq|.ne=>.NotEq|.lt=>.Lt|.le=>.LtE|.gt=>.Gt|.ge=>.GtE|.isin=>.In|.notin=>.NotIn|.is=>.Is|.isnt=>.IsNot
theorem yP {neg:Bool} (I:Inv X pins c.σ c.H s) (hK:C.K=X.K) (hu:X.A.units+60<cLine) {x:U}{ys:List U}{vx:V}{v:Value}{a:Addr}{vs:List V}{S:Addr→Prop} (hx:Rep C S c.H x vx) (rx:RelV vx v) (hy:ah C S c.H ys vs)
  (ha:SqL C.K c.H a vs∨SqT C.K c.H a vs) (e1:eqD 50 x=true) (e2:b8 50 ys=true) {Q:Value→Shared→Prop} (q:Q (.bool (if neg then !(ys.any fun y=>a5 y x) else ys.any fun y=>a5 y x)) s) :
  wpAny (model X.prog X.w) X.A (compareOp (if neg then .NotIn else .In) v (.ref a)) Q X.xe s:=by
 have hS:∀ (j:Nat) (w:U) (vw:V),ys[j]?=some w→vs[j]?=some vw→Rep C S c.H w vw:=fun j w vw h1 h2=>by
  obtain ⟨vw',e,r⟩:=hy.get h1
  rw [h2] at e;cases e
  exact r
 have eD:∀ (j:Nat) (w:U),ys[j]?=some w→eqD 50 w=true:=by
  have:∀ (l:List U),b8 50 l=true→∀ w∈l,eqD 50 w=true:=by
   intro l
   induction l with
   |nil=>intro _ w hw;cases hw
   |cons z l ih =>
    intro h w hw
    simp only [b8,Bool.and_eq_true] at h
    rcases List.mem_cons.mp hw with rfl|hw
    ·exact h.1
    ·exact ih h.2 w hw
  exact fun j w h=>this ys e2 w (List.mem_of_getElem? h)
 have go:∀ its:List Value,Vals vs its→∃ e:Value→Bool,(∀ y,y∈its.toArray→SeqAt.EqAt X.A.in1 s y v (e y))∧its.toArray.any e=ys.any fun y=>a5 y x:=by
  intro its rv
  have l1:=hy.len
  have l2:=rv.length
  classical
  have at':∀ (j:Nat) (y:Value),its[j]?=some y→∃ w vw,ys[j]?=some w∧vs[j]?=some vw∧RelV vw y∧Rep C S c.H w vw:=by
   intro j y h
   have hj:j<its.length:=(List.getElem?_eq_some_iff.mp h).1
   obtain ⟨w,hw⟩:∃ w,ys[j]?=some w:=⟨ys[j]'(by omega),by simp⟩
   obtain ⟨vw,hvw,r⟩:=hy.get hw
   obtain ⟨y',hy',rr⟩:=rv.get hvw
   rw [h] at hy';cases hy'
   exact ⟨w,vw,hw,hvw,rr,r⟩
  refine ⟨fun y=>decide (∃ (j:Nat) (w:U),its[j]?=some y∧ys[j]?=some w∧a5 w x=true),fun y hmem=>?_,?_⟩
  ·obtain ⟨j,hj,e⟩:=List.getElem_of_mem (show y∈its by simpa using hmem)
   have hjy:its[j]?=some y:=by rw [List.getElem?_eq_getElem hj,e]
   obtain ⟨w,vw,hw,hvw,rr,r⟩:=at' j y hjy
   have eq:decide (∃ (j:Nat) (w:U),its[j]?=some y∧ys[j]?=some w∧a5 w x=true)=a5 w x:=by
    rw [Bool.eq_iff_iff,decide_eq_true_iff]
    constructor
    ·rintro ⟨j',w',h1,h2,h3⟩
     obtain ⟨w2,vw2,hw2,_,rr2,r2⟩:=at' j' y h1
     rw [h2] at hw2;cases hw2
     have:vw2=vw:=rr2.inj rr
     subst this
     rw [pL I hK w w' vw2 50 (eD j w hw) (eD j' w' h2) r r2]
     exact h3
    ·intro h
     exact ⟨j,w,hjy,hw,h⟩
   have z:=sv I hK w x vw vx y v 50 X.A.in1 (eD j w hw) e1 r hx rr rx (by show X.A.units+1+50 < _;omega)
   rw [←eq] at z
   exact z
  ·rw [Bool.eq_iff_iff]
   simp only [List.any_toArray,List.any_eq_true,decide_eq_true_iff]
   constructor
   ·rintro ⟨y,_,j,w,h1,h2,h3⟩
    exact ⟨w,List.mem_of_getElem? h2,h3⟩
   ·rintro ⟨w,hw,h3⟩
    obtain ⟨j,hj,e⟩:=List.getElem_of_mem hw
    have hjy:its[j]?=some (its[j]'(by omega)):=List.getElem?_eq_getElem _
    exact ⟨its[j]'(by omega),List.getElem_mem _,j,w,hjy,by rw [List.getElem?_eq_getElem hj,e],h3⟩
 rcases ha with ha|ha
 ·obtain ⟨its,rv,p,_⟩:=pJ I (hK ▸ ha)
  obtain ⟨e,h1,h2⟩:=go its rv
  cases neg with
  |false=>exact SeqAt.in_listAt e p h1 (by rw [h2];exact q)
  |true=>exact SeqAt.notIn_listAt e p h1 (by rw [h2];exact q)
 ·rw [hK] at ha
  obtain ⟨its,rv,p,_⟩:=I.tuple ha
  obtain ⟨e,h1,h2⟩:=go its rv
  cases neg with
  |false=>exact SeqAt.in_tupleAt e p h1 (by rw [h2];exact q)
  |true=>exact SeqAt.notIn_tupleAt e p h1 (by rw [h2];exact q)
end
end TM
namespace TM
open PySem L2 PyProof.Rows
section
variable {X : Cx} {C : Ct} {pins : List (Addr × Obj)} {s : Shared} {c0 c : Cf} {Q : VK}
theorem bw:∀ {us:List U}{ss:List Str},strsOf us=some ss→us=ss.map .str
 |[],ss,h=>by cases h;rfl
 |.str x::us,ss,h=>by
  simp only [strsOf,Option.map_eq_some_iff] at h
  obtain ⟨t,h1,rfl⟩:=h
  rw [bw h1];rfl
 |.non::_,_,h=>by cases h
 |.bl _::_,_,h=>by cases h
 |.int _::_,_,h=>by cases h
 |.tup _::_,_,h=>by cases h
 |.lst _::_,_,h=>by cases h
 |.dic _ _::_,_,h=>by cases h
 |.rdc _::_,_,h=>by cases h
theorem iJ:∀ {us:List U}{ss:List Bool},iE us=some ss→us=ss.map .bl
 |[],ss,h=>by cases h;rfl
 |.bl x::us,ss,h=>by
  simp only [iE,Option.map_eq_some_iff] at h
  obtain ⟨t,h1,rfl⟩:=h
  rw [iJ h1];rfl
 |.non::_,_,h=>by cases h
 |.str _::_,_,h=>by cases h
 |.int _::_,_,h=>by cases h
 |.tup _::_,_,h=>by cases h
 |.lst _::_,_,h=>by cases h
 |.dic _ _::_,_,h=>by cases h
 |.rdc _::_,_,h=>by cases h
theorem ah.bls {S:Addr→Prop}{H:Hp}:∀ {xs:List Bool}{vs:List V},ah C S H (xs.map .bl) vs→vs=xs.map V.bl
 |[],vs,h=>h
 |x::xs,vs,h=>by
  obtain ⟨v,r,rfl,h1,h2⟩:=h
  rw [ah.bls h2]
  have:v=.bl x:=h1
  rw [this];rfl
noncomputable def yQ (r:dr):U:=.tup [.str r.1,.tup (r.2.map .str)]
theorem iK {u:U}{r:dr} (h:rowOf u=some r):u=yQ r:=by
 unfold rowOf at h
 split at h
 ·rw [Option.map_eq_some_iff] at h
  obtain ⟨ss,h1,rfl⟩:=h
  rw [bw h1];rfl
 ·cases h
noncomputable def xu (X:Cx) (pins:List (Addr×Obj)) (c:Cf) (b:Bool) (v:Value) (s':Shared):Prop:=v=.bool b∧Inv X pins c.σ c.H s'
theorem fZ {f:Value→Value→Sem Value}{r:R2}{b:Bool}{vx vy:V}{v u:Value} (o:OpR X f r) (I:Inv X pins c.σ c.H s) (rx:RelV vx v) (ry:RelV vy u) (h:r vx vy c.H fun x H'=>x=.bl b∧H'=c.H) :
  wpAny (model X.prog X.w) X.A (f v u) (xu X pins c b) X.xe s :=
 thn (o pins s c.σ c.H vx vy v u _ I rx ry h) fun w s' hIx=>by
  obtain ⟨z,H',I',r,e1,e2⟩:=hIx
  subst e1 e2
  exact ⟨r,I'⟩
theorem aG.dict {k:Kd}{ks:List Str}{us:List U}{v:V} (ok:Ok C c) (h:aG C c0 c k (.dic ks us) v):∃ a kvs,v=.ref a∧c.H a=some (.dK kvs)∧kvs.map (·.1)=ks.map Sum.inr∧ah C (SK C c k) c.H us (kvs.map (·.2)):=by
 cases k with
 |own=>obtain ⟨r,e,_,_,_,kvs,h1,h2,h3⟩:=h;exact ⟨r,kvs,e,h1,h2,h3⟩
 |loc=>obtain ⟨a,e,_,kvs,h1,h2,h3⟩:=h;exact ⟨a,kvs,e,h1,h2,h3⟩
 |any=>obtain ⟨a,e,_,kvs,h1,h2,h3⟩:=h;exact ⟨a,kvs,e,h1,h2,h3⟩
 |bor j=>obtain ⟨r,e,_,_,_,kvs,h1,h2,h3⟩:=ok.rootOf h.1 h.2;exact ⟨r,kvs,e,h1,h2,h3⟩
 |io=>exact h.elim
 |ownD=>exact h.elim
theorem aG.pG {k:Kd}{ks:List dr}{v:V} (ok:Ok C c) (h:aG C c0 c k (.rdc ks) v):∃ a,v=.ref a∧dI C.P C.w C.K c.H a ks:=by
 cases k with
 |own=>obtain ⟨r,e,_,_,_,h⟩:=h;exact ⟨r,e,h⟩
 |loc=>obtain ⟨a,e,_,h⟩:=h;exact ⟨a,e,h⟩
 |any=>obtain ⟨a,e,_,h⟩:=h;exact ⟨a,e,h⟩
 |bor j=>obtain ⟨r,e,_,_,_,h⟩:=ok.rootOf h.1 h.2;exact ⟨r,e,h⟩
 |io=>exact h.elim
 |ownD=>exact h.elim
theorem eG {S:Addr→Prop}{H:Hp}{x:Str}:∀ {ks:List Str}{us:List U}{kvs:List (Key×V)},kvs.map (·.1)=ks.map Sum.inr→ah C S H us (kvs.map (·.2)) →
  (∀ u,kU ks us x=some u→∃ v,fK kvs (Sum.inr x)=some v∧Rep C S H u v)∧(fK kvs (Sum.inr x)).isSome=decide (x∈ks)
 |[],us,kvs,h1,h2=>by
  have:kvs=[]:=by simpa using h1
  subst this
  exact ⟨fun u h=>by cases us <;> simp [kU] at h,by simp [fK]⟩
 |k::ks,us,[],h1,h2=>by simp at h1
 |k::ks,[],p::kvs,h1,h2=>by simp [ah] at h2
 |k::ks,u0::us,p::kvs,h1,h2=>by
  obtain ⟨v,r,e,h3,h4⟩:=h2
  rw [List.map_cons] at e
  cases e
  rw [List.map_cons,List.map_cons,List.cons.injEq] at h1
  obtain ⟨i1,i2⟩:=eG (x:=x) h1.2 h4
  by_cases hk:k=x
  ·subst hk
   refine ⟨fun u h=>?_,?_⟩
   ·simp [kU] at h
    subst h
    exact ⟨p.2,dR h1.1,h3⟩
   ·rw [dR h1.1];simp
  ·have hp:¬ p.1=Sum.inr x:=by rw [h1.1];intro z;exact hk (Sum.inr.inj z)
   refine ⟨fun u h=>?_,?_⟩
   ·simp [kU,hk] at h
    obtain ⟨v,e,q⟩:=i1 u h
    exact ⟨v,by rw [dS hp];exact e,q⟩
   ·rw [dS hp,i2]
    simp [Ne.symm hk]
theorem xv (hu:X.A.units+3<cLine):OpR X (compareOp .In) (fun x y H Q=>∃ k d ks,dW X.K H x k∧y=.ref d∧dI X.prog X.w X.K H d ks∧Q (.bl (decide (k∈ks))) H):=by
 intro pins s σ H x y v u Q I rx ry h
 obtain ⟨k,d,ks,⟨a,b,rfl,h1,h2⟩,rfl,⟨xs,h3,h4,h5⟩,q⟩:=h
 cases rx
 cases ry
 obtain ⟨hd,dd⟩:=ip I h3 h5
 refine wpAny_in_heap hu (gS I ⟨a,b,rfl,h1,h2⟩) hd dd ?_
 exact ⟨.bl (decide (k∈ks)),H,I.tok _,by rw [ff,h4];rfl,q⟩
theorem Rep.row {S:Addr→Prop}{H:Hp}{r:dr}{v:V} (h:Rep C S H (yQ r) v):dW C.K H v r:=by
 obtain ⟨a,vs,e,h1,v1,r1,e1,h2,v2,r2,e2,h3,h4⟩:=h
 cases h4
 have e3:v1=.str r.1:=h2
 obtain ⟨b,ws,e4,h5,h6⟩:=h3
 rw [ah.strs] at h6
 subst e1 e2 e3 e4 h6
 exact ⟨a,b,e,h1,h5⟩
theorem sx {op:Cop}{x y:Kd×U}{b:Bool}{vx vy:V}{v u:Value} (hP:C.P=X.prog) (hw:C.w=X.w) (hK:C.K=X.K) (hu:X.A.units+60<cLine) (t:At2 C c0 c x y vx vy) (I:Inv X pins c.σ c.H s) (rx:RelV vx v) (ry:RelV vy u) (h:bz op x.2 y.2=some b) :
  wpAny (model X.prog X.w) X.A (compareOp op.op v u) (xu X pins c b) X.xe s:=by
 obtain ⟨hσ,ok,n,tx,ty,_⟩:=t
 obtain ⟨kx,ux⟩:=x
 obtain ⟨ky,uy⟩:=y
 dsimp only at h tx ty
 have has:∀ neg:Bool,∀ b',uV ux uy=some b'→wpAny (model X.prog X.w) X.A (compareOp (if neg then .NotIn else .In) v u) (xu X pins c (if neg then !b' else b')) X.xe s:=by
  intro neg b' h
  have mx:=tx.read ok
  have my:=ty.read ok
  unfold uV at h
  split at h
  ·obtain ⟨a,vs,rfl,h1,h2⟩:=my
   cases ry
   unfold inU at h
   split at h
   ·rename_i hh
    cases h
    exact yP I hK hu mx rx h2 (.inl h1.sq) hh.1 hh.2 ⟨by cases neg <;> rfl,I⟩
   ·cases h
  ·obtain ⟨a,vs,rfl,h1,h2⟩:=my
   cases ry
   unfold inU at h
   split at h
   ·rename_i hh
    cases h
    exact yP I hK hu mx rx h2 (.inr h1) hh.1 hh.2 ⟨by cases neg <;> rfl,I⟩
   ·cases h
  ·cases h
   have ex:vx=_:=mx
   obtain ⟨a,kvs,rfl,h1,h2,h3⟩:=ty.dict ok
   cases ry
   subst ex
   have hs:=fun z:Str=>(eG (x:=z) h2 h3).2
   cases neg with
   |false=>exact Ax (by omega) I (jm.k (k:=Sum.inr _) h1) rx fun s' I'=>⟨by rw [hs];rfl,I'⟩
   |true=>exact uC (by omega) I (jm.k (k:=Sum.inr _) h1) rx fun s' I'=>⟨by rw [hs];rfl,I'⟩
  ·rw [Option.map_eq_some_iff] at h
   obtain ⟨r,h1,h2⟩:=h
   have e:=iK h1
   subst e
   have hr:=mx.row
   obtain ⟨a,ea,h3⟩:=ty.pG ok
   rw [hK] at hr h3
   rw [hP,hw] at h3
   subst h2
   cases neg with
   |false=>exact fZ (xv (by omega)) I rx ry ⟨r,a,_,hr,ea,h3,rfl,rfl⟩
   |true=>exact fZ (qH (by omega)) I rx ry ⟨r,a,_,hr,ea,h3,rfl,rfl⟩
  ·cases h
 unfold bz at h
 split at h
 ·split at h
  ·rename_i hh
   cases h
   exact AE I hK _ _ vx vy v u 50 X.A hh.1 hh.2 (tx.read ok) (ty.read ok) rx ry (by omega) _ _ _ _ ⟨rfl,I⟩
  ·cases h
 ·split at h
  ·rename_i hh
   cases h
   exact xr I hK _ _ vx vy v u 50 X.A hh.1 hh.2 (tx.read ok) (ty.read ok) rx ry (by omega) _ _ _ _ ⟨rfl,I⟩
  ·cases h
 ·cases h;exact fZ yA I rx ry ⟨_,_,tx.int ok,ty.int ok,rfl,rfl⟩
 ·cases h;exact fZ yB I rx ry ⟨_,_,tx.int ok,ty.int ok,rfl,rfl⟩
 ·cases h;exact fZ yC I rx ry ⟨_,_,tx.int ok,ty.int ok,rfl,rfl⟩
 ·exact has false b h
 ·rw [Option.map_eq_some_iff] at h
  obtain ⟨b',h1,rfl⟩:=h
  exact has true b' h1
 ·cases h
variable {a b d : Expr} {ma mb md : M (Kd × U)} {pos : Pos}
theorem uY {op:Cop} (hP:C.P=X.prog) (hw:C.w=X.w) (hK:C.K=X.K) (hu:X.A.units+60<cLine) (ha:PE X a (tEv C ma)) (hb:PE X b (tEv C mb)) (hm:behindInMarks op.op b=false) :
  PE X (.Compare a [op.op] [b] pos) (tEv C (ma >>= fun x=>mb >>= fun y=>ar [x,y] >>= fun _=>M.ofO (bz op x.2 y.2) >>= fun c=>pure (.loc,.bl c))):=by
 rintro pins s σ H Q I ⟨c0,rfl,rfl,ok,h⟩
 refine wpAny_Compare1 (two ha hb I ok h fun x y c vx vy v u s2 t I2 rx ry w=>?_) hm
 rw [ag] at w
 obtain ⟨r,e,q⟩:=bQ.mp w
 rw [ai] at q
 refine thn (sx hP hw hK hu t I2 rx ry e) fun z s' ⟨e,I'⟩=>?_
 subst e
 exact ⟨.bl r,c.H,by rw [←t.hσ];exact I',rfl,q c (.bl r) t.hσ rfl t.ok t.nx rfl⟩
theorem uZ {op:Cop} (hP:C.P=X.prog) (hw:C.w=X.w) (hK:C.K=X.K) (hu:X.A.units+60<cLine) (ha:PE X a (tEv C ma)) (hb:PE X b (tEv C mb)) (hm:behindInMarks op.op b=false) :
  PT X (.Compare a [op.op] [b] pos) (tTs C (ma >>= fun x=>mb >>= fun y=>ar [x,y] >>= fun _=>M.ofO (bz op x.2 y.2))):=by
 rintro pins s σ H Q I ⟨c0,rfl,rfl,ok,h⟩
 refine wpAny_isTrue_Compare1 (two (f:=fun v u=>compareOp op.op v u) (Q':=fun _ _ c s=>wpAny (model X.prog X.w) X.A (truthy c) (TP X pins c0.σ Q) X.xe s) ha hb I ok h fun x y c vx vy v u s2 t I2 rx ry w=>?_) hm
 obtain ⟨r,e,q⟩:=bQ.mp w
 refine thn (sx hP hw hK hu t I2 rx ry e) fun z s' ⟨e,I'⟩=>?_
 subst e
 exact wpAny_truthy_bool ⟨c.H,by rw [←t.hσ];exact I',q c t.hσ rfl t.ok t.nx⟩
end
end TM
namespace TM
open PySem L2 PyProof.Rows
section
variable {X : Cx} {C : Ct} {pins : List (Addr × Obj)} {s : Shared} {c0 c c1 : Cf}
variable {a b d : Expr} {ma mb md : M (Kd × U)} {ta tb : M Bool} {pos : Pos} {rest : List Expr}
noncomputable def yR (C:Ct) (c0:Cf) (Q:Bool→Hp→Prop) (b:Bool) (st':ak):Prop:=∀ c,c.σ=c0.σ→c.st=st'→Ok C c→Nx c0 c→Q b c.H
theorem sy {m:M (Kd×U)}{Q:VK} (hσ:c1.σ=c0.σ) (ok:Ok C c1) (n:Nx c0 c1) (h:W m c1.st (bR C c0 Q)):tEv C m c0.σ c1.H Q :=
 ⟨c1,hσ,rfl,ok,h.mono fun r st h2 c2 v e3 e4 ok2 n2 r2=>h2 c2 v e3 e4 ok2 (n.trans n2) (r2.from n)⟩
theorem sA {m:M Bool}{Q:Bool→Hp→Prop} (hσ:c1.σ=c0.σ) (ok:Ok C c1) (n:Nx c0 c1) (h:W m c1.st (yR C c0 Q)):tTs C m c0.σ c1.H Q :=
 ⟨c1,hσ,rfl,ok,h.mono fun r st h2 c2 e3 e4 ok2 n2=>h2 c2 e3 e4 ok2 (n.trans n2)⟩
theorem aZ {β:Type}{k:Kd×U→M β}{Post:β→ak→Prop}{Z:V→Hp→Prop} (ok:Ok C c0) (h:W (ma >>= k) c0.st Post)
  (hz:∀ x c v,At1 C c0 c x v→W (k x) c.st Post→Z v c.H):tEv C ma c0.σ c0.H Z:=by
 rw [ag] at h
 exact ⟨c0,rfl,rfl,ok,h.mono fun x st1 h1 c1 vx e1 e2 ok1 n1 r1=>hz x c1 vx ⟨e1,ok1,n1,r1⟩ (by rw [e2];exact h1)⟩
theorem d8 {β:Type}{k:Bool→M β}{Post:β→ak→Prop}{Z:Bool→Hp→Prop} (ok:Ok C c0) (h:W (ta >>= k) c0.st Post)
  (hz:∀ b c,c.σ=c0.σ→Ok C c→Nx c0 c→W (k b) c.st Post→Z b c.H):tTs C ta c0.σ c0.H Z:=by
 rw [ag] at h
 exact ⟨c0,rfl,rfl,ok,h.mono fun x st1 h1 c1 e1 e2 ok1 n1=>hz x c1 e1 ok1 n1 (by rw [e2];exact h1)⟩
noncomputable def yS (m:M (Kd×U)) (x:Kd×U):M (Kd×U):=match x.2 with
 |.bl true=>m
 |.bl false=>pure (.loc,.bl false)
 |_=>M.fail
noncomputable def orK (m:M (Kd×U)) (x:Kd×U):M (Kd×U):=match x.2 with
 |.bl true=>pure (.loc,.bl true)
 |.bl false=>m
 |_=>M.fail
noncomputable def yT (x:Kd×U):M (Kd×U):=match x.2 with
 |.bl c=>pure (.loc,.bl !c)
 |_=>M.fail
theorem snd_and (ha:PE X a (tEv C ma)) (hb:PE X (.BoolOp .And (b::rest) pos) (tEv C mb)):PE X (.BoolOp .And (a::b::rest) pos) (tEv C (ma >>= yS mb)):=by
 refine PE.weak (wB ha hb) ?_
 rintro σ H Q ⟨c0,rfl,rfl,ok,h⟩
 refine aZ ok h fun x c v t w=>?_
 obtain ⟨k,u⟩:=x
 obtain ⟨hσ,ok1,n,r⟩:=t
 unfold yS at w
 split at w
 ·rename_i e
  dsimp only at e r
  subst e
  exact ⟨true,r.bl ok1,by rw [if_pos rfl];exact sy hσ ok1 n w⟩
 ·rename_i e
  dsimp only at e r
  subst e
  rw [ai] at w
  exact ⟨false,r.bl ok1,by rw [if_neg Bool.false_ne_true];exact w c (.bl false) hσ rfl ok1 n rfl⟩
 ·exact (aq.mp w).elim
theorem xw (ha:PE X a (tEv C ma)) (hb:PE X (.BoolOp .Or (b::rest) pos) (tEv C mb)):PE X (.BoolOp .Or (a::b::rest) pos) (tEv C (ma >>= orK mb)):=by
 refine PE.weak (yo ha hb) ?_
 rintro σ H Q ⟨c0,rfl,rfl,ok,h⟩
 refine aZ ok h fun x c v t w=>?_
 obtain ⟨k,u⟩:=x
 obtain ⟨hσ,ok1,n,r⟩:=t
 unfold orK at w
 split at w
 ·rename_i e
  dsimp only at e r
  subst e
  rw [ai] at w
  exact ⟨true,r.bl ok1,by rw [if_pos rfl];exact w c (.bl true) hσ rfl ok1 n rfl⟩
 ·rename_i e
  dsimp only at e r
  subst e
  exact ⟨false,r.bl ok1,by rw [if_neg Bool.false_ne_true];exact sy hσ ok1 n w⟩
 ·exact (aq.mp w).elim
theorem u3 (ha:PE X a (tEv C ma)):PE X (.UnaryOp .Not a pos) (tEv C (ma >>= yT)):=by
 refine PE.weak (wC ha) ?_
 rintro σ H Q ⟨c0,rfl,rfl,ok,h⟩
 refine aZ ok h fun x c v t w=>?_
 obtain ⟨k,u⟩:=x
 obtain ⟨hσ,ok1,n,r⟩:=t
 unfold yT at w
 split at w
 ·rename_i e
  dsimp only at e r
  subst e
  rw [ai] at w
  exact ⟨_,r.bl ok1,w c (.bl _) hσ rfl ok1 n rfl⟩
 ·exact (aq.mp w).elim
theorem u4 (ha:PT X a (tTs C ta)):PT X (.UnaryOp .Not a pos) (tTs C (ta >>= fun b=>pure !b)):=by
 refine PT.weak (wA ha) ?_
 rintro σ H Q ⟨c0,rfl,rfl,ok,h⟩
 refine d8 ok h fun p c hσ ok1 n w=>?_
 rw [ai] at w
 exact w c hσ rfl ok1 n
theorem u5 (ha:PT X a (tTs C ta)) (hb:PW X (.BoolOp .And (b::rest) pos) (tTs C tb)):PW X (.BoolOp .And (a::b::rest) pos) (tTs C (ta >>= fun p=>if p=true then tb else pure false)):=by
 have h0:=wz ha hb
 rintro wh pins s σ H Q I ⟨c0,rfl,rfl,ok,h⟩
 refine h0 wh pins s c0.σ c0.H Q I (d8 ok h fun p c hσ ok1 n w=>?_)
 cases p with
 |true=>rw [if_pos rfl] at w ⊢;exact sA hσ ok1 n w
 |false=>rw [if_neg Bool.false_ne_true] at w ⊢;rw [ai] at w;exact w c hσ rfl ok1 n
theorem xx (ha:PT X a (tTs C ta)) (hb:PW X (.BoolOp .Or (b::rest) pos) (tTs C tb)):PW X (.BoolOp .Or (a::b::rest) pos) (tTs C (ta >>= fun p=>if p=true then pure true else tb)):=by
 have h0:=yl ha hb
 rintro wh pins s σ H Q I ⟨c0,rfl,rfl,ok,h⟩
 refine h0 wh pins s c0.σ c0.H Q I (d8 ok h fun p c hσ ok1 n w=>?_)
 cases p with
 |true=>rw [if_pos rfl] at w ⊢;rw [ai] at w;exact w c hσ rfl ok1 n
 |false=>rw [if_neg Bool.false_ne_true] at w ⊢;exact sA hσ ok1 n w
theorem pM {α β:Type}{us:List α}{vs:List β} (h:us.length=vs.length):(!us.isEmpty)=!vs.isEmpty:=by
 cases us <;> cases vs <;> simp_all
theorem cO (ha:PE X a (tEv C ma)) (hK:C.K=X.K) (he:∀ whole,isTrue a X.env whole=(do let v ←whole;standAt a.pos;holding [v] (truthy v))):PT X a (tTs C (ma >>= fun x=>M.ofO (jz x.2))):=by
 refine PT.weak (rH ha he) ?_
 rintro σ H Q ⟨c0,rfl,rfl,ok,h⟩
 refine aZ ok h fun x c v t w=>?_
 obtain ⟨k,u⟩:=x
 obtain ⟨hσ,ok1,n,r⟩:=t
 obtain ⟨p,e,q⟩:=bQ.mp w
 dsimp only at e r
 refine ⟨p,?_,q c hσ rfl ok1 n⟩
 unfold jz at e
 split at e
 ·cases e
  rw [r.bl ok1]
  rfl
 ·cases e
  obtain ⟨a,vs,rfl,h1,h2⟩:=r.list ok1
  exact .inl ⟨vs,hK ▸ h1,pM h2.len⟩
 ·cases e
  obtain ⟨a,vs,rfl,h1,h2⟩:=r.tuple ok1
  rw [hK] at h1
  exact .inr (.inl ⟨vs,h1,pM h2.len⟩)
 ·split at e
  ·cases e
   rw [r.str ok1]
   exact ⟨by assumption,rfl⟩
  ·cases e
 ·cases e
end
end TM
namespace TM
open PySem L2 PyProof.Rows
section
variable {X : Cx} {C : Ct} {pins : List (Addr × Obj)} {s : Shared} {c0 c c1 : Cf}
variable {a b d e : Expr} {es : List Expr} {m ma mb md : M (Kd × U)} {ms : M (List (Kd × U))} {ta tb : M Bool} {pos p : Pos}
theorem cJ.from {rs:List (Kd×U)}{vs:List V} (n:Nx c0 c1):cJ C c1 c rs vs→cJ C c0 c rs vs:=by
 intro h
 induction rs generalizing vs with
 |nil=>exact h
 |cons r rs ih=>obtain ⟨v,t,e,h1,h2,h3⟩:=h;exact ⟨v,t,e,h1.from n,ih h2,h3⟩
theorem cJ.get {rs:List (Kd×U)}{vs:List V}{i:Nat}{r:Kd×U}{v:V} (h:cJ C c0 c rs vs) (e:rs[i]?=some r) (e':vs[i]?=some v):d5 C c0 c r.1 r.2 v:=by
 induction rs generalizing vs i with
 |nil=>simp at e
 |cons r' rs ih =>
  obtain ⟨v',t,rfl,h1,h2,h3⟩:=h
  cases i with
  |zero=>simp at e e';subst e e';exact h1
  |succ i=>exact ih h2 (by simpa using e) (by simpa using e')
theorem u6:PA X [] (tEs C (pure [])):=by
 rintro pos pins s σ H Q I ⟨c0,rfl,rfl,ok,h⟩
 rw [ai] at h
 exact kn pos pins s c0.σ c0.H Q I (h c0 [] rfl rfl ok (Nx.refl c0) rfl)
theorem sC (ha:PE X e (tEv C m)) (hr:PA X es (tEs C ms)) (hs:starEach (e::es) X.env=(false,eval e X.env)::starEach es X.env):PA X (e::es) (tEs C (m >>= fun r=>ms >>= fun rs=>pure (r::rs))):=by
 rintro pos pins s σ H Q I ⟨c0,rfl,rfl,ok,h⟩
 refine fG ha hr hs pos pins s c0.σ c0.H Q I (aZ ok h fun r c1 v t w=>?_)
 rw [ag] at w
 refine ⟨c1,t.hσ,rfl,t.ok,w.mono fun rs st2 h2 c2 vs e3 e4 ok2 n2 r2=>?_⟩
 rw [ai] at h2
 refine h2 c2 (v::vs) e3 e4 ok2 (t.nx.trans n2) ⟨v,vs,rfl,t.rx.w.on t.ok n2 (e3.trans t.hσ.symm),r2.from t.nx,fun hk i r' v' e5 e6 hk'=>?_⟩
 exact kY t.rx.w (r2.get e5 e6) hk hk'
structure Ats (C:Ct) (c0 c:Cf) (rs:List (Kd×U)) (vs:List V):Prop where
 hσ:c.σ=c0.σ
 ok:Ok C c
 nx:Nx c0 c
 rep:cJ C c0 c rs vs
 stb:ba rs c.st
theorem args {β:Type}{k:List (Kd×U)→M β}{Post:β→ak→Prop} (ha:PA X es (tEs C ms)) (I:Inv X pins c0.σ c0.H s) (ok:Ok C c0) (h:W (ms >>= fun rs=>ar rs >>= fun _=>k rs) c0.st Post) (pos:Pos) :
  wpAny (model X.prog X.w) X.A (spliced (backTo pos (starEach es X.env))) (fun us s1=>∃ rs c vs,Ats C c0 c rs vs∧Inv X pins c.σ c.H s1∧Vals vs us∧W (k rs) c.st Post) X.xe s:=by
 rw [ag] at h
 refine thn (ha pos pins s c0.σ c0.H (fun vs H1=>∃ rs c,c.H=H1∧Ats C c0 c rs vs∧W (k rs) c.st Post) I ⟨c0,rfl,rfl,ok,h.mono fun rs st1 h1 c1 vs e1 e2 ok1 n1 r1=>?_⟩) ?_
 ·rw [ag,bT] at h1
  subst e2
  exact ⟨rs,c1,rfl,⟨e1,ok1,n1,r1,h1.1⟩,h1.2⟩
 ·rintro us s1 ⟨vs,H1,I1,rv,rs,c1,rfl,t,w⟩
  exact ⟨rs,c1,vs,t,by rw [t.hσ];exact I1,rv,w⟩
theorem Ats.one {r:Kd×U}{vs:List V} (t:Ats C c0 c [r] vs):∃ v,vs=[v]∧aG C c0 c r.1 r.2 v:=by
 obtain ⟨v,t',rfl,h1,h2,_⟩:=t.rep
 cases h2
 exact ⟨v,rfl,h1.t t.stb⟩
theorem Ats.two {r r':Kd×U}{vs:List V} (t:Ats C c0 c [r,r'] vs):∃ v v',vs=[v,v']∧aG C c0 c r.1 r.2 v∧aG C c0 c r'.1 r'.2 v':=by
 obtain ⟨v,t',rfl,h1,⟨v',t'',rfl,h2,h3,_⟩,_⟩:=t.rep
 cases h3
 have hs:=eF.mp t.stb
 exact ⟨v,v',rfl,h1.t hs.1,h2.t hs.2⟩
theorem Ok.share (ok:Ok C c) {r:Addr}{st':ak} (h0:C.H₀ r=none) (hH:∃ o,c.H r=some o) (hl:st'.length=c.st.length)
  (hst:∀ (i:Nat) k u,st'[i]?=some (some (k,u))→(∃ v,c.σ[i]?=some (some v)∧d0 C (fun a=>c.S a∨a=r) c.H k u v)∧(k.root=true→c.st[i]?=some (some (k,u)))) (hdd:DOk C { c with S:=fun a=>c.S a∨a=r,st:=st' }) :
  Ok C { c with S:=fun a=>c.S a∨a=r,st:=st' }:=by
 refine ⟨ok.same,fun a z=>?_,ok.par,ok.io,by rw [show ({ c with S:=fun a=>c.S a∨a=r,st:=st' }:Cf).st.length=st'.length from rfl,hl];exact ok.len,fun i k u e=>(hst i k u e).1,fun i j k k' u u' r' hk hk' e1 e2 e3 e4=>?_,hdd⟩
 ·rcases z with z|rfl
  ·exact ok.sfr a z
  ·exact ⟨h0,hH⟩
 ·exact ok.inj i j k k' u u' r' hk hk' ((hst i k u e1).2 hk) ((hst j k' u' e2).2 hk') e3 e4
theorem Ok.xy (ok0:Ok C c0) (ok:Ok C c) (n:Nx c0 c) {r:Addr} (h0:c0.H r=none) (hR:¬ c.R r) {u:U} (hr:cN C c.S c.H r u) :
  Ok C { c with S:=fun a=>c.S a∨a=r }∧Nx c0 { c with S:=fun a=>c.S a∨a=r }:=by
 obtain ⟨o,ho,_⟩:=hr.some
 refine ⟨ok.share (st':=c.st) (ok0.oe h0).1 ⟨o,ho⟩ rfl (fun i k u e=>⟨?_,fun _=>e⟩) (ok.dd.hs (.up fun a=>.inl) fun j a z=>⟨fun q=>q.elim (ok.root (.inr ⟨j,z⟩)).1 fun e=>hR (.inr ⟨j,e ▸ z⟩),fun o q=>q⟩),⟨⟨n.keep,n.there,n.roots,fun a z=>.inl (n.sub a z),fun a z=>?_⟩,n.all⟩⟩
 ·obtain ⟨v,e1,e2⟩:=ok.sl i k u e
  have mup:Mv c.S c.H (fun a=>c.S a∨a=r) c.H:=.up fun a=>.inl
  refine ⟨v,e1,e2.mv mup (.up fun a z=>z.imp id .inl) fun hk r' er=>⟨?_,fun o q=>q⟩⟩
  obtain ⟨r'',er',q1,_⟩:=e2.rt hk
  rw [er] at er'
  cases er'
  rintro (z|rfl)
  ·exact q1 z
  ·exact hR (.inl ⟨i,k,u,hk,e,by rw [e1,er]⟩)
 ·rcases z with z|rfl
  ·exact n.new a z
  ·exact .inr (.inr h0)
theorem Ok.sD (ok:Ok C c) (n:Nx c0 c) {j:Nat}{u:U}{r:Addr} (hj:c.st[j]?=some (some (.own,u))) (hv:c.σ[j]?=some (some (.ref r))) :
  Ok C { c with S:=fun a=>c.S a∨a=r,st:=c.st.set j (some (.loc,u)) }∧Nx c0 { c with S:=fun a=>c.S a∨a=r,st:=c.st.set j (some (.loc,u)) }∧Rep C (fun a=>c.S a∨a=r) c.H u (.ref r):=by
 obtain ⟨v',e1,r',er,q1,q2,q3,q4⟩:=ok.sl j _ _ hj
 rw [hv] at e1
 cases e1
 cases er
 have hrep:Rep C (fun a=>c.S a∨a=r) c.H u (.ref r):=q4.rep (fun a=>.inl) (.inr rfl)
 obtain ⟨o,ho,_⟩:=q4.some
 have hjl:j<c.st.length:=(List.getElem?_eq_some_iff.mp hj).1
 have oth:∀ (i:Nat) k u',(c.st.set j (some (.loc,u)))[i]?=some (some (k,u'))→i≠j→c.st[i]?=some (some (k,u')):=fun i k u' e ne=>by rw [List.getElem?_set_ne (Ne.symm ne)] at e;exact e
 have hR1:c.R1 r:=⟨j,.own,u,rfl,hj,hv⟩
 have dD:∀ (i:Nat) (u':U),(c.st.set j (some (.loc,u)))[i]?=some (some (.ownD,u'))→c.st[i]?=some (some (.ownD,u')):=fun i u' e=>by
  by_cases hij:i=j
  ·subst hij
   rw [List.getElem?_set_self hjl] at e
   cases e
  ·exact oth i .ownD u' e hij
 have b1:∀ a,({ c with S:=fun a=>c.S a∨a=r,st:=c.st.set j (some (.loc,u)) }:Cf).R1 a→c.R1 a:=fun a hIx=>by
  obtain ⟨i,k,u',hk,e,e'⟩:=hIx
  by_cases hij:i=j
  ·subst hij
   rw [List.getElem?_set_self hjl] at e
   cases e
   cases hk
  ·exact ⟨i,k,u',hk,oth i k u' e hij,e'⟩
 have hdd:DOk C { c with S:=fun a=>c.S a∨a=r,st:=c.st.set j (some (.loc,u)) }:=ok.dd.of rfl (fun i u' e=>⟨dD i u' e,rfl⟩) (fun a z=>.inl (b1 a z)) (.up fun a=>.inl) fun i a z=>⟨fun q=>q.elim (ok.root (.inr ⟨i,z⟩)).1 fun e=>ok.dd.d1 i a z (e ▸ hR1),fun o q=>q⟩
 refine ⟨ok.share (st':=c.st.set j (some (.loc,u))) q3 ⟨o,ho⟩ (by simp) (fun i k u' e=>?_) hdd,⟨⟨n.keep,n.there,fun a z=>?_,fun a z=>.inl (n.sub a z),fun a z=>?_⟩,n.all⟩,hrep⟩
 ·by_cases hij:i=j
  ·subst hij
   rw [List.getElem?_set_self hjl] at e
   cases e
   exact ⟨⟨.ref r,hv,hrep⟩,fun z=>nomatch z⟩
  ·have e0:=oth i k u' e hij
   obtain ⟨v,e1,e2⟩:=ok.sl i k u' e0
   refine ⟨⟨v,e1,e2.mv (.up fun a=>.inl) (.up fun a z=>z.imp id .inl) fun hk r' er=>⟨?_,fun o q=>q⟩⟩,fun _=>e0⟩
   obtain ⟨r'',er',p1,_⟩:=e2.rt hk
   rw [er] at er'
   cases er'
   rintro (z|rfl)
   ·exact p1 z
   ·exact hij (ok.inj i j k .own u' u r' hk rfl e0 hj (by rw [e1,er]) hv)
 ·rcases z with z|⟨i,u',r',e1,e2,e3⟩
  ·exact n.roots a (.inl (b1 a z))
  ·exact n.roots a (.inr ⟨i,u',r',dD i u' e1,e2,e3⟩)
 ·rcases z with z|rfl
  ·exact n.new a z
  ·rcases n.roots a (.inl ⟨j,.own,u,rfl,hj,hv⟩) with z|z
   ·exact .inr (.inl z)
   ·exact .inr (.inr z)
theorem kZ {r:Kd×U}{v:V}{Post:U→ak→Prop} (ok0:Ok C c0) (ok:Ok C c) (n:Nx c0 c) (hr:d5 C c0 c r.1 r.2 v) (h:W (lift r) c.st Post) :
  ∃ (S':Addr→Prop) (st':ak) (u:U),(∀ a,c.S a→S' a)∧Ok C { c with S:=S',st:=st' }∧Nx c0 { c with S:=S',st:=st' }∧Rep C S' c.H u v∧Post u st' ∧
   (∀ a,S' a→c.S a∨v=.ref a∧(r.1=.own∨c.R a))∧∀ a,({ c with S:=S',st:=st' }:Cf).R a→c.R a:=by
 obtain ⟨k,u⟩:=r
 cases k with
 |own =>
  rw [show lift (.own,u)=pure u from rfl,ai] at h
  obtain ⟨r,e,h1,h2,h3,h4⟩:=hr
  obtain ⟨ok',n'⟩:=Ok.xy ok0 ok n h1 h3 h4
  refine ⟨_,c.st,u,fun a=>.inl,ok',n',by rw [e];exact h4.rep (fun a=>.inl) (.inr rfl),h,fun a z=>?_,fun a z=>z⟩
  rcases z with z|rfl
  ·exact .inl z
  ·exact .inr ⟨e,.inl rfl⟩
 |loc =>
  rw [show lift (.loc,u)=pure u from rfl,ai] at h
  exact ⟨c.S,c.st,u,fun a=>id,ok,n,hr,h,fun a z=>.inl z,fun a z=>z⟩
 |any =>
  rw [show lift (.any,u)=if imm u=true then pure u else M.fail from rfl] at h
  split at h
  ·rw [ai] at h
   exact ⟨c.S,c.st,u,fun a=>id,ok,n,Rep.imm (by assumption) hr,h,fun a z=>.inl z,fun a z=>z⟩
  ·exact (aq.mp h).elim
 |io=>exact hr.elim
 |ownD=>exact hr.elim
 |bor j =>
  obtain ⟨x,st',e,hp⟩:=h
  rw [show lift (.bor j,u) c.st=match c.st[j]? with|some (some (.own,u))=>some (Ex.ok u,c.st.set j (some (.loc,u)))|_=>none from rfl] at e
  split at e
  ·rename_i w hj
   cases e
   obtain ⟨v',e1,r,er,_⟩:=ok.sl j _ _ hj
   have hv:c.σ[j]?=some (some v):=hr
   rw [hv] at e1
   cases e1
   subst er
   obtain ⟨ok',n',rep⟩:=ok.sD n hj hv
   refine ⟨_,_,_,fun a=>.inl,ok',n',rep,hp,fun a z=>?_,fun a z=>?_⟩
   ·rcases z with z|rfl
    ·exact .inl z
    ·exact .inr ⟨rfl,.inr (.inl ⟨j,.own,_,rfl,hj,hv⟩)⟩
   ·rcases z with ⟨i,k,u',hk,e,e'⟩|⟨i,u',r',e,e',e''⟩
    rotate_left 1
    ·by_cases hij:i=j
     ·subst hij
      have hjl:i<c.st.length:=(List.getElem?_eq_some_iff.mp hj).1
      rw [List.getElem?_set_self hjl] at e
      cases e
     ·rw [List.getElem?_set_ne (Ne.symm hij)] at e
      exact .inr ⟨i,u',r',e,e',e''⟩
    by_cases hij:i=j
    ·subst hij
     have hjl:i<c.st.length:=(List.getElem?_eq_some_iff.mp hj).1
     rw [List.getElem?_set_self hjl] at e
     cases e
     cases hk
    ·rw [List.getElem?_set_ne (Ne.symm hij)] at e
     exact .inl ⟨i,k,u',hk,e,e'⟩
  ·cases e
theorem f6:∀ {rs:List (Kd×U)}{vs:List V}{c:Cf}{Post:List U→ak→Prop},Ok C c0→Ok C c→Nx c0 c→cJ C c0 c rs vs→W (cw rs) c.st Post →
  ∃ (S':Addr→Prop) (st':ak) (us:List U),(∀ a,c.S a→S' a)∧Ok C { c with S:=S',st:=st' }∧Nx c0 { c with S:=S',st:=st' }∧ah C S' c.H us vs∧Post us st'
 |[],vs,c,Post,ok0,ok,n,hr,h=>by
  rw [show cw []=pure [] from rfl,ai] at h
  exact ⟨c.S,c.st,[],fun a=>id,ok,n,hr,h⟩
 |r::rs,vs,c,Post,ok0,ok,n,hr,h=>by
  obtain ⟨v,t,rfl,h1,h2,h3⟩:=hr
  rw [show cw (r::rs)=lift r >>= fun u=>cw rs >>= fun us=>pure (u::us) from rfl,ag] at h
  obtain ⟨S1,st1,u,s1,ok1,n1,rep1,h4,hS1,hR1⟩:=kZ ok0 ok n h1 h
  rw [ag] at h4
  have hr2:cJ C c0 { c with S:=S1,st:=st1 } rs t:=by
   clear h h4
   have aux:∀ (l:List (Kd×U)) (w:List V),cJ C c0 c l w→(r.1=.own→∀ (i:Nat) r' v',l[i]?=some r'→w[i]?=some v'→r'.1=.own→v'≠v)→cJ C c0 { c with S:=S1,st:=st1 } l w:=by
    intro l
    induction l with
    |nil=>intro w q _;exact q
    |cons r2 l ih =>
     intro w q hne
     obtain ⟨v2,t2,rfl,q1,q2,q3⟩:=q
     refine ⟨v2,t2,rfl,?_,ih t2 q2 (fun hk i r' v' e1 e2 hk'=>hne hk (i+1) r' v' (by simpa using e1) (by simpa using e2) hk'),q3⟩
     obtain ⟨k2,u2⟩:=r2
     cases k2 with
     |own =>
      obtain ⟨a,e,p1,p2,p3,p4⟩:=q1
      refine ⟨a,e,p1,fun z=>?_,fun z=>p3 (hR1 a z),p4.mv (.up s1) fun o q=>q⟩
      rcases hS1 a z with z|⟨z,z'|z'⟩
      ·exact p2 z
      ·exact hne z' 0 _ v2 rfl rfl rfl (e.trans z.symm)
      ·exact p3 z'
     |loc=>exact Rep.mv (.up s1) q1
     |any=>exact Rep.mv (.up fun a z=>z.imp id (s1 a)) q1
     |bor j=>exact q1
     |io=>exact q1
     |ownD=>exact q1
   exact aux rs t h2 h3
  obtain ⟨S2,st2,us,s2,ok2,n2,rep2,h5⟩:=f6 (c:={ c with S:=S1,st:=st1 }) ok0 ok1 n1 hr2 h4
  rw [ai] at h5
  exact ⟨S2,st2,u::us,fun a z=>s2 a (s1 a z),ok2,n2,⟨v,t,rfl,rep1.mv (.up s2),rep2⟩,h5⟩
theorem u7 {x1:Nat} (ha:PA X es (tEs C ms)):PE X (.Tuple es x1 pos) (tEv C (ms >>= fun rs=>ar rs >>= fun _=>cw rs >>= fun us=>if us.length≤sizeLine then pure (.loc,.tup us) else M.fail)):=by
 rintro pins s σ H Q I ⟨c0,rfl,rfl,ok,h⟩
 refine wpAny_Tuple_spliced (thn (args ha I ok h pos) fun us s1 ⟨rs,c,vs,t,I1,rv,w⟩=>?_)
 rw [ag] at w
 obtain ⟨S',st',ws,s1',ok1,n1,rep,w1⟩:=f6 ok t.ok t.nx t.rep w
 split at w1
 ·rename_i hz
  rw [ai] at w1
  have hl:vs.length≤sizeLine:=by rw [←rep.len];exact hz
  refine ⟨by rw [←rv.length];exact hl,?_⟩
  have hf:c.H s1.heap.objs.size=none:=I1.hok.fresh (Nat.le_refl _)
  have I2:Inv X pins c0.σ c.H s1:=by rw [←t.hσ];exact I1
  refine ⟨.ref s1.heap.objs.size,upd c.H s1.heap.objs.size (.tup vs),I2.laid (t':=s1.toks) (fun b u e=>Heap.get?_push_of_some _ e) (Nat.le_refl _) ⟨hl,us,rv,IsTup.new _ _⟩,rfl,?_⟩
  exact bR.tup (c:={ c with S:=S',st:=st' }) w1 t.hσ ok1 n1 rep _ hf
 ·exact (aq.mp w1).elim
theorem u9 (ha:PA X es (tEs C ms)):PE X (.List es pos) (tEv C (ms >>= fun rs=>ar rs >>= fun _=>cw rs >>= fun us=>if us.length≤sizeLine then pure (.own,.lst us) else M.fail)):=by
 rintro pins s σ H Q I ⟨c0,rfl,rfl,ok,h⟩
 refine wpAny_List_spliced (thn (args ha I ok h pos) fun us s1 ⟨rs,c,vs,t,I1,rv,w⟩=>?_)
 rw [ag] at w
 obtain ⟨S',st',ws,s1',ok1,n1,rep,w1⟩:=f6 ok t.ok t.nx t.rep w
 split at w1
 ·rename_i hz
  rw [ai] at w1
  have hl:vs.length≤sizeLine:=by rw [←rep.len];exact hz
  refine ⟨by rw [←rv.length];exact hl,?_⟩
  have hf:c.H s1.heap.objs.size=none:=I1.hok.fresh (Nat.le_refl _)
  have I2:Inv X pins c0.σ c.H s1:=by rw [←t.hσ];exact I1
  refine ⟨.ref s1.heap.objs.size,upd c.H s1.heap.objs.size (.lst vs),I2.laid (t':=s1.toks) (fun b u e=>Heap.get?_push_of_some _ e) (Nat.le_refl _) ⟨hl,us,0,rv,Heap.get?_push_size _ rfl⟩,rfl,?_⟩
  exact bR.list (c:={ c with S:=S',st:=st' }) w1 t.hσ ok1 n1 rep _ hf
 ·exact (aq.mp w1).elim
end
end TM
namespace TM
open PySem L2 PyProof.Rows
section
variable {X : Cx} {C : Ct} {pins : List (Addr × Obj)} {s : Shared} {c0 c c1 : Cf}
variable {a b d e : Expr} {es : List Expr} {m ma mb md : M (Kd × U)} {ms : M (List (Kd × U))} {ta tb : M Bool} {pos p : Pos}
theorem pN {i:Nat}{x:Str} (hN:X.N[i]?=some x) (hv:Vis X.env.scope x) (hd:(x==("__debug__":Str))=false) (hcd:(x==("__classdict__":Str))=false):PE X (.Name x pos) (tEv C (d6 i)):=by
 refine PE.weak (hJ hN hv hd hcd) ?_
 rintro σ H Q ⟨c0,rfl,rfl,ok,r,st',e,h⟩
 unfold d6 at e
 split at e
 ·cases e
 ·rename_i k u hnD hs
  cases e
  obtain ⟨v,e1,e2⟩:=ok.sl i k u hs
  refine ⟨v,e1,h c0 v rfl rfl ok (Nx.refl c0) ?_⟩
  by_cases hk:k.root=true
  ·rw [if_pos hk];exact ⟨⟨k,hk,hs⟩,e1⟩
  ·rw [if_neg hk]
   cases k with
   |own=>exact absurd rfl hk
   |io=>exact absurd rfl hk
   |loc=>exact e2
   |any=>exact e2
   |bor j=>exact e2.elim
   |ownD=>exact (hnD rfl).elim
 ·cases e
theorem eI {u:U}{v:V} (h:PE X e (tC v)) (r:∀ S H,Rep C S H u v):PE X e (tEv C (pure (.loc,u))):=by
 refine PE.weak h ?_
 rintro σ H Q ⟨c0,rfl,rfl,ok,h⟩
 rw [ai] at h
 exact h c0 v rfl rfl ok (Nx.refl c0) (r _ _)
theorem bR.root {u:U}{o:HO}{Q:VK} (h:bR C c0 Q (.own,u) c.st) (hσ:c.σ=c0.σ) (ok:Ok C c) (n:Nx c0 c) (p:Addr) (hp:c.H p=none) (r:cN C c.S (upd c.H p o) p u):Q (.ref p) (upd c.H p o):=by
 obtain ⟨ok',n'⟩:=ok.lay (o:=o) hp
 obtain ⟨h0,h1,h2,h3,h4⟩:=ok.oe hp
 exact h { c with H:=upd c.H p o } _ hσ rfl ok' (n.trans n') ⟨p,rfl,n.none hp,h1,h4,r⟩
theorem sE (hP:C.P=X.prog) (hw:C.w=X.w) (r:Bool):PE X (.Dict [] [] pos) (tEv C (pure (.own,if r=true then .rdc [] else .dic [] []))):=by
 cases r with
 |false =>
  refine PE.weak rP ?_
  rintro σ H Q ⟨c0,rfl,rfl,ok,h⟩ p hp
  rw [ai,if_neg Bool.false_ne_true] at h
  exact bR.root h rfl ok (Nx.refl c0) p hp ⟨[],aR,rfl,rfl⟩
 |true =>
  refine PE.weak uI ?_
  rintro σ H Q ⟨c0,rfl,rfl,ok,h⟩ p hp
  rw [ai,if_pos rfl] at h
  refine bR.root h rfl ok (Nx.refl c0) p hp ⟨[],?_,rfl,fun x hx=>by cases hx⟩
  rw [hP,hw]
  exact aR
theorem ah.atI {S:Addr→Prop}{H:Hp}{us:List U}{vs:List V}{i:Int}{u:U} (h:ah C S H us vs) (e:atI us i=some u):∃ v,L2.atI vs i=some v∧Rep C S H u v:=by
 unfold L2.atI at e ⊢
 rw [h.len] at e
 cases q:ixN vs.length i with
 |none=>rw [q] at e;cases e
 |some j =>
  rw [q] at e
  exact h.get e
theorem xA {x y r:Kd×U}{vx vy:V}{v u:Value}{Q:VK} (hK:C.K=X.K) (hu:X.A.units+60<cLine) (hs:kq b) (t:At2 C c0 c x y vx vy) (I:Inv X pins c.σ c.H s) (rx:RelV vx v) (ry:RelV vy u) (h:eR x y.2=some r) (q:bR C c0 Q r c.st) :
  wpAny (model X.prog X.w) X.A (subscriptTail a b v u) (EP X pins c.σ Q) X.xe s:=by
 obtain ⟨hσ,ok,n,tx,ty,-⟩:=t
 obtain ⟨ky,uy⟩:=y
 dsimp only at h ty
 unfold eR at h
 split at h
 ·rename_i k xs i
  rw [Option.map_eq_some_iff] at h
  obtain ⟨w,e,rfl⟩:=h
  obtain ⟨a',vs,ex,h1,h2⟩:=tx.list ok
  obtain ⟨vw,e1,e2⟩:=h2.atI e
  exact uw a b pins s c.σ c.H vx vy v u Q I rx ry ⟨a',vs,i,vw,ex,ty.int ok,hK ▸ h1,e1,q c vw hσ rfl ok n (aG.item e2)⟩ (hs _ _)
 ·rename_i k xs i
  rw [Option.map_eq_some_iff] at h
  obtain ⟨w,e,rfl⟩:=h
  obtain ⟨a',vs,ex,h1,h2⟩:=tx.tuple ok
  obtain ⟨vw,e1,e2⟩:=h2.atI e
  rw [hK] at h1
  exact wX a b pins s c.σ c.H vx vy v u Q I rx ry ⟨a',vs,i,vw,ex,ty.int ok,h1,e1,q c vw hσ rfl ok n (aG.item e2)⟩ (hs _ _)
 ·split at h
  ·rw [Option.map_eq_some_iff] at h
   obtain ⟨w,e,rfl⟩:=h
   exact ib a b pins s c.σ c.H vx vy v u Q I rx ry ⟨_,_,w,tx.str ok,ty.int ok,by assumption,e,q c _ hσ rfl ok n rfl⟩ (hs _ _)
  ·cases h
 ·rename_i k ks us x
  rw [Option.map_eq_some_iff] at h
  obtain ⟨w,e,rfl⟩:=h
  obtain ⟨a',kvs,ex,h1,h2,h3⟩:=tx.dict ok
  obtain ⟨vw,e1,e2⟩:=(eG (x:=x) h2 h3).1 w e
  have ey:=ty.str ok
  subst ex ey
  cases rx
  have g:jm c.H a' (.str x) (some vw):=by rw [←e1];exact jm.k (k:=Sum.inr x) h1
  exact tail_any (ops:=[.ref a',u]) (l5 I g) PySem.F.slot_dict_getitem.lookup (qF (by omega) I g ry fun w' s3 I3 rw'=>⟨vw,c.H,I3,rw',q c vw hσ rfl ok n (aG.item e2)⟩) (hs _ _)
 ·cases h
theorem pO (hK:C.K=X.K) (hu:X.A.units+60<cLine) (hs:kq b) (ha:PE X a (tEv C ma)) (hb:PE X b (tEv C mb)):PE X (.Subscript a b pos) (tEv C (ma >>= fun x=>mb >>= fun y=>ar [x,y] >>= fun _=>M.ofO (eR x y.2))):=by
 rintro pins s σ H Q I ⟨c0,rfl,rfl,ok,h⟩
 refine Subscript_ (two ha hb I ok h fun x y c vx vy v u s2 t I2 rx ry w=>?_)
 obtain ⟨r,e,q⟩:=bQ.mp w
 exact thn (xA hK hu hs t I2 rx ry e q) fun _ _ z=>by rw [t.hσ] at z;exact z
theorem ah.cut {S:Addr→Prop}{H:Hp}{us:List U}{vs:List V} (h:ah C S H us vs) (lo hi:Option Int):ah C S H (TM.cut us lo hi) (lW vs lo hi):=by
 unfold TM.cut lW
 rw [h.len]
 exact (h.drop _).take _
theorem qR {α:Type}{xs:List α}{lo hi:Option Int} (h:HT.sIx xs.length 0 lo=0∧HT.sIx xs.length xs.length hi=xs.length):cut xs lo hi=xs:=by
 unfold cut
 rw [h.1,h.2]
 simp
end
end TM
namespace TM
open PySem L2 PyProof.Rows
section
variable {prog : Program} {w : World} {A : Around} {E : Value → Shared → Prop} {s : Shared}
theorem eT {t sl:Addr}{items:Array Value}{vl vu:Value}{lo hi:Option Int}{Q:Value→Shared→Prop} (ht:IsTup s.heap t items) (hs:s.heap.IsSliceOf sl vl vu .none) (pl:IsPart vl lo) (pu:IsPart vu hi)
  (hw:HT.sIx items.size 0 lo=0∧HT.sIx items.size items.size hi=items.size) (h:Q (.ref t) s):wpAny (model prog w) A (getItem (.ref t) (.ref sl)) Q E s:=by
 obtain ⟨os,hos,hcs,hds⟩:=id hs
 have hTs:s.TypeIs (.ref sl) "slice":=⟨os,hos,hcs⟩
 unfold getItem
 try with_reducible refine wpAny_holding ?_
 first|refine wpAny_bind (wpAny_pure ?_)|skip
 refine wpAny_bind (wpAny_sequenceKey ht.typeIs (by decide) ?_)
 refine wpAny_bind (wpAny_callSpecial?_slot (name:=Str.ofString "__getitem__") ht.typeIs PyProof.Rows.slot_tuple_getitem
  (wpAny_call_entry PyProof.Rows.slot_tuple_getitem ht.typeIs entry_tuple_getitem ?_ (args_tuple_getitem _ _)))
 show wpAny _ _ (Builtin.Tuple.tupleItemsOf (.ref t) >>= _) _ _ s
 refine wpAny_bind (tupleItemsOf_ ht ?_)
 refine wpAny_bind (wpAny_typeOf hTs ?_)
 rw [if_pos (by decide)]
 refine wpAny_bind (HT.cX hs pl pu ?_)
 have hyes:(((HT.sIx items.size 0 lo:Nat):Int)==0&&(1:Int)==1&&(HT.sIx items.size items.size hi - HT.sIx items.size 0 lo)==items.size)=true:=by
  rw [hw.1,hw.2]
  simp
 show wpAny _ _ (if (((HT.sIx items.size 0 lo:Nat):Int)==0&&(1:Int)==1&&(HT.sIx items.size items.size hi - HT.sIx items.size 0 lo)==items.size)=true then _ else _) _ _ s
 rw [if_pos hyes]
 show wpAny (model prog w) A.in1 ((typeOf (Value.ref t) >>= fun x=>pure (x==.type "tuple")) >>= _) _ _ s
 refine wpAny_bind (wpAny_bind (wpAny_typeOf ht.typeIs (wpAny_pure ?_)))
 rw [if_pos (by decide)]
 exact wpAny_bind (wpAny_rule (wpAny_pure ⟨_,rfl,wpAny_pure h⟩))
end
section
variable {X : Cx} {C : Ct} {pins : List (Addr × Obj)} {s : Shared} {c0 c c1 : Cf}
variable {a b d e : Expr} {es : List Expr} {m ma mb md : M (Kd × U)} {ms : M (List (Kd × U))} {ta tb : M Bool} {pos p p2 : Pos}
theorem u_:SlR X (fun x lo hi H Q=>∃ a xs,x=.ref a∧SqT X.K H a xs∧(HT.sIx xs.length 0 lo=0∧HT.sIx xs.length xs.length hi=xs.length)∧Q (.ref a) H):=by
 intro pins s σ H x v vl vu lo hi sl Q I rx hs pl pu h
 obtain ⟨a,xs,rfl,hx,hw,q⟩:=h
 cases rx
 obtain ⟨its,r,ht,hz⟩:=I.tuple hx
 have hlen:its.toArray.size=xs.length:=by rw [List.size_toArray];exact r.length.symm
 exact ⟨"tuple",_,PyProof.Rows.slot_tuple_getitem.lookup,ht.typeIs,eT ht hs pl pu (by rw [hlen];exact hw) ⟨.ref a,H,I,rfl,q⟩⟩
noncomputable def tO (C:Ct) (m:M (Option Int)):TO:=fun σ H Q=>∃ c0:Cf,c0.σ=σ∧c0.H=H∧Ok C c0∧W m c0.st fun i st'=>∀ c,c.σ=σ→c.st=st'→Ok C c→Nx c0 c→Q i c.H
theorem gi:PO X none (tO C (pure none)):=by
 rintro pins s σ H Q I ⟨c0,rfl,rfl,ok,h⟩
 rw [ai] at h
 exact ur pins s c0.σ c0.H Q I (h c0 rfl rfl ok (Nx.refl c0))
theorem qS (ha:PE X a (tEv C ma)):PO X (some a) (tO C (ma >>= xp)):=by
 rintro pins s σ H Q I ⟨c0,rfl,rfl,ok,h⟩
 refine uu ha pins s c0.σ c0.H Q I (aZ ok h fun x c v t w=>?_)
 obtain ⟨k,u⟩:=x
 unfold xp at w
 split at w
 ·rename_i i e
  dsimp only at e
  subst e
  rw [ai] at w
  exact ⟨i,t.rx.int t.ok,w c t.hσ rfl t.ok t.nx⟩
 ·exact (aq.mp w).elim
theorem xB {x r:Kd×U}{vx:V}{lo hi:Option Int}{Q:VK} (hK:C.K=X.K) (hσ:c.σ=c0.σ) (ok:Ok C c) (n:Nx c0 c) (tx:aG C c0 c x.1 x.2 vx) (h:jy x lo hi=some r) (q:bR C c0 Q r c.st) :
  ((yJ X.K vx lo hi c.H Q∨yH X.K vx lo hi c.H Q)∨(∃ a xs,vx=.ref a∧SqT X.K c.H a xs∧(HT.sIx xs.length 0 lo=0∧HT.sIx xs.length xs.length hi=xs.length)∧Q (.ref a) c.H))∨yO vx lo hi c.H Q:=by
 unfold jy at h
 split at h
 ·split at h
  ·rename_i hh
   cases h
   obtain ⟨a',vs,ex,h1,h2⟩:=tx.list ok
   exact .inl (.inl (.inl ⟨a',vs,ex,hK ▸ h1,fun p hp=>q.list hσ ok n ((cK hh h2).cut lo hi) p hp⟩))
  ·cases h
 ·cases h
  obtain ⟨a',vs,ex,h1,h2⟩:=tx.tuple ok
  have h1':=h1
  rw [hK] at h1'
  by_cases hw:HT.sIx vs.length 0 lo=0∧HT.sIx vs.length vs.length hi=vs.length
  ·refine .inl (.inr ⟨a',vs,ex,h1',hw,?_⟩)
   refine q c (.ref a') hσ rfl ok n (aG.item ⟨a',vs,rfl,h1,?_⟩)
   rw [qR (by rw [h2.len];exact hw)]
   exact h2
  ·exact .inl (.inl (.inr ⟨a',vs,ex,h1',hw,fun p hp=>q.tupK hσ ok n (h2.cut lo hi) p hp⟩))
 ·split at h
  ·cases h
   exact .inr ⟨_,tx.str ok,by assumption,q.flat hσ ok n rfl⟩
  ·cases h
 ·cases h
theorem va {lo hi:Option Expr}{ml mh:M (Option Int)} (hK:C.K=X.K) (ha:PE X a (tEv C ma)) (hl:PO X lo (tO C ml)) (hh:PO X hi (tO C mh)) :
  PE X (.Subscript a (.Slice lo hi none p2) pos) (tEv C (ma >>= fun x=>ml >>= fun l=>mh >>= fun h=>ar [x] >>= fun _=>M.ofO (jy x l h))):=by
 refine PE.weak (rK (((SlR.or uz wW).or u_).or xb) ha hl hh) ?_
 rintro σ H Q ⟨c0,rfl,rfl,ok,h⟩
 refine aZ ok h fun x c v t w=>?_
 rw [ag] at w
 refine ⟨c,t.hσ,rfl,t.ok,w.mono fun l st2 h2 c2 e1 e2 ok2 n2=>?_⟩
 subst e2
 rw [ag] at h2
 refine ⟨c2,e1,rfl,ok2,h2.mono fun l' st3 h3 c3 e3 e4 ok3 n3=>?_⟩
 subst e4
 rw [ag,bT] at h3
 obtain ⟨r,e,q⟩:=bQ.mp h3.2
 have n13:Nx c c3:=n2.trans n3
 exact xB hK e3 ok3 (t.nx.trans n13) ((t.rx.w.on t.ok n13 (e3.trans t.hσ.symm)).t h3.1) e q
end
end TM
namespace TM
open PySem L2 PyProof.Rows
section
variable {X : Cx} {C : Ct} {pins : List (Addr × Obj)} {s : Shared} {c0 c c1 : Cf}
variable {a b d e : Expr} {es : List Expr} {m ma mb md : M (Kd × U)} {ms : M (List (Kd × U))} {ta tb : M Bool} {pos p p2 : Pos}
noncomputable def Bf.val:Bf→Value
 |.len=>.builtin "len"|.sorted=>.builtin "sorted"|.repr=>.builtin "repr"|.max=>.builtin "max"|.min=>.builtin "min"|.all=>.builtin "all"|.any=>.builtin "any"
 |.list=>.type "list"|.tuple=>.type "tuple"|.str=>.type "str"|.int=>.type "int"
 |.dict=>.type "dict"
noncomputable def Bf.name:Bf→Str
 |.len=>"len"|.sorted=>"sorted"|.repr=>"repr"|.max=>"max"|.min=>"min"|.all=>"all"|.any=>"any"
 |.list=>"list"|.tuple=>"tuple"|.str=>"str"|.int=>"int"
 |.dict=>"dict"
theorem call_of {f:Value}{r:List V→Hp→VK→Prop} (hc:gx X f r) {vs:List V}{us:List Value}{Q:VK} (I:Inv X pins c.σ c.H s) (rv:Vals vs us) (h:r vs c.H Q):wpAny (model X.prog X.w) X.A (call f us) (EP X pins c.σ Q) X.xe s:=hc pins s c.σ c.H vs us Q I rv h
theorem ah.prv {S:Addr→Prop}{H:Hp}:∀ {ps:List (Str×Str)},ah C S H (ps.map fun p=>U.str p.2) (ps.map ((·.2) ∘ fun p:Str×Str=>((Sum.inr p.1:Key),V.str p.2)))
 |[]=>rfl
 |p::ps=>⟨_,_,rfl,rfl,ah.prv⟩
theorem ah.prs {S:Addr→Prop}{H:Hp} (hK:C.K=X.K):∀ {us:List U}{ps:List (Str×Str)}{vs:List V},iF us=some ps→ah C S H us vs→∃ as:List Addr,vs=as.map V.ref∧as.length=ps.length∧∀ (j:Nat) a p,as[j]?=some a→ps[j]?=some p→SqT X.K H a [.str p.1,.str p.2]
 |[],ps,vs,e,h=>by
  cases e
  cases h
  exact ⟨[],rfl,rfl,by simp⟩
 |u::us,ps,vs,e,h=>by
  obtain ⟨v,r,rfl,h1,h2⟩:=h
  unfold iF at e
  split at e
  ·rename_i e0
   cases e0
  ·rename_i x y us' e0
   cases e0
   rw [Option.map_eq_some_iff] at e
   obtain ⟨qs,e,rfl⟩:=e
   obtain ⟨as,rfl,g1,g2⟩:=ah.prs hK e h2
   obtain ⟨a,ws,rfl,z1,z2⟩:=h1
   obtain ⟨w1,ws',rfl,y1,y2⟩:=z2
   obtain ⟨w2,ws'',rfl,y3,y4⟩:=y2
   cases y1
   cases y3
   cases y4
   rw [hK] at z1
   refine ⟨a::as,rfl,by simp [g1],fun j b p e1 e2=>?_⟩
   cases j with
   |zero=>simp at e1 e2;subst e1 e2;exact z1
   |succ j=>exact g2 j b p (by simpa using e1) (by simpa using e2)
  ·cases e
theorem bp {β:Type}{f:Kd×U→Option β}{rs:List (Kd×U)}{r:β} (h:eS f rs=some r):∃ x,rs=[x]∧f x=some r:=by
 unfold eS at h
 split at h
 ·exact ⟨_,rfl,h⟩
 ·cases h
theorem v5 {f:Bf}{rs:List (Kd×U)}{r:Kd×U}{vs:List V}{us:List Value}{Q:VK} (hc:X.calm=true) (hK:C.K=X.K) (hgd:X.A.guards=some []) (hun:X.A.units+60<cLine) (t:Ats C c0 c rs vs) (I:Inv X pins c.σ c.H s) (rv:Vals vs us) (h:biU f rs=some r) (q:bR C c0 Q r c.st) :
  wpAny (model X.prog X.w) X.A (call f.val us) (EP X pins c.σ Q) X.xe s:=by
 have hσ:=t.hσ
 have ok:=t.ok
 have n:=t.nx
 cases f with
 |len =>
  obtain ⟨x,rfl,hz⟩:=bp (f:=fun x=>(xh x.2).map fun (n:Nat)=>(Kd.loc,U.int (n:Int))) h
  clear h
  have h:=hz
  clear hz
  rw [Option.map_eq_some_iff] at h
  obtain ⟨k,e,rfl⟩:=h
  obtain ⟨v,rfl,tx⟩:=t.one
  obtain ⟨kx,ux⟩:=x
  unfold xh at e
  split at e
  ·rename_i xs hx
   have hx:ux=.lst xs:=hx
   subst hx
   cases e
   obtain ⟨a',ws,ex,h1,h2⟩:=tx.list ok
   rw [h2.len] at q
   exact call_of fI I rv ⟨a',ws,by rw [ex],.inl (hK ▸ h1),q.flat hσ ok n rfl⟩
  ·rename_i xs hx
   have hx:ux=.tup xs:=hx
   subst hx
   cases e
   obtain ⟨a',ws,ex,h1,h2⟩:=tx.tuple ok
   rw [hK] at h1
   rw [h2.len] at q
   exact call_of fI I rv ⟨a',ws,by rw [ex],.inr h1,q.flat hσ ok n rfl⟩
  ·rename_i xs hx
   have hx:ux=.str xs:=hx
   subst hx
   split at e
   ·cases e
    exact call_of ku I rv ⟨_,by rw [tx.str ok],by assumption,q.flat hσ ok n rfl⟩
   ·cases e
  ·cases e
 |sorted =>
  obtain ⟨x,rfl,hz⟩:=bp (f:=xi) h
  clear h
  have h:=hz
  clear hz
  obtain ⟨v,rfl,tx⟩:=t.one
  unfold xi at h
  split at h
  ·rw [Option.bind_eq_some_iff] at h
   obtain ⟨ss,e,h⟩:=h
   have e':=bw e
   subst e'
   obtain ⟨a',ws,ex,h1,h2⟩:=tx.list ok
   rw [ah.strs] at h2
   subst h2
   split at h
   ·cases h
    exact call_of gD I rv ⟨a',ss,by rw [ex],.inl (hK ▸ h1),by assumption,fun p hp=>q.list hσ ok n (ah.strs.mpr rfl) p hp⟩
   ·cases h
  ·rw [Option.bind_eq_some_iff] at h
   obtain ⟨ss,e,h⟩:=h
   have e':=bw e
   subst e'
   obtain ⟨a',ws,ex,h1,h2⟩:=tx.tuple ok
   rw [hK] at h1
   rw [ah.strs] at h2
   subst h2
   split at h
   ·cases h
    exact call_of gD I rv ⟨a',ss,by rw [ex],.inr h1,by assumption,fun p hp=>q.list hσ ok n (ah.strs.mpr rfl) p hp⟩
   ·cases h
  ·cases h
 |list =>
  obtain ⟨x,rfl,hz⟩:=bp (f:=xj) h
  clear h
  have h:=hz
  clear hz
  obtain ⟨v,rfl,tx⟩:=t.one
  unfold xj at h
  split at h
  ·obtain ⟨a',ws,ex,h1,h2⟩:=tx.list ok
   split at h
   ·cases h
    exact call_of fJ I rv ⟨a',ws,by rw [ex],.inl (hK ▸ h1),fun p hp=>q.list hσ ok n (cK (by assumption) h2) p hp⟩
   ·cases h
  ·obtain ⟨a',ws,ex,h1,h2⟩:=tx.tuple ok
   rw [hK] at h1
   split at h
   ·cases h
    exact call_of fJ I rv ⟨a',ws,by rw [ex],.inr h1,fun p hp=>q.list hσ ok n (cK (by assumption) h2) p hp⟩
   ·cases h
  ·cases h
 |tuple =>
  obtain ⟨x,rfl,hz⟩:=bp (f:=xk) h
  clear h
  have h:=hz
  clear hz
  obtain ⟨v,rfl,tx⟩:=t.one
  unfold xk at h
  split at h
  ·obtain ⟨a',ws,ex,h1,h2⟩:=tx.list ok
   cases h
   exact call_of eV I rv ⟨a',ws,by rw [ex],.inl ⟨hK ▸ h1,fun p hp=>q.tupK hσ ok n h2 p hp⟩⟩
  ·obtain ⟨a',ws,ex,h1,h2⟩:=tx.tuple ok
   have h1':=h1
   rw [hK] at h1'
   cases h
   exact call_of eV I rv ⟨a',ws,by rw [ex],.inr ⟨h1',q c (.ref a') hσ rfl ok n (aG.item ⟨a',ws,rfl,h1,h2⟩)⟩⟩
  ·cases h
 |str =>
  obtain ⟨x,rfl,hz⟩:=bp (f:=sm) h
  clear h
  have h:=hz
  clear hz
  obtain ⟨v,rfl,tx⟩:=t.one
  unfold sm at h
  split at h
  ·split at h
   ·cases h
    exact call_of km I rv ⟨_,by rw [tx.int ok],by assumption,q.flat hσ ok n rfl⟩
   ·cases h
  ·cases h
 |any =>
  obtain ⟨x,rfl,hz⟩:=bp (f:=xl) h
  clear h
  have h:=hz
  clear hz
  obtain ⟨v,rfl,tx⟩:=t.one
  unfold xl at h
  split at h
  ·rw [Option.map_eq_some_iff] at h
   obtain ⟨bs,e,rfl⟩:=h
   have e':=iJ e
   subst e'
   obtain ⟨a',ws,ex,h1,h2⟩:=tx.list ok
   have:=h2.bls
   subst this
   exact call_of (sf hc) I rv ⟨a',bs,by rw [ex],hK ▸ h1,q.flat hσ ok n rfl⟩
  ·cases h
 |dict =>
  obtain ⟨x,rfl,hz⟩:=bp (f:=xm) h
  clear h
  have h:=hz
  clear hz
  obtain ⟨v,rfl,tx⟩:=t.one
  obtain ⟨u,rfl,rr⟩:=vals1 rv
  unfold xm at h
  split at h
  ·obtain ⟨ps,e,h⟩:=Option.bind_eq_some_iff.mp h
   obtain ⟨a',ws,ex,h1,h2⟩:=tx.list ok
   subst ex
   cases rr
   obtain ⟨as,rfl,hl,ht⟩:=ah.prs hK e h2
   split at h
   ·cases h
    exact uN hc I (hK ▸ h1) hl ht (by assumption) fun d hd=>q.root hσ ok n d hd ⟨_,aR,by rw [List.map_map,List.map_map];rfl,by rw [List.map_map];exact ah.prv⟩
   ·cases h
  ·cases h
 |_=>cases h
theorem vb {f:Bf}{x:Str}{id:String} (hc:X.calm=true) (hK:C.K=X.K) (hgd:X.A.guards=some []) (hun:X.A.units+60<cLine) (hf:f.val=.builtin id) (hg:Gl X x) (hm:X.mg x=none) (hv:bootBuiltins x=some (.builtin id)) (hn:x≠"__name__") (hdb:(x==("__debug__":Str))=false)
  (ha:PA X (e::es) (tEs C ms)) (he:starEach (e::es) X.env=(false,eval e X.env)::starEach es X.env) (hpl:(backTo pos (starEach es X.env)).any (·.1)=false) :
  PE X (.Call (.Name x p) (e::es) [] pos) (tEv C (ms >>= fun rs=>ar rs >>= fun _=>M.ofO (biU f rs))):=by
 rintro pins s σ H Q I ⟨c0,rfl,rfl,ok,h⟩
 refine wpAny_Call_Name_kw (dm I hg hm hv ?_ hn hdb)
 refine PyProof.Rows.callWith_builtin1 (thn (args ha I ok h pos) fun us s1 ⟨rs,c,vs,t,I1,rv,w⟩=>?_) he hpl
 obtain ⟨r,e,q⟩:=bQ.mp w
 have z:=v5 hc hK hgd hun t I1 rv e q
 rw [hf,t.hσ] at z
 exact z
theorem vc {f:Bf}{x:Str}{T:String} (hc:X.calm=true) (hK:C.K=X.K) (hgd:X.A.guards=some []) (hun:X.A.units+60<cLine) (hf:f.val=.type T) (hg:Gl X x) (hm:X.mg x=none) (hv:bootBuiltins x=some (.type T)) (hn:x≠"__name__") (hdb:(x==("__debug__":Str))=false)
  (ha:PA X (e::es) (tEs C ms)) (he:starEach (e::es) X.env=(false,eval e X.env)::starEach es X.env) (hpl:(backTo pos (starEach es X.env)).any (·.1)=false) :
  PE X (.Call (.Name x p) (e::es) [] pos) (tEv C (ms >>= fun rs=>ar rs >>= fun _=>M.ofO (biU f rs))):=by
 rintro pins s σ H Q I ⟨c0,rfl,rfl,ok,h⟩
 refine wpAny_Call_Name_kw (dm I hg hm hv ?_ hn hdb)
 refine PyProof.Rows.callWith_type1 (thn (args ha I ok h pos) fun us s1 ⟨rs,c,vs,t,I1,rv,w⟩=>?_) he hpl
 obtain ⟨r,e,q⟩:=bQ.mp w
 have z:=v5 hc hK hgd hun t I1 rv e q
 rw [hf,t.hσ] at z
 exact z
noncomputable def Ty5.name:Ty5→Str
 |.str=>"str"|.list=>"list"|.tuple=>"tuple"|.int=>"int"|.bool=>"bool"
noncomputable def Ty5.nm:Ty5→String
 |.str=>"str"|.list=>"list"|.tuple=>"tuple"|.int=>"int"|.bool=>"bool"
theorem vd (T:Ty5):bootBuiltins T.name=some (.type T.nm)∧T.name≠"__name__"∧(T.name==("__debug__":Str))=false:=by
 cases T <;> exact ⟨by decide +kernel,by decide +kernel,by decide +kernel⟩
theorem k5 (T:Ty5):typeOf (.type T.nm)=pure (.type "type"):=by cases T <;> kernel_rfl
theorem pP (T:Ty5):isSubtype (.type "str") (.type T.nm)=pure (decide (T=.str)):=by cases T <;> (rw [isSubtype_type];kernel_rfl)
theorem sub_int (T:Ty5):isSubtype (.type "int") (.type T.nm)=pure (decide (T=.int)):=by cases T <;> (rw [isSubtype_type];kernel_rfl)
theorem ne_str {T:Ty5} (h:¬ T=.str):(Value.type "str"==Value.type T.nm)=false:=by cases T <;> first|exact absurd rfl h|decide
theorem ne_int {T:Ty5} (h:¬ T=.int):(Value.type "int"==Value.type T.nm)=false:=by cases T <;> first|exact absurd rfl h|decide
theorem xC {x:Kd×U}{v:V}{val:Value}{T:Ty5}{b:Bool}{Q:Value→Shared→Prop} (hK:C.K=X.K) (t:At1 C c0 c x v) (I:Inv X pins c.σ c.H s) (rv:RelV v val) (h:oi x.2 T=some b) (q:∀ tk,Q (.bool b) { s with toks:=tk }) :
  wpAny (model X.prog X.w) X.A (call (.builtin "isinstance") [val,.type T.nm]) Q X.xe s:=by
 obtain ⟨k,u⟩:=x
 obtain ⟨hσ,ok,n,r⟩:=t
 have q0:Q (.bool b) s:=q s.toks
 dsimp only at h r
 have yes:∀ {Tx:String},b=true→s.TypeIs val Tx→isSubtype (.type Tx) (.type T.nm)=pure true→wpAny (model X.prog X.w) X.A (call (.builtin "isinstance") [val,.type T.nm]) Q X.xe s:=fun e hx hs=>by
  subst e
  exact PyProof.Rows.call_isinstance_yes hx (k5 T) hs q0
 unfold oi at h
 split at h
 ·cases h
  have e:v=_:=r.str ok
  subst e
  obtain ⟨tk,rfl⟩:=rv
  by_cases hT:T=.str
  ·subst hT;exact yes (by simp) (typeIs_str s _ tk) (pP .str)
  ·rw [decide_eq_false hT] at q
   exact call_isinstance (isinstance_false_str (ne_str hT) (k5 T) (by rw [pP,decide_eq_false hT])) (q _)
 ·cases h
  have e:v=_:=r.int ok
  subst e
  obtain ⟨tk,rfl⟩:=rv
  by_cases hT:T=.int
  ·subst hT;exact yes (by simp) (typeIs_int s _ tk) (sub_int .int)
  ·rw [decide_eq_false hT] at q
   exact call_isinstance (isinstance_false_int (ne_int hT) (k5 T) (by rw [sub_int,decide_eq_false hT])) (q _)
 ·cases h
  have e:v=_:=r.bl ok
  subst e
  cases rv
  exact yes rfl (PySem.typeIs_bool s _) (by rw [isSubtype_type];kernel_rfl)
 ·cases h
  have e:v=_:=r.bl ok
  subst e
  cases rv
  exact yes rfl (PySem.typeIs_bool s _) (by rw [isSubtype_type];kernel_rfl)
 ·cases h
  obtain ⟨a',ws,rfl,h1,h2⟩:=r.list ok
  cases rv
  rw [hK] at h1
  obtain ⟨its,_,pl,_⟩:=I.list h1
  obtain ⟨o,ho,hc,_⟩:=pl.isList
  exact yes rfl ⟨o,ho,hc⟩ (by rw [isSubtype_type];kernel_rfl)
 ·cases h
  obtain ⟨a',ws,rfl,h1,h2⟩:=r.tuple ok
  cases rv
  rw [hK] at h1
  obtain ⟨its,_,⟨o,ho,hc,_⟩,_⟩:=I.tuple h1
  exact yes rfl ⟨o,ho,hc⟩ (by rw [isSubtype_type];kernel_rfl)
 ·cases h
theorem pQ {T:Ty5} (hK:C.K=X.K) (hg:Gl X "isinstance") (hm:X.mg "isinstance"=none) (hg2:Gl X T.name) (hm2:X.mg T.name=none) (ha:PE X a (tEv C ma)) (hs:starEach [a,.Name T.name p2] X.env=(false,eval a X.env)::starEach [.Name T.name p2] X.env) :
  PE X (.Call (.Name "isinstance" p) [a,.Name T.name p2] [] pos) (tEv C (ma >>= fun x=>M.ofO (oi x.2 T) >>= fun b=>pure (.loc,.bl b))):=by
 rintro pins s σ H Q I ⟨c0,rfl,rfl,ok,h⟩
 obtain ⟨t1,t2,t3⟩:=vd T
 refine wpAny_Call_Name_kw (dm I hg hm (show bootBuiltins "isinstance"=some (.builtin "isinstance") by decide +kernel) ?_ (by decide +kernel) (by decide +kernel))
 refine PyProof.Rows.callWith_builtin1 (thn (fG ha (fG (uc (v:=.ty T.nm) hg2 hm2 t1 rfl t2 t3) kn) hs pos pins s c0.σ c0.H (fun vs H'=>∃ x c v b,At1 C c0 c x v∧c.H=H'∧vs=[v,.ty T.nm]∧oi x.2 T=some b∧bR C c0 Q (.loc,.bl b) c.st) I ?_) fun us s1 ⟨vs,H1,I1,r1,x,c,v,b,t,e,e2,hb,w⟩=>?_) hs (by rfl)
 ·refine aZ ok h fun x c v t w=>?_
  rw [ag] at w
  obtain ⟨b,e,w⟩:=bQ.mp w
  rw [ai] at w
  exact ⟨x,c,v,b,t,rfl,rfl,e,w⟩
 ·subst e e2
  obtain ⟨u1,u2,rfl,rr1,rr2⟩:=vals2 r1
  cases rr2
  have I2:Inv X pins c.σ c.H s1:=by rw [t.hσ];exact I1
  have z:=xC (Q:=EP X pins c0.σ Q) hK t I2 rr1 hb fun tk=>⟨.bl b,c.H,I1.tok tk,rfl,w c (.bl b) t.hσ rfl t.ok t.nx rfl⟩
  exact z
noncomputable def PJ (X:Cx) (out:Str) (es:List Expr) (t:TE):Prop :=
 ∀ (pins:List (Addr×Obj)) (s:Shared) (σ:L2.St) (H:Hp) (Q:VK),Inv X pins σ H s→t σ H Q→wpAny (model X.prog X.w) X.A (joinParts out (evalEach es X.env)) (EP X pins σ Q) X.xe s
theorem xD {out:Str} (hz:out.length≤sizeLine):PJ X out [] (tEv C (pure (.loc,.str out))):=by
 rintro pins s σ H Q I ⟨c0,rfl,rfl,ok,h⟩
 rw [ai] at h
 exact joinParts_nil ⟨.str out,c0.H,I.tok _,⟨_,rfl⟩,h c0 (.str out) rfl rfl ok (Nx.refl c0) rfl⟩ hz
theorem xE {out y:Str}{kk:Nat} (hr:PJ X (out++y) es (tEv C m)) (hz:(out++y).length≤sizeLine):PJ X out (.Constant (.str y) kk p::es) (tEv C m):=by
 intro pins s σ H Q I h
 refine joinParts_consE (joinParts_cons (thn (nE (X:=X) pins s σ H (fun v H'=>v=.str y∧H'=H) I ⟨rfl,rfl⟩) fun v s1 ⟨x,H1,I1,r1,e1,e2⟩=>?_))
 subst e1 e2
 obtain ⟨t,rfl⟩:=r1
 exact ⟨hz,hr pins s1 σ H1 Q I1 h⟩
theorem xF {out:Str}{mf:Str→M (Kd×U)} (ha:PE X a (tEv C ma)) (hr:∀ y,y.length≤sizeLine→PJ X y es (tEv C (mf y))):PJ X out (.FormattedValue a (-1) none p::es) (tEv C (ma >>= fun x=>M.ofO (jA x.2 out) >>= fun y=>mf y)):=by
 rintro pins s σ H Q I ⟨c0,rfl,rfl,ok,h⟩
 refine joinParts_consE (joinParts_cons (FormattedValue_plain (thn (ha pins s c0.σ c0.H (fun v H'=>∃ x c y,At1 C c0 c x v∧c.H=H'∧jA x.2 out=some y∧W (mf y) c.st (bR C c0 Q)) I ?_) fun v s1 ⟨vx,H1,I1,r1,x,c,y,t,e,hy,w⟩=>?_)))
 ·refine ⟨c0,rfl,rfl,ok,?_⟩
  rw [ag] at h
  refine W.mono h fun x st' w c v hσ hs ok' n r=>?_
  subst hs
  rw [ag] at w
  obtain ⟨y,e,w⟩:=bQ.mp w
  exact ⟨x,c,y,⟨hσ,ok',n,r⟩,rfl,e,w⟩
 ·subst e
  obtain ⟨k,u⟩:=x
  obtain ⟨hσ,okc,n,r⟩:=t
  dsimp only at hy r
  have go:∀ s2:Shared,Inv X pins c0.σ c.H s2→y.length≤sizeLine→wpAny (model X.prog X.w) X.A (joinParts y (evalEach es X.env)) (EP X pins c0.σ Q) X.xe s2:=fun s2 I2 hz =>
   hr y hz pins s2 c0.σ c.H Q I2 ⟨c,hσ,rfl,okc,W.mono w fun r' st' q c' v' h1 h2 h3 h4 h5=>q c' v' h1 h2 h3 (n.trans h4) (h5.from n)⟩
  unfold jA at hy
  split at hy
  ·split at hy
   ·rename_i hz
    cases hy
    have ev:vx=_:=r.str okc
    subst ev
    obtain ⟨tk,rfl⟩:=r1
    exact formatField_str (fun t' tk=>⟨hz.2,go _ (I1.tok tk) hz.2⟩) hz.1
   ·cases hy
  ·split at hy
   ·rename_i hz
    cases hy
    have ev:vx=_:=r.int okc
    subst ev
    obtain ⟨tk,rfl⟩:=r1
    exact formatField_int_small hz.1 ⟨hz.2,go _ (I1.tok _) hz.2⟩
   ·cases hy
  ·cases hy
theorem vf {e1 e2:Expr} (h:PJ X Str.empty (e1::e2::es) (tEv C m)):PE X (.JoinedStr (e1::e2::es) pos) (tEv C m):=fun pins s σ H Q I q=>JoinedStr_many (h pins s σ H Q I q)
noncomputable abbrev ct0 (P:Program) (w:World) (K:PySem.W.Frag) (H:Hp):Ct:=⟨P,w,K,H,Dom H,fun _=>False⟩
structure Back (C:Ct) (H H':Hp) (S':Addr→Prop) (k:Kd) (u:U) (v:V):Prop where
 same:yM H H'
 new:∀ a,S' a→H a=none∧∃ o,H' a=some o
 own:k=.own→∃ r,v=.ref r∧H r=none∧¬ S' r∧cN C S' H' r u
 loc:k=.loc→Rep C S' H' u v
noncomputable def spT (P:Program) (w:World) (K:PySem.W.Frag) (F:List U→Option (Ex (Kd×U))) (np:Nat):Sp:=fun vs H Q _=>vs.length=np∧∃ us k u,F us=some (.ok (k,u))∧(k=.own∨k=.loc) ∧
 ah (ct0 P w K H) (Dom H) H us vs∧∀ v H' S',Back (ct0 P w K H) H H' S' k u v→Q v H'
theorem Ats.read {rs:List (Kd×U)}{vs:List V} (t:Ats C c0 c rs vs):ah C (Dom c.H) c.H (rs.map (·.2)) vs:=by
 have aux:∀ (l:List (Kd×U)) (w:List V),cJ C c0 c l w→ba l c.st→ah C (Dom c.H) c.H (l.map (·.2)) w:=by
  intro l
  induction l with
  |nil=>intro w h _;exact h
  |cons r l ih =>
   intro w h hs
   obtain ⟨v,t',rfl,h1,h2,_⟩:=h
   rw [eF] at hs
   exact ⟨v,t',rfl,(h1.t hs.1).read t.ok,ih t' h2 hs.2⟩
 exact aux rs vs t.rep t.stb
theorem Back.here {k:Kd}{u:U}{v:V}{H':Hp}{S':Addr→Prop}{Q:VK} (hk:k=.own∨k=.loc) (hσ:c.σ=c0.σ) (ok:Ok C c) (n:Nx c0 c) {C':Ct} (q:C'.Eqv C) (h:Back C' c.H H' S' k u v) (w:bR C c0 Q (k,u) c.st):Q v H':=by
 obtain ⟨ok',n'⟩:=ok.grow (S':=fun a=>c.S a∨S' a) h.same (fun a z=>z.imp id fun z=>h.new a z) fun a=>.inl
 have hn:=n.trans n'
 refine w { c with H:=H',S:=fun a=>c.S a∨S' a } v hσ rfl ok' hn ?_
 rcases hk with rfl|rfl
 ·obtain ⟨r,e,h1,h2,h3⟩:=h.own rfl
  obtain ⟨z0,z1,z2,z3,z4⟩:=ok.oe h1
  refine ⟨r,e,n.none h1,fun z=>z.elim z1 h2,z4,(h3.cg q).mv (.up fun a=>.inr) fun o q=>q⟩
 ·exact ((h.loc rfl).cg q).mv (.up fun a=>.inr)
theorem sF {f:Str}{fa:Addr}{fd:FuncData}{ps:List Str}{k np:Nat}{F:List U→Option (Ex (Kd×U))}{Γ:Tab} (hP:C.P=X.prog) (hw:C.w=X.w) (hK:C.K=X.K) (hF:Γ f=F) (hk:∀ us k u,F us=some (.ok (k,u))→(k=.own∨k=.loc)∧us.length=np)
  (G:lU X.prog X.w X.K X.mg X.base CX0 k fa fd ps (spT X.prog X.w X.K F np)) (hr:fF k X.A) (hg:Gl X f) (hm:X.mg f=some (.ref fa)) (hkp:PySem.W.keepIn X.K (.ref fa)=true) (hb:Binds X.K fd ps [])
  (hdb:(f==("__debug__":Str))=false) (ha:PA X (e::es) (tEs C ms)) (he:starEach (e::es) X.env=(false,eval e X.env)::starEach es X.env) (hpl:(backTo pos (starEach es X.env)).any (·.1)=false) :
  PE X (.Call (.Name f p) (e::es) [] pos) (tEv C (ms >>= fun rs=>ar rs >>= fun _=>iG Γ f (rs.map (·.2)))):=by
 rintro pins s σ H Q I ⟨c0,rfl,rfl,ok,h⟩
 refine wpAny_Call_Name_kw (pe I hg hm ?_ hdb)
 refine PySem.W.callWith_K (h₀:=X.base) I.ok.mod.kin hkp (thn (args ha I ok h pos) fun us s1 ⟨rs,c,vs,t,I1,rv,w⟩=>⟨I1.kIn,?_⟩) he hpl
 obtain ⟨r,st',e1,q⟩:=w
 unfold iG at e1
 rw [hF] at e1
 cases e2:F (rs.map (·.2)) with
 |none=>rw [e2] at e1;cases e1
 |some r' =>
  rw [e2] at e1
  cases e1
  obtain ⟨kd,u⟩:=r
  obtain ⟨k1,k2⟩:=hk _ _ _ e2
  have eqv:C.Eqv (ct0 X.prog X.w X.K c.H):=⟨hP,hw,hK⟩
  have eqv':(ct0 X.prog X.w X.K c.H).Eqv C:=⟨hP.symm,hw.symm,hK.symm⟩
  have rd:=t.read
  have hsp:spT X.prog X.w X.K F np vs c.H (fun v H'=>Q v H') E0:=⟨by rw [←rd.len];exact k2,rs.map (·.2),kd,u,e2,k1,rd.cg eqv,fun v H' S' hb=>hb.here k1 t.hσ t.ok t.nx eqv' q⟩
  have z:=wU (Q:=Q) G hr hb .nil yL I1 rv (by rw [List.append_nil];exact hsp)
  rw [t.hσ] at z
  exact z
end
end TM
namespace TM
open PySem L2 PyProof.Rows
section
variable {X : Cx} {C : Ct} {pins : List (Addr × Obj)} {s : Shared} {c0 c c1 : Cf}
variable {a b d e o : Expr} {es : List Expr} {m ma mb md : M (Kd × U)} {ms : M (List (Kd × U))} {ta tb : M Bool} {pos p p2 apos cpos : Pos}
noncomputable def Mf.id:Mf→String
 |.split=>"str.split"|.join=>"str.join"|.partition=>"str.partition"|.endswith=>"str.endswith"
noncomputable def Mf.name:Mf→Str
 |.split=>"split"|.join=>"join"|.partition=>"partition"|.endswith=>"endswith"
theorem sG {f:Mf}{u:U}{rs:List (Kd×U)}{r:Kd×U} (h:fW f u rs=some r):∃ x,u=.str x:=by
 unfold fW at h
 split at h
 ·exact ⟨_,rfl⟩
 ·exact ⟨_,rfl⟩
 ·exact ⟨_,rfl⟩
 ·exact ⟨_,rfl⟩
 ·cases h
theorem xG (hK:C.K=X.K) {f:Mf}{x:Kd×U}{rs:List (Kd×U)}{r:Kd×U}{vx:V}{v:Value}{vs:List V}{us:List Value}{Q:VK} (t:Ats C c0 c (x::rs) (vx::vs)) (I:Inv X pins c.σ c.H s) (rx:RelV vx v) (rv:Vals vs us) (h:fW f x.2 rs=some r) (q:bR C c0 Q r c.st) :
  wpAny (model X.prog X.w) X.A (call (.builtin f.id) (v::us)) (EP X pins c.σ Q) X.xe s:=by
 have hσ:=t.hσ
 have ok:=t.ok
 have n:=t.nx
 obtain ⟨kx,ux⟩:=x
 have hs:=eF.mp t.stb
 obtain ⟨v0,vs0,e0,h1,h2,-⟩:=t.rep
 cases e0
 have tx:aG C c0 c kx ux vx:=h1.t hs.1
 have one:∀ {r:Kd×U},cJ C c0 c [r] vs→ba [r] c.st→∃ v,vs=[v]∧aG C c0 c r.1 r.2 v:=fun {r} h s=>by
  obtain ⟨v,t',rfl,h1,h2,_⟩:=h
  cases h2
  exact ⟨v,rfl,h1.t s⟩
 dsimp only at h
 unfold fW at h
 split at h
 ·obtain ⟨w,rfl,ty⟩:=one h2 hs.2
  split at h
  ·rename_i hh
   cases h
   exact rV pins s c.σ c.H vx [w] v us Q I rx rv ⟨_,_,tx.str ok,by rw [ty.str ok],hh.1,hh.2,fun p hp=>q.list hσ ok n (ah.strs.mpr rfl) p hp⟩
  ·cases h
 ·rw [Option.bind_eq_some_iff] at h
  obtain ⟨ss,e,h⟩:=h
  have e':=bw e
  subst e'
  obtain ⟨w,rfl,ty⟩:=one h2 hs.2
  obtain ⟨a',ws,ex,h3,h4⟩:=ty.list ok
  rw [ah.strs] at h4
  subst h4
  split at h
  ·cases h
   exact uG pins s c.σ c.H vx [w] v us Q I rx rv ⟨_,a',ss,tx.str ok,by rw [ex],hK ▸ h3,by assumption,q.flat hσ ok n rfl⟩
  ·cases h
 ·obtain ⟨w,rfl,ty⟩:=one h2 hs.2
  cases h
  exact l9 pins s c.σ c.H vx [w] v us Q I rx rv ⟨_,_,tx.str ok,by rw [ty.str ok],q.flat hσ ok n rfl⟩
 ·obtain ⟨w,rfl,ty⟩:=one h2 hs.2
  split at h
  ·rename_i hh
   cases h
   refine kC pins s c.σ c.H vx [w] v us Q I rx rv ⟨_,_,tx.str ok,by rw [ty.str ok],hh.1,hh.2,fun p hp=>?_⟩
   exact q.tup hσ ok n ⟨_,_,rfl,rfl,_,_,rfl,rfl,_,_,rfl,rfl,rfl⟩ p hp
  ·cases h
 ·cases h
theorem vg (hK:C.K=X.K) {f:Mf}{name:Str} (slot:Slot "str" name f.id) (hty:typeOf (.builtin f.id)=pure (.type "method_descriptor")) (ho:PE X o (tEv C m)) (ha:PA X (e::es) (tEs C ms))
  (hbase:attributeBase o name X.env (eval o X.env)=eval o X.env)
  (hfew:((backTo cpos (starEach (e::es) X.env)).all (fun x=>!x.1)&&(backToKw cpos (keywordEach [] X.env)).all (fun x=>x.1.isSome)
   && decide ((e::es).length+([]:List Keyword).length+(if ([]:List Keyword).isEmpty then 0 else 1)<30))=true)
  (hline:(apos.endLine==cpos.line)=true) (hs:starEach (e::es) X.env=(false,eval e X.env)::starEach es X.env) (hplain:(backTo cpos (starEach es X.env)).any (·.1)=false) :
  PE X (.Call (.Attribute o name apos) (e::es) [] cpos) (tEv C (m >>= fun x=>ms >>= fun rs=>ar (x::rs) >>= fun _=>M.ofO (fW f x.2 rs))):=by
 rintro pins s σ H Q I ⟨c0,rfl,rfl,ok,h⟩
 refine wpAny_Call_method_late hbase hfew hline rfl (thn (ho pins s c0.σ c0.H (fun vx H1=>∃ x c1,c1.H=H1∧At1 C c0 c1 x vx∧W (ms >>= fun rs=>ar (x::rs) >>= fun _=>M.ofO (fW f x.2 rs)) c1.st (bR C c0 Q)) I (aZ ok h fun x c v t w=>⟨x,c,rfl,t,w⟩)) ?_)
 rintro v s1 ⟨vx,H1,I1,rx,x,c1,rfl,t,w⟩
 have hstr:∃ z,x.2=.str z:=by
  rw [ag] at w
  obtain ⟨rs,st2,_,w⟩:=w
  rw [ag] at w
  obtain ⟨_,st3,_,w⟩:=w
  obtain ⟨r,e,_⟩:=bQ.mp w
  exact sG e
 obtain ⟨z,hz⟩:=hstr
 have tx:=t.rx
 rw [hz] at tx
 have ev:=tx.str t.ok
 have ty:tyV X.K "str" vx c1.H:=by rw [ev];rfl
 obtain ⟨h1,h2⟩:=nO I1 rx ty
 refine ⟨"str",f.id,PySem.F.plainAttrs_str,slot,hty,h1,h2,?_⟩
 rw [ag] at w
 have hA:=ha cpos pins s1 c0.σ c1.H (fun vs H2=>∃ rs c2,c2.H=H2∧Ats C c0 c2 (x::rs) (vx::vs)∧W (M.ofO (fW f x.2 rs)) c2.st (bR C c0 Q)) I1 ⟨c1,t.hσ,rfl,t.ok,w.mono fun rs st2 h3 c2 vs e3 e4 ok2 n2 r2=>by
  rw [ag,bT] at h3
  subst e4
  exact ⟨rs,c2,rfl,⟨e3,ok2,t.nx.trans n2,⟨vx,vs,rfl,t.rx.w.on t.ok n2 (e3.trans t.hσ.symm),r2.from t.nx,fun hk i r' v' e5 e6 hk'=>kY t.rx.w (r2.get e5 e6) hk hk'⟩,h3.1⟩,h3.2⟩⟩
 rw [hs] at hA ⊢
 refine Calls.callWith_builtin (by show (false||(backTo cpos (starEach es X.env)).any (·.1))=false;rw [hplain] <;> rfl) (Calls.evalArgs_plain ?_)
 refine thn hA ?_
 rintro us s2 ⟨vs,H2,I2,r2,rs,c2,rfl,t2,w2⟩
 obtain ⟨r,e,q⟩:=bQ.mp w2
 have z:=xG hK t2 (by rw [t2.hσ];exact I2) rx r2 e q
 rw [t2.hσ] at z
 exact z
end
end TM
namespace TM
open PySem L2 PyProof.Rows
section
variable {X : Cx} {C : Ct} {pins : List (Addr × Obj)} {s : Shared} {c0 c c1 : Cf}
variable {e : Expr} {es : List Expr} {ms : M (List (Kd × U))} {pos p p2 pos2 : Pos}
noncomputable def B2.out:B2→Value
 |.revT=>.type "tuple"|.revL=>.type "list"|.sset=>.builtin "sorted"|.kz=>.builtin "len"
noncomputable def B2.inn:B2→Value
 |.revT=>.type "reversed"|.revL=>.type "reversed"|.sset=>.type "set"|.kz=>.type "set"
noncomputable def B2.k6:B2→Str
 |.revT=>"tuple"|.revL=>"list"|.sset=>"sorted"|.kz=>"len"
noncomputable def B2.f7:B2→Str
 |.revT=>"reversed"|.revL=>"reversed"|.sset=>"set"|.kz=>"set"
theorem ah.rev {S:Addr→Prop}{H:Hp}:∀ {us:List U}{vs:List V},ah C S H us vs→ah C S H us.reverse vs.reverse
 |[],vs,h=>by cases h;exact rfl
 |u::us,vs,h=>by
  obtain ⟨v,r,rfl,h1,h2⟩:=h
  rw [List.reverse_cons,List.reverse_cons]
  exact (ah.rev h2).append ⟨v,[],rfl,h1,rfl⟩
theorem jQ {u:U}{ss:List Str}{k:Kd}{v:V} (hK:C.K=X.K) (ok:Ok C c) (tx:aG C c0 c k u v) (h:mG u=some ss):∃ a ys,v=.ref a∧(SqL X.K c.H a (ys.map V.str)∨SqT X.K c.H a (ys.map V.str))∧ys.length+1<scanBound∧ss=aJ ys:=by
 unfold mG at h
 split at h
 ·rw [Option.bind_eq_some_iff] at h
  obtain ⟨ys,e,h⟩:=h
  have e':=bw e
  subst e'
  obtain ⟨a',ws,ex,h1,h2⟩:=tx.list ok
  rw [ah.strs] at h2
  subst h2
  split at h
  ·cases h
   exact ⟨a',ys,ex,.inl (hK ▸ h1),by assumption,rfl⟩
  ·cases h
 ·rw [Option.bind_eq_some_iff] at h
  obtain ⟨ys,e,h⟩:=h
  have e':=bw e
  subst e'
  obtain ⟨a',ws,ex,h1,h2⟩:=tx.tuple ok
  rw [ah.strs] at h2
  subst h2
  rw [hK] at h1
  split at h
  ·cases h
   exact ⟨a',ys,ex,.inr h1,by assumption,rfl⟩
  ·cases h
 ·cases h
theorem xH {f:B2}{rs:List (Kd×U)}{r:Kd×U}{vs:List V}{us:List Value}{Q:VK} (hc:X.calm=true) (hK:C.K=X.K) (t:Ats C c0 c rs vs) (I:Inv X pins c.σ c.H s) (rv:Vals vs us) (h:oh f rs=some r) (q:bR C c0 Q r c.st) :
  wpAny (model X.prog X.w) X.A (call f.inn us) (fun v s1=>wpAny (model X.prog X.w) X.A (call f.out [v]) (EP X pins c.σ Q) X.xe s1) X.xe s:=by
 have hσ:=t.hσ
 have ok:=t.ok
 have n:=t.nx
 cases f with
 |revT =>
  obtain ⟨x,rfl,hz⟩:=bp (f:=xn) h
  clear h
  have h:=hz
  clear hz
  obtain ⟨v,rfl,tx⟩:=t.one
  unfold xn at h
  split at h
  ·cases h
   obtain ⟨a',ws,ex,h1,h2⟩:=tx.tuple ok
   rw [hK] at h1
   subst ex
   obtain ⟨u,rfl,rr⟩:=vals1 rv
   cases rr
   exact qN hc I h1 fun l hl=>q.tupK hσ ok n h2.rev l hl
  ·cases h
 |sset =>
  obtain ⟨x,rfl,hz⟩:=bp (f:=fun x=>(mG x.2).bind fun ss=>if ss.length<64 then some (Kd.own,U.lst ((bo ss).map .str)) else none) h
  clear h
  have h:=hz
  clear hz
  obtain ⟨ss,e,h⟩:=Option.bind_eq_some_iff.mp h
  obtain ⟨v,rfl,tx⟩:=t.one
  obtain ⟨a',ys,rfl,h1,h2,rfl⟩:=jQ hK ok tx e
  obtain ⟨u,rfl,rr⟩:=vals1 rv
  cases rr
  split at h
  ·cases h
   exact fT hc I h1 h2 fun S h' tk hS I1=>jt hc I1 hS (by assumption) fun l hl=>q.list hσ ok n (ah.strs.mpr rfl) l hl
  ·cases h
 |kz =>
  obtain ⟨x,rfl,hz⟩:=bp (f:=fun x:Kd×U=>(mG x.2).map fun ss:List Str=>(Kd.loc,U.int (ss.length:Int))) h
  clear h
  have h:=hz
  clear hz
  obtain ⟨ss,e,rfl⟩:=Option.map_eq_some_iff.mp h
  obtain ⟨v,rfl,tx⟩:=t.one
  obtain ⟨a',ys,rfl,h1,h2,rfl⟩:=jQ hK ok tx e
  obtain ⟨u,rfl,rr⟩:=vals1 rv
  cases rr
  exact fT hc I h1 h2 fun S h' tk hS I1=>nY I1 hS (q.flat hσ ok n rfl)
 |_=>cases h
theorem pR:∀ f:B2,bootBuiltins f.k6=some f.out∧bootBuiltins f.f7=some f.inn∧f.k6≠"__name__"∧f.f7≠"__name__"∧(f.k6==("__debug__":Str))=false∧(f.f7==("__debug__":Str))=false:=by
 intro f
 cases f <;> exact ⟨by decide +kernel,by decide +kernel,by decide +kernel,by decide +kernel,by decide +kernel,by decide +kernel⟩
theorem xI (f:B2):∃ T,f.inn=.type T:=by cases f <;> exact ⟨_,rfl⟩
theorem xJ (f:B2):(∃ T,f.out=.type T)∨∃ T,f.out=.builtin T:=by cases f <;> first|exact .inl ⟨_,rfl⟩|exact .inr ⟨_,rfl⟩
theorem pS {M:Model}{A:Around}{E:Value→Shared→Prop}{s:Shared}{T:String}{t:Sem Value}{Q:Value→Shared→Prop} (h:wpAny M A t (fun v s₁=>wpAny M A (call (.type T) [v]) Q E s₁) E s):wpAny M A (callWith pos (.type T) [] [(false,t)] []) Q E s :=
 PySem.callWith_type rfl (Calls.evalArgs_plain (Calls.spliced_cons (wpAny_mono h (fun _ _ h₁=>Calls.spliced_nil h₁) fun _ _ e=>e)))
theorem xK {M:Model}{A:Around}{E:Value→Shared→Prop}{s:Shared}{T:String}{t:Sem Value}{Q:Value→Shared→Prop} (h:wpAny M A t (fun v s₁=>wpAny M A (call (.builtin T) [v]) Q E s₁) E s):wpAny M A (callWith pos (.builtin T) [] [(false,t)] []) Q E s :=
 Calls.callWith_builtin rfl (Calls.evalArgs_plain (Calls.spliced_cons (wpAny_mono h (fun _ _ h₁=>Calls.spliced_nil h₁) fun _ _ e=>e)))
theorem sH {f:B2}{Q:VK} (hc:X.calm=true) (hK:C.K=X.K) (hg2:Gl X f.f7) (hm2:X.mg f.f7=none)
  (ha:PA X (e::es) (tEs C ms)) (he:starEach (e::es) X.env=(false,eval e X.env)::starEach es X.env) (hpl:(backTo pos2 (starEach es X.env)).any (·.1)=false)
  (I:Inv X pins c0.σ c0.H s) (ok:Ok C c0) (h:W (ms >>= fun rs=>ar rs >>= fun _=>M.ofO (oh f rs)) c0.st (bR C c0 Q)) :
  wpAny (model X.prog X.w) X.A (eval (.Call (.Name f.f7 p2) (e::es) [] pos2) X.env) (fun v s1=>wpAny (model X.prog X.w) X.A (call f.out [v]) (EP X pins c0.σ Q) X.xe s1) X.xe s:=by
 obtain ⟨b1,b2,b3,b4,b5,b6⟩:=pR f
 refine wpAny_Call_Name_kw (dm I hg2 hm2 b2 ?_ b4 b6)
 have fin:wpAny (model X.prog X.w) X.A (spliced (backTo pos2 (starEach (e::es) X.env))) (fun us s1=>wpAny (model X.prog X.w) X.A (call f.inn us) (fun v s1=>wpAny (model X.prog X.w) X.A (call f.out [v]) (EP X pins c0.σ Q) X.xe s1) X.xe s1) X.xe s :=
  thn (args ha I ok h pos2) fun us s1 hIx=>by
   obtain ⟨rs,c,vs,t,I1,rv,w⟩:=hIx
   obtain ⟨r,e,q⟩:=bQ.mp w
   have z:=xH hc hK t I1 rv e q
   rw [t.hσ] at z
   exact z
 obtain ⟨T,hT⟩:=xI f
 rw [hT] at fin ⊢
 exact PyProof.Rows.callWith_type1 fin he hpl
theorem vh {f:B2} (hc:X.calm=true) (hK:C.K=X.K) (hg1:Gl X f.k6) (hm1:X.mg f.k6=none) (hg2:Gl X f.f7) (hm2:X.mg f.f7=none)
  (ha:PA X (e::es) (tEs C ms)) (he:starEach (e::es) X.env=(false,eval e X.env)::starEach es X.env) (hpl:(backTo pos2 (starEach es X.env)).any (·.1)=false) :
  PE X (.Call (.Name f.k6 p) [.Call (.Name f.f7 p2) (e::es) [] pos2] [] pos) (tEv C (ms >>= fun rs=>ar rs >>= fun _=>M.ofO (oh f rs))):=by
 rintro pins s σ H Q I ⟨c0,rfl,rfl,ok,h⟩
 obtain ⟨b1,b2,b3,b4,b5,b6⟩:=pR f
 refine wpAny_Call_Name_kw (dm I hg1 hm1 b1 ?_ b3 b5)
 have inner:=sH (p2:=p2) (pos2:=pos2) hc hK hg2 hm2 ha he hpl I ok h
 have eb:backTo pos (starEach [.Call (.Name f.f7 p2) (e::es) [] pos2] X.env)=[(false,eval (.Call (.Name f.f7 p2) (e::es) [] pos2) X.env)]:=rfl
 have ek:backToKw pos (keywordEach [] X.env)=[]:=rfl
 rw [eb,ek]
 rcases xJ f with ⟨T,hT⟩|⟨T,hT⟩
 ·rw [hT] at inner ⊢
  exact pS inner
 ·rw [hT] at inner ⊢
  exact xK inner
end
end TM
namespace TM
open PySem L2 PyProof.Rows
section
variable {X : Cx} {C : Ct} {pins : List (Addr × Obj)} {s : Shared} {c0 c c1 : Cf}
variable {a b d e o tg : Expr} {es : List Expr} {m ma mb md : M (Kd × U)} {ms : M (List (Kd × U))} {ta tb : M Bool} {pos p p2 apos cpos : Pos}
noncomputable def jR (rs:List (Kd×U)) (c c':Cf):Prop:=∀ j u,(Kd.bor j,u)∈rs→c'.σ[j]?=c.σ[j]?
noncomputable def Walk (C:Ct) (c:Cf) (rs:List (Kd×U)) (xs:List (Kd×U)) (J:It):Prop:=∀ c',Ok C c'→Ns c c'→jR rs c c'→ba rs c'.st →
 (∀ (i:Nat) r,xs[i]?=some r→(r.1=.loc∨r.1=.any)∧J.go i c'.H∧∀ x H',J.yld i c'.H x H'→∃ c'':Cf,c''.H=H'∧c''.σ=c'.σ∧c''.st=c'.st∧Ok C c''∧Nx c' c''∧aG C c' c'' r.1 r.2 x) ∧
 ∀ i:Nat,xs.length≤i→J.stop i c'.H
noncomputable def tIt (C:Ct) (ik:Ik) (ms:M (List (Kd×U))):TI:=fun σ H R=>∃ c0:Cf,c0.σ=σ∧c0.H=H∧Ok C c0∧W (ms >>= fun rs=>ar rs >>= fun _=>M.ofO (itU ik rs) >>= fun xs=>pure (rs,xs)) c0.st fun q st' =>
 ∀ c J,c.σ=σ→c.st=st'→Ok C c→Nx c0 c→ba q.1 c.st→Walk C c q.1 q.2 J→R J c.H
theorem aG.walk {r:Kd×U}{v:V}{c':Cf} (ok:Ok C c) (n:Ns c c') (hf:jR [r] c c') (hs:ba [r] c'.st) (h:aG C c0 c r.1 r.2 v):aG C c0 c' r.1 r.2 v :=
 (h.w.on' ok n fun j e=>hf j r.2 (by rw [←e];simp)).t hs
theorem v7 (k:Kd):kE k=.loc∨kE k=.any:=by cases k <;> simp [kE]
theorem qT {k:Kd}{us:List U}{a':Addr} (hK:C.K=X.K) (ok:Ok C c) (h:aG C c0 c k (.lst us) (.ref a')):Walk C c [(k,.lst us)] (us.map fun u=>(kE k,u)) (Itl X.K a'):=by
 intro c' ok' n hf hs
 have h':=aG.walk (r:=(k,.lst us)) ok n hf hs h
 obtain ⟨a2,vs,e,h1,h2⟩:=h'.list ok'
 cases e
 rw [hK] at h1
 refine ⟨fun i r hr=>?_,fun i hi=>⟨vs,h1,by rw [←h2.len];simpa using hi⟩⟩
 rw [List.getElem?_map,Option.map_eq_some_iff] at hr
 obtain ⟨u,hu,rfl⟩:=hr
 obtain ⟨v,hv,rep⟩:=h2.get hu
 refine ⟨v7 k,⟨vs,v,h1,hv⟩,fun x H' hy=>?_⟩
 obtain ⟨e,hy⟩:=hy
 subst e
 have:=hy vs h1
 rw [hv] at this
 cases this
 exact ⟨c',rfl,rfl,rfl,ok',Nx.refl c',aG.item rep⟩
theorem om {k:Kd}{us:List U}{a':Addr} (hK:C.K=X.K) (ok:Ok C c) (h:aG C c0 c k (.tup us) (.ref a')):Walk C c [(k,.tup us)] (us.map fun u=>(kE k,u)) (Itt X.K a'):=by
 intro c' ok' n hf hs
 have h':=aG.walk (r:=(k,.tup us)) ok n hf hs h
 obtain ⟨a2,vs,e,h1,h2⟩:=h'.tuple ok'
 cases e
 rw [hK] at h1
 refine ⟨fun i r hr=>?_,fun i hi=>⟨vs,h1,by rw [←h2.len];simpa using hi⟩⟩
 rw [List.getElem?_map,Option.map_eq_some_iff] at hr
 obtain ⟨u,hu,rfl⟩:=hr
 obtain ⟨v,hv,rep⟩:=h2.get hu
 refine ⟨v7 k,⟨vs,v,h1,hv⟩,fun x H' hy=>?_⟩
 obtain ⟨e,hy⟩:=hy
 subst e
 have:=hy vs h1
 rw [hv] at this
 cases this
 exact ⟨c',rfl,rfl,rfl,ok',Nx.refl c',aG.item rep⟩
theorem iL {rs:List (Kd×U)}{lo:Int}{n:Nat}:Walk C c rs ((List.range n).map fun i:Nat=>(Kd.loc,U.int (lo+(i:Int)))) (Itr lo n):=by
 intro c' ok' nx hf hs
 refine ⟨fun i r hr=>?_,fun i hi=>by show n≤i;simpa using hi⟩
 rw [List.getElem?_map,Option.map_eq_some_iff] at hr
 obtain ⟨j,hu,rfl⟩:=hr
 have hi:i<n:=by simpa using (List.getElem?_eq_some_iff.mp hu).1
 rw [List.getElem?_range hi] at hu
 cases hu
 refine ⟨.inl rfl,hi,fun y H' hy=>?_⟩
 obtain ⟨e,rfl⟩:=hy
 subst e
 exact ⟨c',rfl,rfl,rfl,ok',Nx.refl c',rfl⟩
theorem xM (hK:C.K=X.K) (ha:PE X a (tEv C ma)):PI X tg a (tIt C .seq (ma >>= fun r=>pure [] >>= fun rs=>pure (r::rs))):=by
 rintro pins s σ H R I ⟨c0,rfl,rfl,ok,h⟩
 rw [ag,ag] at h
 obtain ⟨r,st1,e1,h⟩:=h
 rw [ag,ai,ai,ag,bT,ag] at h
 obtain ⟨hst,h⟩:=h
 obtain ⟨xs,e2,h⟩:=bQ.mp h
 rw [ai] at h
 obtain ⟨k,u⟩:=r
 cases u with
 |lst us =>
  cases e2
  refine uj ha pins s c0.σ c0.H R I ⟨c0,rfl,rfl,ok,_,st1,e1,fun c v hσ hs okc n rep=>?_⟩
  obtain ⟨a',vs,rfl,h1,h2⟩:=rep.list okc
  subst hs
  exact ⟨a',rfl,⟨vs,hK ▸ h1⟩,h c _ hσ rfl okc n hst (qT hK okc rep)⟩
 |tup us =>
  cases e2
  refine wM ha pins s c0.σ c0.H R I ⟨c0,rfl,rfl,ok,_,st1,e1,fun c v hσ hs okc n rep=>?_⟩
  obtain ⟨a',vs,rfl,h1,h2⟩:=rep.tuple okc
  subst hs
  have h1':=h1
  rw [hK] at h1'
  exact ⟨a',rfl,⟨vs,h1'⟩,h c _ hσ rfl okc n hst (om hK okc rep)⟩
 |_=>cases e2
theorem sI {ms:M (List (Kd×U))}{β:Type}{k:List (Kd×U)→M β}{Post:β→ak→Prop}{Z:List V→Hp→Prop} (ok:Ok C c0) (h:W (ms >>= fun rs=>ar rs >>= fun _=>k rs) c0.st Post)
  (hz:∀ rs c vs,Ats C c0 c rs vs→W (k rs) c.st Post→Z vs c.H):tEs C ms c0.σ c0.H Z:=by
 rw [ag] at h
 refine ⟨c0,rfl,rfl,ok,h.mono fun rs st1 h1 c1 vs e1 e2 ok1 n1 r1=>?_⟩
 rw [ag,bT] at h1
 subst e2
 exact hz rs c1 vs ⟨e1,ok1,n1,r1,h1.1⟩ h1.2
theorem vi (hg:Gl X "range") (hm:X.mg "range"=none) (hs:starEach [a] X.env=[(false,eval a X.env)]) (ha:PA X [a] (tEs C ms)):PI X tg (.Call (.Name "range" p) [a] [] pos) (tIt C .rng1 ms):=by
 rintro pins s σ H R I ⟨c0,rfl,rfl,ok,h⟩
 refine qx hg hm ha hs pins s c0.σ c0.H R I (sI ok h fun rs c vs t w=>?_)
 rw [ag] at w
 obtain ⟨xs,e2,w⟩:=bQ.mp w
 rw [ai] at w
 obtain ⟨x,rfl,hz⟩:=bp (f:=qQ) e2
 clear e2
 have e2:=hz
 clear hz
 obtain ⟨v,rfl,tx⟩:=t.one
 unfold qQ at e2
 split at e2
 ·split at e2
  ·rename_i hh
   cases e2
   exact ⟨_,by rw [tx.int t.ok],by omega,by omega,w c _ t.hσ rfl t.ok t.nx t.stb iL⟩
  ·cases e2
 ·cases e2
theorem vj (hg:Gl X "range") (hm:X.mg "range"=none) (hs:starEach [a,b] X.env=[(false,eval a X.env),(false,eval b X.env)]) (hs2:starEach [b] X.env=[(false,eval b X.env)]) (ha:PA X [a,b] (tEs C ms)):PI X tg (.Call (.Name "range" p) [a,b] [] pos) (tIt C .rng2 ms):=by
 rintro pins s σ H R I ⟨c0,rfl,rfl,ok,h⟩
 refine qy hg hm ha hs hs2 pins s c0.σ c0.H R I (sI ok h fun rs c vs t w=>?_)
 rw [ag] at w
 obtain ⟨xs,e2,w⟩:=bQ.mp w
 rw [ai] at w
 have e2:xo rs=some xs:=e2
 unfold xo at e2
 split at e2
 ·split at e2
  ·rename_i hh
   cases e2
   obtain ⟨v,v',rfl,tx,ty⟩:=t.two
   exact ⟨_,_,by rw [tx.int t.ok,ty.int t.ok],by omega,w c _ t.hσ rfl t.ok t.nx t.stb iL⟩
  ·cases e2
 ·cases e2
theorem Ok.put (ok:Ok C c) (n:Nx c0 c) {k:Kd}{u:U}{v:V}{i:Nat} (hi:i<c.σ.length) (hk:k=.own∨k=.loc∨k=.any) (ok0:Ok C c0) (h:aG C c0 c k u v) :
  Ok C { c with σ:=c.σ.set i (some v),st:=c.st.set i (some (k,u)) }∧Nx c0 { c with σ:=c.σ.set i (some v),st:=c.st.set i (some (k,u)) }:=by
 have hi':i<c.st.length:=by rw [ok.len];exact hi
 have oth:∀ (j:Nat) k' u',(c.st.set i (some (k,u)))[j]?=some (some (k',u'))→j≠i→c.st[j]?=some (some (k',u')):=fun j k' u' e ne=>by rw [List.getElem?_set_ne (Ne.symm ne)] at e;exact e
 have othσ:∀ (j:Nat) v',(c.σ.set i (some v))[j]?=some (some v')→j≠i→c.σ[j]?=some (some v'):=fun j v' e ne=>by rw [List.getElem?_set_ne (Ne.symm ne)] at e;exact e
 have sl:d0 C c.S c.H k u v:=by
  rcases hk with rfl|rfl|rfl
  ·obtain ⟨r,e,h1,h2,h3,h4⟩:=h
   obtain ⟨z0,z1,z2,z3,z4⟩:=ok0.oe h1
   exact ⟨r,e,h2,z2,z0,h4⟩
  ·exact h
  ·exact h
 have newR:∀ (j:Nat) k' u' r,k'.root=true→(c.st.set i (some (k,u)))[j]?=some (some (k',u'))→(c.σ.set i (some v))[j]?=some (some (.ref r))→j=i∧k=.own∧v=.ref r∨j≠i∧c.st[j]?=some (some (k',u'))∧c.σ[j]?=some (some (.ref r)):=fun j k' u' r hr e1 e2=>by
  by_cases hj:j=i
  ·subst hj
   rw [List.getElem?_set_self hi'] at e1
   rw [List.getElem?_set_self hi] at e2
   cases e1
   cases e2
   rcases hk with rfl|rfl|rfl
   ·exact .inl ⟨rfl,rfl,rfl⟩
   ·cases hr
   ·cases hr
  ·exact .inr ⟨hj,oth j k' u' e1 hj,othσ j _ e2 hj⟩
 have dD:∀ (j:Nat) (u':U),(c.st.set i (some (k,u)))[j]?=some (some (.ownD,u'))→c.st[j]?=some (some (.ownD,u'))∧(c.σ.set i (some v))[j]?=c.σ[j]?:=fun j u' e=>by
  by_cases hj:j=i
  ·subst hj
   rw [List.getElem?_set_self hi'] at e
   cases e
   rcases hk with hk|hk|hk <;> cases hk
  ·exact ⟨oth j .ownD u' e hj,List.getElem?_set_ne (Ne.symm hj)⟩
 have b1:∀ a,({ c with σ:=c.σ.set i (some v),st:=c.st.set i (some (k,u)) }:Cf).R1 a→c.R1 a∨k=.own∧v=.ref a:=fun a hIx=>by
  obtain ⟨j,k',u',hr,e1,e2⟩:=hIx
  rcases newR j k' u' a hr e1 e2 with ⟨a1,a2,a3⟩|⟨a1,a2,a3⟩
  ·exact .inr ⟨a2,a3⟩
  ·exact .inl ⟨j,k',u',hr,a2,a3⟩
 have hdd:DOk C { c with σ:=c.σ.set i (some v),st:=c.st.set i (some (k,u)) }:=ok.dd.of rfl dD (fun a z=>(b1 a z).imp id fun ⟨q1,q2⟩ j z'=>by
  subst q1
  obtain ⟨r',e,_,_,h3,_⟩:=h
  rw [q2] at e
  cases e
  exact h3 (.inr ⟨j,z'⟩)) (.up fun _ z=>z) fun j a z=>⟨(ok.root (.inr ⟨j,z⟩)).1,fun o q=>q⟩
 refine ⟨⟨ok.same,ok.sfr,ok.par,ok.io,by simp [ok.len],fun j k' u' e=>?_,fun j1 j2 k1 k2 u1 u2 r hr1 hr2 e1 e2 e3 e4=>?_,hdd⟩,⟨⟨n.keep,n.there,fun a z=>?_,n.sub,n.new⟩,n.all⟩⟩
 ·by_cases hj:j=i
  ·subst hj
   rw [List.getElem?_set_self hi'] at e
   cases e
   exact ⟨v,by rw [List.getElem?_set_self hi],sl⟩
  ·obtain ⟨v',e1,e2⟩:=ok.sl j k' u' (oth j k' u' e hj)
   exact ⟨v',by rw [List.getElem?_set_ne (Ne.symm hj)];exact e1,e2⟩
 ·have z1:=newR j1 k1 u1 r hr1 e1 e3
  have z2:=newR j2 k2 u2 r hr2 e2 e4
  rcases z1 with ⟨a1,a2,a3⟩|⟨a1,a2,a3⟩
  ·rcases z2 with ⟨b1,b2,b3⟩|⟨b1,b2,b3⟩
   ·exact a1.trans b1.symm
   ·subst a2
    obtain ⟨r',e,h1,h2,h3,h4⟩:=h
    rw [a3] at e
    cases e
    exact (h3 (.inl ⟨j2,k2,u2,hr2,b2,b3⟩)).elim
  ·rcases z2 with ⟨b1,b2,b3⟩|⟨b1,b2,b3⟩
   ·subst b2
    obtain ⟨r',e,h1,h2,h3,h4⟩:=h
    rw [b3] at e
    cases e
    exact (h3 (.inl ⟨j1,k1,u1,hr1,a2,a3⟩)).elim
   ·exact ok.inj j1 j2 k1 k2 u1 u2 r hr1 hr2 a2 b2 a3 b3
 ·rcases z with z|⟨j,u',r',e1,e2,e3⟩
  ·rcases b1 a z with z|⟨a2,a3⟩
   ·exact n.roots a (.inl z)
   ·subst a2
    obtain ⟨r',e,h1,h2,h3,h4⟩:=h
    rw [a3] at e
    cases e
    exact .inr h1
  ·obtain ⟨q1,q2⟩:=dD j u' e1
   exact n.roots a (.inr ⟨j,u',r',q1,q2 ▸ e2,e3⟩)
theorem pT {r:Kd×U}{v:V}{i:Nat}{Post:Unit→ak→Prop} (ok0:Ok C c0) (ok:Ok C c) (n:Nx c0 c) (hi:i<c.σ.length) (hr:aG C c0 c r.1 r.2 v) (h:W (dP i r) c.st Post) :
  ∃ c',c'.σ=c.σ.set i (some v)∧c'.H=c.H∧Ok C c'∧Nx c0 c'∧Post () c'.st:=by
 obtain ⟨k,u⟩:=r
 cases k with
 |own =>
  obtain ⟨x,st',e,hp⟩:=h
  cases e
  obtain ⟨a1,a2⟩:=ok.put n hi (.inl rfl) ok0 hr
  exact ⟨{ c with σ:=c.σ.set i (some v),st:=c.st.set i (some (.own,u)) },rfl,rfl,a1,a2,hp⟩
 |loc =>
  obtain ⟨x,st',e,hp⟩:=h
  cases e
  obtain ⟨a1,a2⟩:=ok.put n hi (.inr (.inl rfl)) ok0 hr
  exact ⟨{ c with σ:=c.σ.set i (some v),st:=c.st.set i (some (.loc,u)) },rfl,rfl,a1,a2,hp⟩
 |any =>
  obtain ⟨x,st',e,hp⟩:=h
  cases e
  obtain ⟨a1,a2⟩:=ok.put n hi (.inr (.inr rfl)) ok0 hr
  exact ⟨{ c with σ:=c.σ.set i (some v),st:=c.st.set i (some (.any,u)) },rfl,rfl,a1,a2,hp⟩
 |io=>exact hr.elim
 |ownD=>exact hr.elim
 |bor j =>
  obtain ⟨x,st',e,hp⟩:=h
  rw [show dP i (.bor j,u) c.st=match c.st[j]? with|some (some (.own,u))=>some (Ex.ok (),(c.st.set j (some (.loc,u))).set i (some (.loc,u)))|_=>none from rfl] at e
  split at e
  ·rename_i w hj
   cases e
   obtain ⟨v',e1,r,er,_⟩:=ok.sl j _ _ hj
   have hv:c.σ[j]?=some (some v):=hr.2
   rw [hv] at e1
   cases e1
   subst er
   obtain ⟨ok',n',rep⟩:=ok.sD n hj hv
   obtain ⟨a1,a2⟩:=Ok.put (c:={ c with S:=fun a=>c.S a∨a=r,st:=c.st.set j (some (.loc,w)) }) ok' n' (k:=.loc) (u:=w) (v:=.ref r) hi (.inr (.inl rfl)) ok0 rep
   exact ⟨{ S:=fun a=>c.S a∨a=r,H:=c.H,σ:=c.σ.set i (some (.ref r)),st:=(c.st.set j (some (.loc,w))).set i (some (.loc,w)),kid:=c.kid },rfl,rfl,a1,a2,hp⟩
  ·cases e
end
end TM
namespace TM
open PySem L2 PyProof.Rows
section
variable {X : Cx} {C : Ct} {pins : List (Addr × Obj)} {s : Shared} {c0 c c1 : Cf}
variable {a b d e o tg : Expr} {es : List Expr} {m ma mb md : M (Kd × U)} {ms : M (List (Kd × U))} {ta tb : M Bool} {pos p p2 apos cpos : Pos}
noncomputable def tG (C:Ct) (t:Bool) (is:List Nat):TG:=fun v σ H Q=>∃ c0 c r,c.σ=σ∧c.H=H∧Ok C c0∧Ok C c∧Nx c0 c∧aG C c0 c r.1 r.2 v∧W (c7 t is r) c.st fun _ st' =>
 ∀ c',c'.st=st'→Ok C c'→Nx c0 c'→(∀ j,j∉is→c'.σ[j]?=c.σ[j]?)→c'.σ.length=c.σ.length→Q c'.σ c'.H
structure oo (X:Cx) (e:Expr) (i:Nat):Prop where
 is:∃ x pos,e=.Name x pos∧X.N[i]?=some x∧Loc X.env.scope x∧(X.fn x=true∨X.env.scope.names.lookup x=some .local)
theorem xN {i:Nat} (hN:X.N.Nodup) (h:oo X e i):PG X e (tG C false [i]):=by
 obtain ⟨x,pos,rfl,h1,h2,h3⟩:=h.is
 rintro pins s σ H v u Q I rv ⟨c0,c,r,rfl,rfl,ok0,ok,n,rep,w⟩
 have hi:i<c.σ.length:=by rw [I.len];exact (List.getElem?_eq_some_iff.mp h1).1
 obtain ⟨c',e1,e2,ok',n',q⟩:=pT (r:=r) ok0 ok n hi rep w
 refine ph hN h1 h2 h3 pins s c.σ c.H v u Q I rv ?_
 have z:=q c' rfl ok' n' (fun j hj=>by rw [e1,List.getElem?_set_ne (by intro z;exact hj (by simp [z]))]) (by rw [e1];simp)
 rw [e1,e2] at z
 exact z
noncomputable def gNs:List Nat→TGs
 |[]=>yu
 |i::is=>vV (pf i) (gNs is)
inductive dz (X:Cx):List Expr→List Nat→Prop where
 |nil:dz X [] []
 |cons {e:Expr} {es:List Expr} {i:Nat} {is:List Nat} (h:oo X e i) (t:dz X es is):dz X (e::es) (i::is)
theorem qU (hN:X.N.Nodup) {is:List Nat} (h:dz X es is):PGs X es (gNs is):=by
 induction h with
 |nil=>exact ui
 |cons h t ih =>
  obtain ⟨x,pos,rfl,h1,h2,h3⟩:=h.is
  exact rD (ph hN h1 h2 h3) ih rfl
theorem oq {is:List Nat} (h:dz X es is):(assignEach es X.env).length=is.length∧(assignEach es X.env).findIdx? (·.1)=none:=by
 induction h with
 |nil=>exact ⟨rfl,rfl⟩
 |cons h t ih =>
  obtain ⟨x,pos,rfl,h1,h2,h3⟩:=h.is
  refine ⟨?_,?_⟩
  ·show (_::_).length=_
   simp [ih.1]
  ·show List.findIdx? _ (_::_)=none
   rw [List.findIdx?_cons,if_neg (by simp),ih.2]
   rfl
theorem pU {k:Kd} (hk:kE k=k) (ok0:Ok C c0):∀ {is:List Nat}{us:List U}{vs:List V}{c:Cf}{Post:Unit→ak→Prop}{Q:L2.St→Hp→Prop},Ok C c→Nx c0 c→(∀ i∈is,i<c.σ.length)→ah C (SK C c k) c.H us vs→W (sets is (us.map fun u=>(k,u))) c.st Post →
  (∀ c',Post () c'.st→Ok C c'→Nx c0 c'→(∀ j,j∉is→c'.σ[j]?=c.σ[j]?)→c'.σ.length=c.σ.length→Q c'.σ c'.H)→gNs is vs c.σ c.H Q
 |[],[],vs,c,Post,Q,ok,n,hi,rep,w,q=>by
  rw [show sets [] (List.map (fun u=>(k,u)) [])=pure () from rfl,ai] at w
  exact ⟨rep,q c w ok n (fun _ _=>rfl) rfl⟩
 |[],u::us,vs,c,Post,Q,ok,n,hi,rep,w,q=>(aq.mp w).elim
 |i::is,[],vs,c,Post,Q,ok,n,hi,rep,w,q=>(aq.mp w).elim
 |i::is,u::us,vs,c,Post,Q,ok,n,hi,rep,w,q=>by
  rw [show sets (i::is) (List.map (fun u=>(k,u)) (u::us))=dP i (k,u) >>= fun _=>sets is (us.map fun u=>(k,u)) from rfl,ag] at w
  obtain ⟨v,r,rfl,h1,h2⟩:=rep
  have hk':k=.own∨k=.loc∨k=.any:=by cases k <;> simp [kE] at hk <;> simp
  have hni:k≠.own:=by cases k <;> simp [kE] at hk <;> simp
  have rt:aG C c0 c k u v:=by rw [←hk];exact aG.item h1
  obtain ⟨a1,a2⟩:=ok.put n (hi i (by simp)) hk' ok0 rt
  have es:dP i (k,u)=fun st=>some (.ok (),st.set i (some (k,u))):=by cases k <;> simp [kE] at hk <;> rfl
  obtain ⟨_,st',e,w'⟩:=w
  rw [es] at e
  cases e
  refine ⟨v,r,rfl,pU (c:={ c with σ:=c.σ.set i (some v),st:=c.st.set i (some (k,u)) }) hk ok0 a1 a2 (fun j hj=>by simpa using hi j (by simp [hj])) (by cases k <;> exact h2) w' fun c' p ok' n' hf hl=>?_⟩
  refine q c' p ok' n' (fun j hj=>?_) (by rw [hl];simp)
  rw [hf j (fun z=>hj (by simp [z])),List.getElem?_set_ne (fun z=>hj (by simp [z]))]
theorem yU {is:List Nat}{kk:Nat} (hc:X.calm=true) (hK:C.K=X.K) (hN:X.N.Nodup) (h:dz X es is) (hl:∀ i∈is,i<X.N.length):PG X (.Tuple es kk pos) (tG C true is):=by
 rintro pins s σ H v u Q I rv ⟨c0,c,r,rfl,rfl,ok0,ok,n,rep,w⟩
 obtain ⟨e1,e2⟩:=oq h
 refine wG hc (qU hN h) e1 e2 pins s c.σ c.H v u Q I rv ?_
 obtain ⟨k,ux⟩:=r
 cases ux with
 |tup us =>
  rw [show c7 true is (k,.tup us)=sets is (us.map fun u=>(kE k,u)) from by cases is <;> rfl] at w
  obtain ⟨a',vs,rfl,h1,h2⟩:=rep.tuple ok
  rw [hK] at h1
  have hlen:us.length=is.length:=by
   have aux:∀ (is:List Nat) (l:List (Kd×U)) (st:ak) (P:Unit→ak→Prop),W (sets is l) st P→l.length=is.length:=by
    intro is
    induction is with
    |nil=>intro l st P w;cases l with
     |nil=>rfl
     |cons _ _=>exact (aq.mp w).elim
    |cons i is ih=>intro l st P w;cases l with
     |nil=>exact (aq.mp w).elim
     |cons x l =>
      rw [show sets (i::is) (x::l)=dP i x >>= fun _=>sets is l from rfl,ag] at w
      obtain ⟨_,_,_,w⟩:=w
      rw [List.length_cons,List.length_cons,ih l _ _ w]
   simpa using aux _ _ _ _ w
  refine ⟨a',vs,rfl,h1,by rw [←h2.len,hlen],?_⟩
  refine pU (k:=kE k) (by cases k <;> rfl) ok0 ok n (fun i hi=>by rw [I.len];exact hl i hi) (by cases k <;> exact h2) w fun c' p ok' n' hf hl'=>p c' rfl ok' n' hf hl'
 |_=>cases is <;> exact (aq.mp w).elim
end
end TM
namespace TM
open PySem L2 PyProof.Rows
section
variable {X : Cx} {C : Ct} {pins : List (Addr × Obj)} {s : Shared} {c0 c c1 : Cf}
variable {a b d e o tg iter elt : Expr} {es ifs : List Expr} {m ma mb md me : M (Kd × U)} {ms : M (List (Kd × U))} {ta tb tc : M Bool} {pos p p2 apos cpos : Pos}
theorem qV {α:Type}{k:Nat}{m:M α}{st:ak}{Q:α→ak→Prop}:W (inScope k m) st Q↔W m (List.replicate k none++st) fun a st'=>Q a (st'.drop k):=by
 constructor
 ·rintro ⟨a,st',e,h⟩
  unfold inScope at e
  cases q:m (List.replicate k none++st) with
  |none=>rw [q] at e;cases e
  |some r=>obtain ⟨r1,r2⟩:=r;rw [q] at e;cases e;exact ⟨a,r2,q,h⟩
 ·rintro ⟨a,st',e,h⟩
  exact ⟨a,st'.drop k,by unfold inScope;rw [e],h⟩
noncomputable def Cf.ext (k:Nat) (c:Cf):Cf:={ c with σ:=List.replicate k none++c.σ,st:=List.replicate k none++c.st,kid:=fun j=>c.kid (j - k) }
noncomputable def Cf.cut (k:Nat) (c:Cf):Cf:={ c with σ:=c.σ.drop k,st:=c.st.drop k,kid:=fun j=>c.kid (k+j) }
theorem eJ {α:Type}{k j:Nat}{l:List (Option α)}{x:α} (h:(List.replicate k none++l)[j]?=some (some x)):∃ i,j=k+i∧l[i]?=some (some x):=by
 by_cases hj:j<k
 ·rw [List.getElem?_append_left (by simpa using hj)] at h
  rw [List.getElem?_replicate] at h
  rw [if_pos hj] at h
  cases h
 ·refine ⟨j - k,by omega,?_⟩
  rw [List.getElem?_append_right (by simp;omega)] at h
  simpa using h
theorem dA {α:Type}{k i:Nat}{l:List (Option α)}:(List.replicate k none++l)[k+i]?=l[i]?:=by
 rw [List.getElem?_append_right (by simp)]
 simp
theorem sJ {k:Nat}{r:Addr}:(c.ext k).R1 r↔c.R1 r:=by
 constructor
 ·rintro ⟨j,kd,u,h1,h2,h3⟩
  obtain ⟨i,rfl,e⟩:=eJ h2
  rw [Cf.ext,dA] at h3
  exact ⟨i,kd,u,h1,e,h3⟩
 ·rintro ⟨i,kd,u,h1,h2,h3⟩
  exact ⟨k+i,kd,u,h1,by rw [Cf.ext,dA];exact h2,by rw [Cf.ext,dA];exact h3⟩
theorem k7 {k j:Nat}{a:Addr} (h:(c.ext k).RD j a):∃ i,j=k+i∧c.RD i a:=by
 obtain ⟨u,r,e1,e2,e3⟩:=h
 obtain ⟨i,rfl,e⟩:=eJ e1
 rw [Cf.ext,dA] at e2
 refine ⟨i,rfl,u,r,e,e2,?_⟩
 have:(c.ext k).kid (k+i)=c.kid i:=by show c.kid (k+i - k)=_;rw [Nat.add_sub_cancel_left]
 rw [this] at e3
 exact e3
theorem yV {k:Nat}{r:Addr} (h:(c.ext k).R r):c.R r:=by
 rcases h with h|⟨j,h⟩
 ·exact .inl (sJ.mp h)
 ·obtain ⟨i,_,h⟩:=k7 h
  exact .inr ⟨i,h⟩
theorem Ok.ext (k:Nat) (ok:Ok C c):Ok C (c.ext k)∧Nx c (c.ext k):=by
 refine ⟨⟨ok.same,ok.sfr,ok.par,ok.io,by simp [Cf.ext,ok.len],fun j kd u e=>?_,fun i j k1 k2 u u' r h1 h2 e1 e2 e3 e4=>?_,⟨fun j u r e1 e2=>?_,fun i j a z1 z2=>?_,fun j a z1 z2=>?_⟩⟩,⟨⟨fun _ _ h _=>h,fun _ o h=>⟨o,h⟩,fun a h=>.inl (yV h),fun _ h=>h,fun _ h=>.inl h⟩,fun _ _ h=>h⟩⟩
 ·obtain ⟨i,rfl,e'⟩:=eJ e
  obtain ⟨v,e1,e2⟩:=ok.sl i kd u e'
  exact ⟨v,by rw [Cf.ext,dA];exact e1,e2⟩
 ·obtain ⟨i',rfl,e1'⟩:=eJ e1
  obtain ⟨j',rfl,e2'⟩:=eJ e2
  rw [Cf.ext,dA] at e3 e4
  rw [ok.inj i' j' k1 k2 u u' r h1 h2 e1' e2' e3 e4]
 ·obtain ⟨i,rfl,e⟩:=eJ e1
  rw [Cf.ext,dA] at e2
  have:(c.ext k).kid (k+i)=c.kid i:=by show c.kid (k+i - k)=_;rw [Nat.add_sub_cancel_left]
  rw [this]
  exact ok.dd.kd i u r e e2
 ·obtain ⟨i',rfl,y1⟩:=k7 z1
  obtain ⟨j',rfl,y2⟩:=k7 z2
  rw [ok.dd.dj i' j' a y1 y2]
 ·obtain ⟨i,rfl,y1⟩:=k7 z1
  exact ok.dd.d1 i a y1 (sJ.mp z2)
theorem sL {k:Nat}{a:Addr} (h:(c.cut k).R1 a):c.R1 a:=by
 obtain ⟨j,kd,u,h1,h2,h3⟩:=h
 rw [Cf.cut,List.getElem?_drop] at h2 h3
 exact ⟨k+j,kd,u,h1,h2,h3⟩
theorem k8 {k j:Nat}{a:Addr} (h:(c.cut k).RD j a):c.RD (k+j) a:=by
 obtain ⟨u,r,h1,h2,h3⟩:=h
 rw [Cf.cut,List.getElem?_drop] at h1 h2
 exact ⟨u,r,h1,h2,h3⟩
theorem Ok.cut (k:Nat) (ok:Ok C c):Ok C (c.cut k)∧Nx c (c.cut k):=by
 refine ⟨⟨ok.same,ok.sfr,ok.par,ok.io,by simp [Cf.cut,ok.len],fun j kd u e=>?_,fun i j k1 k2 u u' r h1 h2 e1 e2 e3 e4=>?_,⟨fun j u r e1 e2=>?_,fun i j a z1 z2=>?_,fun j a z1 z2=>ok.dd.d1 _ a (k8 z1) (sL z2)⟩⟩,⟨⟨fun _ _ h _=>h,fun _ o h=>⟨o,h⟩,fun a h=>.inl (h.elim (fun z=>.inl (sL z)) fun ⟨j,z⟩=>.inr ⟨k+j,k8 z⟩),fun _ h=>h,fun _ h=>.inl h⟩,fun _ _ h=>h⟩⟩
 ·rw [Cf.cut,List.getElem?_drop] at e
  obtain ⟨v,e1,e2⟩:=ok.sl _ kd u e
  exact ⟨v,by rw [Cf.cut,List.getElem?_drop];exact e1,e2⟩
 ·rw [Cf.cut,List.getElem?_drop] at e1 e2 e3 e4
  have:=ok.inj _ _ k1 k2 u u' r h1 h2 e1 e2 e3 e4
  omega
 ·rw [Cf.cut,List.getElem?_drop] at e1 e2
  exact ok.dd.kd _ u r e1 e2
 ·have:=ok.dd.dj _ _ a (k8 z1) (k8 z2)
  omega
theorem vk {k:Nat}{σ σ':L2.St} (h:∀ j,j∉List.range k→σ'[j]?=(List.replicate k none++σ)[j]?) (hl:σ'.length=(List.replicate k (none:Option V)++σ).length):∃ own:L2.St,own.length=k∧σ'=own++σ:=by
 refine ⟨σ'.take k,by rw [List.length_take,hl];simp,?_⟩
 apply List.ext_getElem?
 intro j
 by_cases hj:j<k
 ·rw [List.getElem?_append_left (by rw [List.length_take,hl];simp;omega),List.getElem?_take,if_pos hj]
 ·rw [h j (by simpa using hj),List.getElem?_append_right (by simp;omega),List.getElem?_append_right (by rw [List.length_take,hl];simp;omega)]
  congr 1
  rw [List.length_take,hl]
  simp
theorem jS {k:Nat}{t:Bool}{ik:Ik}{Q:VK} (ok:Ok C c0)
  (h:W (ms >>= fun rs=>ar rs >>= fun _=>M.ofO (itU ik rs) >>= fun xs=>bA k t tc me rs xs [] >>= fun us=>pure (Kd.own,U.lst us)) c0.st (bR C c0 Q)) :
  rT k (tIt C ik ms) (tG C t (List.range k)) (tTs C tc) (tEv C me) c0.σ c0.H Q:=by
 rw [ag] at h
 refine ⟨c0,rfl,rfl,ok,?_⟩
 rw [ag]
 refine h.mono fun rs st1 h1=>?_
 rw [ag,bT] at h1 ⊢
 refine ⟨h1.1,?_⟩
 have h2:=h1.2
 rw [ag] at h2 ⊢
 refine h2.mono fun xs st2 h3=>?_
 rw [ai]
 intro c1 J e1 e2 ok1 n1 hst hw
 rw [ag] at h3
 subst e2
 dsimp only at hst hw
 refine ⟨fun i m ys H=>∃ c acc,c.H=H∧c.σ=c0.σ∧Ok C c∧Nx c1 c∧m=xs.length - i∧i≤xs.length∧ah C c.S c.H acc ys∧acc.length≤sizeLine∧W (bA k t tc me rs (xs.drop i) acc) c.st fun us st'=>W (pure (Kd.own,U.lst us)) st' (bR C c0 Q),⟨xs.length,c1,[],rfl,e1,ok1,Nx.refl c1,by simp,Nat.zero_le _,rfl,Nat.zero_le _,by simpa using h3⟩,?_⟩
 rintro i m ys H ⟨c,acc,rfl,e3,okc,nc,rfl,hi,rep,hlen,w⟩
 refine ⟨by rw [←rep.len];exact hlen,?_⟩
 have fixed:jR rs c1 c:=fun j u _=>by rw [e3,e1]
 by_cases hlt:i<xs.length
 ·right
  rw [List.drop_eq_getElem_cons hlt] at w
  rw [show bA k t tc me rs (xs[i]::xs.drop (i+1)) acc=ar rs >>= fun _=>inScope k (c7 t (List.range k) xs[i] >>= fun _=>tc >>= fun b=>if b=true then (me >>= fun r=>lift r >>= fun u=>pure (some u)) else pure none) >>= fun r=>match r with|some u=>if acc.length<sizeLine then bA k t tc me rs (xs.drop (i+1)) (acc++[u]) else M.fail|none=>bA k t tc me rs (xs.drop (i+1)) acc from rfl,ag,bT] at w
  obtain ⟨hstab,w⟩:=w
  obtain ⟨wk,_⟩:=hw c okc nc fixed hstab
  obtain ⟨hla,hgo,hyl⟩:=wk i xs[i] (by simp [hlt])
  refine ⟨hgo,fun ys' H'=>∃ c acc,c.H=H'∧c.σ=c0.σ∧Ok C c∧Nx c1 c∧ah C c.S c.H acc ys'∧acc.length≤sizeLine∧W (bA k t tc me rs (xs.drop (i+1)) acc) c.st fun us st'=>W (pure (Kd.own,U.lst us)) st' (bR C c0 Q),fun ys' H' ⟨c',acc',z1,z2,z3,z4,z5,z6,z7⟩=>⟨xs.length - (i+1),by omega,c',acc',z1,z2,z3,z4,rfl,hlt,z5,z6,z7⟩,fun x H' hy=>?_⟩
  obtain ⟨c2,rfl,e4,e5,ok2,n2,rt⟩:=hyl x H' hy
  rw [ag,qV,ag] at w
  obtain ⟨okx,nx⟩:=ok2.ext k
  have rtx:aG C (c2.ext k) (c2.ext k) xs[i].1 xs[i].2 x:=by
   rcases hla with z|z
   ·rw [z] at rt ⊢;exact rt
   ·rw [z] at rt ⊢;exact rt
  have eσ:(c2.ext k).σ=List.replicate k none++c0.σ:=by rw [Cf.ext];show List.replicate k none++c2.σ=_;rw [e4,e3]
  refine ⟨c2.ext k,c2.ext k,xs[i],eσ,rfl,okx,okx,Nx.refl _,rtx,?_⟩
  have est:(c2.ext k).st=List.replicate k none++c.st:=by rw [Cf.ext];show List.replicate k none++c2.st=_;rw [e5]
  rw [est]
  refine w.mono fun _ st3 w3 c3 e6 ok3 n3 hfix hl3=>?_
  subst e6
  rw [eσ] at hfix hl3
  obtain ⟨own,ho1,ho2⟩:=vk hfix hl3
  refine ⟨own,ho1,ho2,?_⟩
  have nc3:Nx c c3:=(n2.trans nx).trans n3
  rw [ag] at w3
  refine ⟨c3,rfl,rfl,ok3,w3.mono fun b st4 w4 c4 e7 e8 ok4 n4=>?_⟩
  subst e8
  cases b with
  |false =>
   rw [if_neg Bool.false_ne_true] at w4 ⊢
   rw [ai] at w4
   obtain ⟨okk,nk⟩:=ok4.cut k
   have nn:Nx c (c4.cut k):=(nc3.trans n4).trans nk
   refine ⟨c4.cut k,acc,rfl,?_,okk,nc.trans nn,rep.mv (okc.mv nn),hlen,w4⟩
   show c4.σ.drop k=_
   rw [e7,ho2,List.drop_left' ho1]
  |true =>
   rw [if_pos rfl] at w4 ⊢
   rw [ag] at w4
   refine ⟨c4,e7,rfl,ok4,w4.mono fun r st5 w5 c5 v e9 e10 ok5 n5 rt5=>?_⟩
   subst e10
   rw [ag] at w5
   obtain ⟨S',st',u,sS,ok6,n6,rep6,w6,_,_⟩:=kZ ok4 ok5 n5 rt5.w w5
   rw [ai] at w6
   dsimp only at w6
   split at w6
   ·rename_i hz
    obtain ⟨okk,nk⟩:=ok6.cut k
    have nn:Nx c (Cf.cut k { c5 with S:=S',st:=st' }):=((nc3.trans n4).trans n6).trans nk
    refine ⟨Cf.cut k { c5 with S:=S',st:=st' },acc++[u],rfl,?_,okk,nc.trans nn,(rep.mv (okc.mv nn)).snoc rep6,by rw [List.length_append];exact hz,w6⟩
    show c5.σ.drop k=_
    rw [e9,ho2,List.drop_left' ho1]
   ·exact (aq.mp w6).elim
 ·left
  have hi':i=xs.length:=by omega
  subst hi'
  rw [List.drop_length,show bA k t tc me rs [] acc=ar rs >>= fun _=>pure acc from rfl,ag,bT,ai,ai] at w
  obtain ⟨_,wk⟩:=hw c okc nc fixed w.1
  exact ⟨wk _ (Nat.le_refl _),fun p hp=>bR.list w.2 e3 okc (n1.trans nc) rep p hp⟩
theorem sM {N own:List Str}{scope:Scope}{t:Bool}{ik:Ik} (S:cS X N own scope) (hc:X.calm=true) (hi:PI X tg iter (tIt C ik ms))
  (hg:∀ D s H ex,PG (cxC X N scope D s H ex) tg (tG C t (List.range own.length))) (hf:∀ D s H ex,PIf (cxC X N scope D s H ex) ifs (tTs C tc)) (he:∀ D s H ex,PE (cxC X N scope D s H ex) elt (tEv C me))
  (hs:∀ x,foldedSetIterable iter X.env x=pure x) :
  PE X (.ListComp elt [⟨tg,iter,ifs,0⟩] scope pos) (tEv C (ms >>= fun rs=>ar rs >>= fun _=>M.ofO (itU ik rs) >>= fun xs=>bA own.length t tc me rs xs [] >>= fun us=>pure (.own,.lst us))):=by
 refine PE.weak (uE S hc hi hg hf he hs) ?_
 rintro σ H Q ⟨c0,rfl,rfl,ok,h⟩
 exact jS ok h
end
end TM
namespace TM
open PySem L2 PyProof.Rows
section
variable {X : Cx} {C : Ct} {pins : List (Addr × Obj)} {s : Shared} {c0 c c1 : Cf}
variable {a b d e o tg iter elt : Expr} {es ifs : List Expr} {m ma mb md me : M (Kd × U)} {ms : M (List (Kd × U))} {ta tb tc : M Bool} {pos p p2 apos cpos : Pos} {st : Stmt} {rest body : List Stmt} {f g mm : M Fl} {ns ns' : Nat → Bool}
noncomputable def yW (C:Ct) (c:Cf):Kd→U→V→Prop
 |.own,u,v=>∃ r,v=.ref r∧C.H₀ r=none∧¬ c.S r∧¬ c.R r∧cN C c.S c.H r u
 |.loc,u,v=>Rep C c.S c.H u v
 |_,_,_=>False
noncomputable def Fin (C:Ct) (D:Ends) (f:Fl) (c:Cf):Prop:=match f with
 |.nx=>D.nx c.σ c.H
 |.bk=>D.bk c.σ c.H
 |.ct=>D.ct c.σ c.H
 |.rt k u=>∀ v,yW C c k u v→D.rt v c.H
noncomputable def Kept (ns:Nat→Bool) (c c':Cf):Prop:=(∀ j,ns j=true→c'.σ[j]?=c.σ[j]?)∧c'.σ.length=c.σ.length
theorem Kept.refl:Kept ns c c:=⟨fun _ _=>rfl,rfl⟩
theorem Kept.trans {c' c'':Cf} (h:Kept ns c c') (h':Kept ns c' c''):Kept ns c c'':=⟨fun j z=>(h'.1 j z).trans (h.1 j z),h'.2.trans h.2⟩
theorem Kept.le {c':Cf} (i:∀ j,ns' j=true→ns j=true) (h:Kept ns c c'):Kept ns' c c':=⟨fun j z=>h.1 j (i j z),h.2⟩
theorem Kept.of {c':Cf} (h:c'.σ=c.σ):Kept ns c c':=⟨fun j z=>by rw [h],by rw [h]⟩
noncomputable def iM (C:Ct) (c0:Cf) (ns:Nat→Bool) (D:Ends) (f:Fl) (st':ak):Prop:=∀ c,c.st=st'→Ok C c→Ns c0 c→Kept ns c0 c→Fin C D f c
noncomputable def tEx (C:Ct) (ns:Nat→Bool) (m:M Fl):TS:=fun D σ H=>∃ c0:Cf,c0.σ=σ∧c0.H=H∧Ok C c0∧W m c0.st (iM C c0 ns D)
theorem ot {D:Ends} (ok:Ok C c1) (n:Ns c0 c1) (k:Kept ns c0 c1) (h:W mm c1.st (iM C c0 ns D)):tEx C ns mm D c1.σ c1.H :=
 ⟨c1,rfl,rfl,ok,h.mono fun f st h2 c2 e ok2 n2 k2=>h2 c2 e ok2 (n.trans n2) (k.trans k2)⟩
theorem PS.weak {t t':TS} (h:L2.PS X st t) (i:∀ D σ H,t' D σ H→t D σ H):L2.PS X st t':=fun pins s σ H D I q=>h pins s σ H D I (i D σ H q)
theorem PSs.weak {t t':TS} (h:PSs X rest t) (i:∀ D σ H,t' D σ H→t D σ H):PSs X rest t':=fun pins s σ H D I q=>h pins s σ H D I (i D σ H q)
theorem k9 {D:Ends}{σ:L2.St}{H:Hp} (i:∀ j,ns' j=true→ns j=true) (h:tEx C ns' mm D σ H):tEx C ns mm D σ H :=
 let ⟨c0,e1,e2,ok,w⟩:=h;⟨c0,e1,e2,ok,w.mono fun f st h2 c2 e ok2 n2 k2=>h2 c2 e ok2 n2 (k2.le i)⟩
theorem yX:PSs X [] (tEx C ns (pure .nx)):=by
 refine PSs.weak ue ?_
 rintro D σ H ⟨c0,rfl,rfl,ok,h⟩
 rw [ai] at h
 exact h c0 rfl ok (Ns.refl c0) Kept.refl
noncomputable def vm (m:M Fl) (f:Fl):M Fl:=match f with
 |.nx=>m
 |f=>pure f
theorem xO (h1:L2.PS X st (tEx C ns f)) (h2:PSs X rest (tEx C ns g)):PSs X (st::rest) (tEx C ns (f >>= vm g)):=by
 refine PSs.weak (rB h1 h2) ?_
 rintro D σ H ⟨c0,rfl,rfl,ok,h⟩
 rw [ag] at h
 refine ⟨c0,rfl,rfl,ok,h.mono fun fl st1 w c1 e ok1 n1 k1=>?_⟩
 subst e
 cases fl with
 |nx=>exact ot ok1 n1 k1 w
 |bk=>rw [show vm g .bk=pure .bk from rfl,ai] at w;exact w c1 rfl ok1 n1 k1
 |ct=>rw [show vm g .ct=pure .ct from rfl,ai] at w;exact w c1 rfl ok1 n1 k1
 |rt k u=>rw [show vm g (.rt k u)=pure (.rt k u) from rfl,ai] at w;exact w c1 rfl ok1 n1 k1
theorem yY:L2.PS X (.Break pos) (tEx C ns (pure .bk)):=by
 refine PS.weak rC ?_
 rintro D σ H ⟨c0,rfl,rfl,ok,h⟩
 rw [ai] at h
 exact h c0 rfl ok (Ns.refl c0) Kept.refl
theorem yZ:L2.PS X (.Continue pos) (tEx C ns (pure .ct)):=by
 refine PS.weak lS ?_
 rintro D σ H ⟨c0,rfl,rfl,ok,h⟩
 rw [ai] at h
 exact h c0 rfl ok (Ns.refl c0) Kept.refl
theorem y0:L2.PS X (.Pass pos) (tEx C ns (pure .nx)):=by
 refine PS.weak uf ?_
 rintro D σ H ⟨c0,rfl,rfl,ok,h⟩
 rw [ai] at h
 exact h c0 rfl ok (Ns.refl c0) Kept.refl
theorem y6 (ha:PE X a (tEv C ma)) (hs:swapsWith a none pos.line X.env=pure false):L2.PS X (.Expr a pos) (tEx C ns (ma >>= fun _=>pure .nx)):=by
 refine PS.weak (ki ha hs) ?_
 rintro D σ H ⟨c0,rfl,rfl,ok,h⟩
 refine aZ ok h fun x c v t w=>?_
 rw [ai] at w
 have:=w c rfl t.ok t.nx (Kept.of t.hσ)
 rw [←t.hσ]
 exact this
theorem xP:L2.PS X (.Return none pos) (tEx C ns (pure (.rt .loc .non))):=by
 refine PS.weak ug ?_
 rintro D σ H ⟨c0,rfl,rfl,ok,h⟩
 rw [ai] at h
 exact h c0 rfl ok (Ns.refl c0) Kept.refl .non rfl
theorem y7 (ha:PE X a (tEv C ma)):L2.PS X (.Return (some a) pos) (tEx C ns (ma >>= retS)):=by
 refine PS.weak (wF ha) ?_
 rintro D σ H ⟨c0,rfl,rfl,ok,h⟩
 refine aZ ok h fun x c v t w=>?_
 obtain ⟨k,u⟩:=x
 obtain ⟨hσ,okc,n,r⟩:=t
 cases k with
 |own =>
  rw [show retS (.own,u)=pure (.rt .own u) from rfl,ai] at w
  obtain ⟨r0,e,h1,h2,h3,h4⟩:=r
  exact w c rfl okc n (Kept.of hσ) v ⟨r0,e,(ok.oe h1).1,h2,h3,h4⟩
 |loc =>
  rw [show retS (.loc,u)=pure (.rt .loc u) from rfl,ai] at w
  exact w c rfl okc n (Kept.of hσ) v r
 |any =>
  rw [show retS (.any,u)=if imm u=true then pure (.rt .loc u) else M.fail from rfl] at w
  split at w
  ·rw [ai] at w
   exact w c rfl okc n (Kept.of hσ) v (Rep.imm (by assumption) r)
  ·exact (aq.mp w).elim
 |io=>exact r.elim
 |ownD=>exact r.elim
 |bor j =>
  obtain ⟨fl,st',e,w⟩:=w
  rw [show retS (.bor j,u) c.st=match c.st[j]? with|some (some (.own,u))=>some (Ex.ok (Fl.rt .own u),c.st.set j none)|_=>none from rfl] at e
  split at e
  ·rename_i u' hj
   cases e
   have hjl:j<c.st.length:=(List.getElem?_eq_some_iff.mp hj).1
   have oth:∀ (i:Nat) k u',(c.st.set j none)[i]?=some (some (k,u'))→i≠j∧c.st[i]?=some (some (k,u')):=fun i k u' e=>by
    by_cases hij:i=j
    ·subst hij;rw [List.getElem?_set_self hjl] at e;cases e
    ·rw [List.getElem?_set_ne (Ne.symm hij)] at e;exact ⟨hij,e⟩
   obtain ⟨v',e1,r0,er,q1,q2,q3,q4⟩:=okc.sl j _ _ hj
   have hv:c.σ[j]?=some (some v):=r.2
   rw [hv] at e1
   cases e1
   subst er
   have hR1:∀ a,({ c with st:=c.st.set j none }:Cf).R1 a→c.R1 a:=fun a ⟨i,k,u2,hk,e1,e2⟩=>⟨i,k,u2,hk,(oth i k u2 e1).2,e2⟩
   have hR:∀ a,({ c with st:=c.st.set j none }:Cf).R a→c.R a:=fun a z=>z.elim (fun z=>.inl (hR1 a z)) fun ⟨i,u2,r2,e1,e2,e3⟩=>.inr ⟨i,u2,r2,(oth i .ownD u2 e1).2,e2,e3⟩
   have hdd:DOk C { c with st:=c.st.set j none }:=okc.dd.of rfl (fun i u2 e=>⟨(oth i .ownD u2 e).2,rfl⟩) (fun a z=>.inl (hR1 a z)) (.up fun _ z=>z) fun i a z=>⟨(okc.root (.inr ⟨i,z⟩)).1,fun o q=>q⟩
   have okn:Ok C { c with st:=c.st.set j none }:=⟨okc.same,okc.sfr,okc.par,okc.io,by simp [okc.len],fun i k u2 e=>okc.sl i k u2 (oth i k u2 e).2,fun i i' k k' u1 u2 r hk hk' e1 e2 e3 e4=>okc.inj i i' k k' u1 u2 r hk hk' (oth i k u1 e1).2 (oth i' k' u2 e2).2 e3 e4,hdd⟩
   have nn:Ns c0 { c with st:=c.st.set j none }:=⟨n.keep,n.there,fun a z=>n.roots a (hR a z),n.sub,n.new⟩
   refine w { c with st:=c.st.set j none } rfl okn nn (Kept.of hσ) (.ref r0) ⟨r0,rfl,q3,q1,fun z=>?_,q4⟩
   ·rcases z with ⟨i,k,u2,hk,e1,e2⟩|⟨i,u2,r2,e1,e2,e3⟩
    ·obtain ⟨ne,e1'⟩:=oth i k u2 e1
     exact ne (okc.inj i j k .own u2 _ r0 hk rfl e1' hj e2 hv)
    ·exact okc.dd.d1 i r0 ⟨u2,r2,(oth i .ownD u2 e1).2,e2,e3⟩ ⟨j,.own,_,rfl,hj,hv⟩
  ·cases e
end
end TM
namespace TM
open PySem L2 PyProof.Rows
section
variable {X : Cx} {C : Ct} {pins : List (Addr × Obj)} {s : Shared} {c0 c c1 : Cf}
variable {a b d e o tg iter elt : Expr} {es ifs : List Expr} {m ma mb md me : M (Kd × U)} {ms : M (List (Kd × U))} {ta tb tc : M Bool} {pos p p2 apos cpos : Pos} {st : Stmt} {rest body : List Stmt} {f g mm : M Fl} {ns ns' : Nat → Bool}
theorem mH {i:Nat}{D:Ends}{r:Kd×U}{v:V} (hns:∀ j,ns j=true→j≠i) (ok0:Ok C c0) (t:At1 C c0 c r v) (hi:i<c.σ.length) (w:W (dP i r >>= fun _=>(pure .nx:M Fl)) c.st (iM C c0 ns D)):D.nx (c0.σ.set i (some v)) c.H:=by
 rw [ag] at w
 obtain ⟨c',e1,e2,ok',n',q⟩:=pT (r:=r) ok0 t.ok t.nx hi t.rx w
 rw [ai] at q
 have z:=q c' rfl ok' n' ⟨fun j hj=>by rw [e1,t.hσ,List.getElem?_set_ne (Ne.symm (hns j hj))],by rw [e1,t.hσ];simp⟩
 have z':D.nx c'.σ c'.H:=z
 rw [e1,e2,t.hσ] at z'
 exact z'
theorem v8 {i:Nat}{x:Str}{pos':Pos} (hns:∀ j,ns j=true→j≠i) (hN:X.N.Nodup) (hi:X.N[i]?=some x) (hx:Loc X.env.scope x) (hf:X.fn x=true∨X.env.scope.names.lookup x=some .local) (ha:PE X a (tEv C ma))
  (hs:swapsWith a (some (.Name x pos')) pos.line X.env=pure false):L2.PS X (.Assign [.Name x pos'] a pos) (tEx C ns (ma >>= fun r=>dP i r >>= fun _=>pure .nx)):=by
 rintro pins s σ H D I ⟨c0,rfl,rfl,ok,h⟩
 have hil:i<c0.σ.length:=by rw [I.len];exact (List.getElem?_eq_some_iff.mp hi).1
 exact wJ hN hi hx ha hs hf pins s c0.σ c0.H D I (aZ ok h fun r c v t w=>mH hns ok t (by rw [t.hσ];exact hil) w)
theorem xQ {N own:List Str}{scope:Scope}{t:Bool}{ik:Ik}{i:Nat}{y:Str}{py spos:Pos} (hns:∀ j,ns j=true→j≠i) (S:cS X N own scope) (hc:X.calm=true) (hN:X.N.Nodup) (hiN:X.N[i]?=some y) (hy:X.env.scope.names.lookup y=some .local)
  (hi:PI X tg iter (tIt C ik ms)) (hg:∀ D s H ex,PG (cxC X N scope D s H ex) tg (tG C t (List.range own.length))) (hf:∀ D s H ex,PIf (cxC X N scope D s H ex) ifs (tTs C tc)) (he:∀ D s H ex,PE (cxC X N scope D s H ex) elt (tEv C me))
  (hsw:swapsWith (.ListComp elt [⟨tg,iter,ifs,0⟩] scope pos) (some (.Name y py)) spos.line X.env=pure true) (hs:∀ x,foldedSetIterable iter X.env x=pure x) :
  L2.PS X (.Assign [.Name y py] (.ListComp elt [⟨tg,iter,ifs,0⟩] scope pos) spos)
   (tEx C ns ((ms >>= fun rs=>ar rs >>= fun _=>M.ofO (itU ik rs) >>= fun xs=>bA own.length t tc me rs xs [] >>= fun us=>pure (.own,.lst us)) >>= fun r=>dP i r >>= fun _=>pure .nx)):=by
 rintro pins s σ H D I ⟨c0,rfl,rfl,ok,h⟩
 have hil:i<c0.σ.length:=by rw [I.len];exact (List.getElem?_eq_some_iff.mp hiN).1
 refine uF S hc hN hiN hy hi hg hf he hsw hs pins s c0.σ c0.H D I ?_
 rw [ag] at h
 refine jS ok (h.mono fun r st1 w c v e1 e2 okc n rt=>?_)
 subst e2
 exact mH hns ok ⟨e1,okc,n,rt⟩ (by rw [e1];exact hil) w
theorem xR {is:List Nat} (hns:∀ j,ns j=true→j∉is) (ha:PE X a (tEv C ma)) (hg:PG X tg (tG C true is)) (hs:swapsWithSole [tg] a pos.line X.env=pure false) (hw:swappedStores [tg] a X.env=pure none) (h1:(assignEach [tg] X.env).map (·.2)=[assign tg X.env]) :
  L2.PS X (.Assign [tg] a pos) (tEx C ns (ma >>= fun r=>c7 true is r >>= fun _=>pure .nx)):=by
 refine PS.weak (rE ha hg hs hw h1) ?_
 rintro D σ H ⟨c0,rfl,rfl,ok,h⟩
 refine aZ ok h fun r c v t w=>?_
 rw [ag] at w
 refine ⟨c0,c,r,t.hσ,rfl,ok,t.ok,t.nx,t.rx,w.mono fun _ st1 w1 c' e ok' n' hf hl=>?_⟩
 subst e
 rw [ai] at w1
 exact w1 c' rfl ok' n' ⟨fun j hj=>by rw [hf j (hns j hj),t.hσ],by rw [hl,t.hσ]⟩
theorem y8 {ca cb:List Stmt} (hc:PT X a (tTs C ta)) (h1:PSs X ca (tEx C ns f)) (h2:PSs X cb (tEx C ns g)):L2.PS X (.If a ca cb pos) (tEx C ns (ta >>= fun p=>if p=true then f else g)):=by
 refine PS.weak (yt hc h1 h2) ?_
 rintro D σ H ⟨c0,rfl,rfl,ok,h⟩
 refine d8 ok h fun p c hσ okc n w=>?_
 have e:c0.σ=c.σ:=hσ.symm
 rw [e]
 cases p with
 |true=>rw [if_pos rfl] at w ⊢;exact ot okc n (Kept.of hσ) w
 |false=>rw [if_neg Bool.false_ne_true] at w ⊢;exact ot okc n (Kept.of hσ) w
theorem y9 (hp:PassesOwn (model X.prog X.w) X.A X.env X.xe) (hc:PT X a (tTs C ta)) (hb:PSs X body (tEx C ns f)) {n:Nat}:L2.PS X (.While a body [] pos) (tEx C ns (kW ta f n)):=by
 refine PS.weak (rF hp hc hb) ?_
 rintro D σ H ⟨c0,rfl,rfl,ok,h⟩
 refine ⟨fun m σ' H'=>∃ c,c.H=H'∧c.σ=σ'∧Ok C c∧Ns c0 c∧Kept ns c0 c∧W (kW ta f m) c.st (iM C c0 ns D),⟨n,c0,rfl,rfl,ok,Ns.refl c0,Kept.refl,h⟩,?_⟩
 rintro m σ' H' ⟨c,rfl,rfl,okc,nc,kc,w⟩
 cases m with
 |zero=>exact (aq.mp w).elim
 |succ m =>
  rw [show kW ta f (m+1)=ta >>= fun b=>if b=true then (f >>= fun f'=>match f' with|.nx=>kW ta f m|.ct=>kW ta f m|.bk=>pure .nx|.rt k u=>pure (.rt k u)) else pure .nx from rfl] at w
  refine d8 okc w fun p c2 hσ ok2 n2 w2=>?_
  have k2:Kept ns c c2:=Kept.of hσ
  rw [←hσ]
  cases p with
  |false =>
   rw [if_neg Bool.false_ne_true] at w2 ⊢
   rw [ai] at w2
   exact w2 c2 rfl ok2 (nc.trans n2) (kc.trans k2)
  |true =>
   rw [if_pos rfl] at w2 ⊢
   refine ⟨fun σ'' H''=>∃ c,c.H=H''∧c.σ=σ''∧Ok C c∧Ns c0 c∧Kept ns c0 c∧W (kW ta f m) c.st (iM C c0 ns D),fun σ'' H'' z=>⟨m,Nat.lt_succ_self m,z⟩,?_⟩
   rw [ag] at w2
   refine ⟨c2,rfl,rfl,ok2,w2.mono fun fl st3 w3 c3 e ok3 n3 k3=>?_⟩
   subst e
   have n03:=(nc.trans n2).trans n3
   have k03:=(kc.trans k2).trans k3
   cases fl with
   |nx=>exact ⟨c3,rfl,rfl,ok3,n03,k03,w3⟩
   |ct=>exact ⟨c3,rfl,rfl,ok3,n03,k03,w3⟩
   |bk=>rw [ai] at w3;exact w3 c3 rfl ok3 n03 k03
   |rt k u=>rw [ai] at w3;exact w3 c3 rfl ok3 n03 k03
theorem y_ {t:Bool}{is:List Nat}{ik:Ik}{sb:List S} (hp:PassesOwn (model X.prog X.w) X.A X.env X.xe) (hc:X.calm=true) (hi:PI X tg iter (tIt C ik ms)) (hg:PG X tg (tG C t is)) (hb:PSs X body (tEx C (nsL sb) f)) (hs:∀ x,foldedSetIterable iter X.env x=pure x)
  (hns:∀ j,ns j=true→j∉is∧nsL sb j=true) :
  L2.PS X (.For tg iter body [] pos) (tEx C ns (ms >>= fun rs=>ar rs >>= fun _=>M.ofO (itU ik rs) >>= fun xs=>if pI rs is sb=true then forM t is f rs xs else M.fail)):=by
 refine PS.weak (wN hp hc hi hg hb hs) ?_
 rintro D σ H ⟨c0,rfl,rfl,ok,h⟩
 rw [ag] at h
 refine ⟨c0,rfl,rfl,ok,?_⟩
 rw [ag]
 refine h.mono fun rs st1 h1=>?_
 rw [ag,bT] at h1 ⊢
 refine ⟨h1.1,?_⟩
 have h2:=h1.2
 rw [ag] at h2 ⊢
 refine h2.mono fun xs st2 h3=>?_
 rw [ai]
 intro c1 J e1 e2 ok1 n1 hst hw
 subst e2
 dsimp only at hst hw
 split at h3
 ·rename_i hsrc
  have srcK:∀ j u,(Kd.bor j,u)∈rs→j∉is∧nsL sb j=true:=fun j u hm=>by
   have:=List.all_eq_true.mp hsrc _ hm
   simpa using this
  refine ⟨fun i m σ' H'=>∃ c,c.H=H'∧c.σ=σ'∧Ok C c∧Ns c1 c∧Kept ns c0 c∧jR rs c1 c∧m=xs.length - i∧i≤xs.length∧W (forM t is f rs (xs.drop i)) c.st (iM C c0 ns D),
   ⟨xs.length,c1,rfl,e1,ok1,Ns.refl c1,Kept.of e1,fun _ _ _=>rfl,by simp,Nat.zero_le _,by simpa using h3⟩,?_⟩
  rintro i m σ' H' ⟨c,rfl,rfl,okc,nc,kc,fx,rfl,hi',w⟩
  by_cases hlt:i<xs.length
  ·right
   rw [List.drop_eq_getElem_cons hlt,show forM t is f rs (xs[i]::xs.drop (i+1))=ar rs >>= fun _=>c7 t is xs[i] >>= fun _=>f >>= fun f'=>match f' with|.nx=>forM t is f rs (xs.drop (i+1))|.ct=>forM t is f rs (xs.drop (i+1))|.bk=>pure .nx|.rt k u=>pure (.rt k u) from rfl,ag,bT] at w
   obtain ⟨hstab,w⟩:=w
   obtain ⟨wk,_⟩:=hw c okc nc fx hstab
   obtain ⟨hla,hgo,hyl⟩:=wk i xs[i] (by simp [hlt])
   refine ⟨hgo,fun σ' H'=>∃ c,c.H=H'∧c.σ=σ'∧Ok C c∧Ns c1 c∧Kept ns c0 c∧jR rs c1 c∧W (forM t is f rs (xs.drop (i+1))) c.st (iM C c0 ns D),fun σ' H' ⟨c',z1,z2,z3,z4,z5,z6,z7⟩=>⟨xs.length - (i+1),by omega,c',z1,z2,z3,z4,z5,z6,rfl,hlt,z7⟩,fun x H' hy=>?_⟩
   obtain ⟨c2,rfl,e4,e5,ok2,n2,rt⟩:=hyl x H' hy
   rw [ag] at w
   have rt':aG C c2 c2 xs[i].1 xs[i].2 x:=by
    rcases hla with z|z
    ·rw [z] at rt ⊢;exact rt
    ·rw [z] at rt ⊢;exact rt
   refine ⟨c2,c2,xs[i],e4,rfl,ok2,ok2,Nx.refl c2,rt',?_⟩
   rw [e5]
   refine w.mono fun _ st3 w3 c3 e6 ok3 n3 hf3 hl3=>?_
   subst e6
   rw [ag] at w3
   refine ⟨c3,rfl,rfl,ok3,w3.mono fun fl st4 w4 c4 e ok4 n4 k4=>?_⟩
   subst e
   have n14:Ns c1 c4:=((nc.trans n2.toNs).trans n3.toNs).trans n4
   have k04:Kept ns c0 c4:=by
    refine kc.trans ⟨fun j hj=>?_,by rw [k4.2,hl3,e4]⟩
    obtain ⟨j1,j2⟩:=hns j hj
    rw [k4.1 j j2,hf3 j j1,e4]
   have f14:jR rs c1 c4:=fun j u hm=>by
    obtain ⟨j1,j2⟩:=srcK j u hm
    rw [k4.1 j j2,hf3 j j1,e4]
    exact fx j u hm
   cases fl with
   |nx=>exact ⟨c4,rfl,rfl,ok4,n14,k04,f14,w4⟩
   |ct=>exact ⟨c4,rfl,rfl,ok4,n14,k04,f14,w4⟩
   |bk=>rw [ai] at w4;exact w4 c4 rfl ok4 (n1.toNs.trans n14) k04
   |rt k u=>rw [ai] at w4;exact w4 c4 rfl ok4 (n1.toNs.trans n14) k04
  ·left
   have hi2:i=xs.length:=by omega
   subst hi2
   rw [List.drop_length,show forM t is f rs []=ar rs >>= fun _=>pure .nx from rfl,ag,bT,ai] at w
   obtain ⟨_,wk⟩:=hw c okc nc fx w.1
   exact ⟨wk _ (Nat.le_refl _),w.2 c rfl okc (n1.toNs.trans nc) kc⟩
 ·exact (aq.mp h3).elim
end
end TM
namespace TM
open PySem L2 PyProof.Rows
section
variable {X : Cx} {C : Ct} {pins : List (Addr × Obj)} {s : Shared} {c0 c c1 : Cf}
variable {a b d e o tg iter elt : Expr} {es ifs : List Expr} {m ma mb md me : M (Kd × U)} {ms : M (List (Kd × U))} {ta tb tc : M Bool} {pos p p2 apos cpos : Pos} {st : Stmt} {rest body : List Stmt} {f g mm : M Fl} {ns ns' : Nat → Bool}
theorem Ok.mod (ok:Ok C c) (n:Ns c0 c) {i:Nat}{k:Kd}{u u':U}{r:Addr}{H':Hp} (hk:k.root=true) (hi:c.st[i]?=some (some (k,u))) (hv:c.σ[i]?=some (some (.ref r))) (hne:∀ a,a≠r→H' a=c.H a) (hr:∃ o,H' r=some o)
  (new:Mv c.S c.H c.S H'→cN C c.S H' r u'):Ok C { c with H:=H',st:=c.st.set i (some (k,u')) }∧Ns c0 { c with H:=H',st:=c.st.set i (some (k,u')) }:=by
 have hR1:c.R1 r:=⟨i,k,u,hk,hi,hv⟩
 have hR:c.R r:=.inl hR1
 obtain ⟨q1,q2,q3,o,ho,hnt⟩:=ok.root hR
 have hil:i<c.st.length:=(List.getElem?_eq_some_iff.mp hi).1
 have kp:∀ {a:Addr} {o':HO},a≠r→c.H a=some o'→H' a=some o':=fun ne e=>by rw [hne _ ne];exact e
 have mv:Mv c.S c.H c.S H':=⟨fun _ z=>z,fun a o' e t=>kp (fun z=>by subst z;rw [ho] at e;cases e;exact hnt t) e,fun a o' z e=>kp (fun z'=>q1 (z' ▸ z)) e⟩
 have mvP:Mv (PS C c.S) c.H (PS C c.S) H':=⟨fun _ z=>z,mv.tps,fun a o' z e=>kp (fun z'=>by subst z';exact z.elim q2 q1) e⟩
 have oth:∀ (j:Nat) k' w,(c.st.set i (some (k,u')))[j]?=some (some (k',w))→j≠i→c.st[j]?=some (some (k',w)):=fun j k' w e ne=>by rw [List.getElem?_set_ne (Ne.symm ne)] at e;exact e
 have back:∀ (j:Nat) k' w,k'.root=true→(c.st.set i (some (k,u')))[j]?=some (some (k',w))→∃ w',c.st[j]?=some (some (k',w')):=fun j k' w _ e=>by
  by_cases hj:j=i
  ·subst hj;rw [List.getElem?_set_self hil] at e;cases e;exact ⟨u,hi⟩
  ·exact ⟨w,oth j k' w e hj⟩
 have b1:∀ a,({ c with H:=H',st:=c.st.set i (some (k,u')) }:Cf).R1 a→c.R1 a:=fun a hIx=>by
  obtain ⟨j,k',w,h1,e1,e2⟩:=hIx
  obtain ⟨w',a1⟩:=back j k' w h1 e1
  exact ⟨j,k',w',h1,a1,e2⟩
 have dD:∀ (j:Nat) (w:U),(c.st.set i (some (k,u')))[j]?=some (some (.ownD,w))→c.st[j]?=some (some (.ownD,w)):=fun j w e=>by
  by_cases hj:j=i
  ·subst hj;rw [List.getElem?_set_self hil] at e;cases e;cases hk
  ·exact oth j .ownD w e hj
 have hdd:DOk C { c with H:=H',st:=c.st.set i (some (k,u')) }:=ok.dd.of rfl (fun j w e=>⟨dD j w e,rfl⟩) (fun a z=>.inl (b1 a z)) mv fun j a z=>⟨(ok.root (.inr ⟨j,z⟩)).1,fun o' e=>kp (fun z'=>ok.dd.d1 j a z (z' ▸ hR1)) e⟩
 refine ⟨⟨fun a o' e z=>?_,fun a z=>?_,ok.par,fun a z=>?_,by simp [ok.len],fun j k' w e=>?_,fun j1 j2 k1 k2 w1 w2 r' h1 h2 e1 e2 e3 e4=>?_,hdd⟩,n.trans ⟨fun a o' e z=>kp (fun z'=>z (z' ▸ hR)) e,fun a o' e=>?_,fun a z=>?_,fun _ z=>z,fun _ z=>.inl z⟩⟩
 ·have h1:=ok.same a o' e z
  refine kp (fun z'=>?_) h1
  subst z'
  rcases q3 with q3|q3
  ·rw [e] at q3;cases q3
  ·exact z q3
 ·obtain ⟨h1,o',h2⟩:=ok.sfr a z
  exact ⟨h1,o',kp (fun z'=>q1 (z' ▸ z)) h2⟩
 ·obtain ⟨h1,o',h2⟩:=ok.io a z
  refine ⟨h1,?_⟩
  by_cases ha:a=r
  ·subst ha;exact hr
  ·exact ⟨o',kp ha h2⟩
 ·by_cases hj:j=i
  ·subst hj
   rw [List.getElem?_set_self hil] at e
   cases e
   obtain ⟨v,e1,e2⟩:=ok.sl j _ _ hi
   rw [hv] at e1
   cases e1
   refine ⟨.ref r,hv,?_⟩
   have nr:=new mv
   cases k with
   |own=>obtain ⟨r',er,z1,z2,z3,_⟩:=e2;cases er;exact ⟨r,rfl,z1,z2,z3,nr⟩
   |io=>obtain ⟨r',er,z1,z2,z3,_⟩:=e2;cases er;exact ⟨r,rfl,z1,z2,z3,nr⟩
   |_=>cases hk
  ·have e0:=oth j k' w e hj
   obtain ⟨v,e1,e2⟩:=ok.sl j k' w e0
   refine ⟨v,e1,e2.mv mv mvP fun hk' r' er=>?_⟩
   obtain ⟨r'',er',z1,_⟩:=e2.rt hk'
   rw [er] at er'
   cases er'
   refine ⟨z1,fun o' e=>kp (fun z=>?_) e⟩
   subst z
   exact hj (ok.inj j i k' k w u r' hk' hk e0 hi (by rw [e1,er]) hv)
 ·obtain ⟨w1',a1⟩:=back j1 k1 w1 h1 e1
  obtain ⟨w2',a2⟩:=back j2 k2 w2 h2 e2
  exact ok.inj j1 j2 k1 k2 w1' w2' r' h1 h2 a1 a2 e3 e4
 ·by_cases ha:a=r
  ·subst ha;exact hr
  ·exact ⟨o',kp ha e⟩
 ·rcases z with z|⟨j,w,r',e1,e2,e3⟩
  ·exact .inl (.inl (b1 a z))
  ·exact .inl (.inr ⟨j,w,r',dD j w e1,e2,e3⟩)
theorem gq {i:Nat}{f:U→Option U}{st:ak}{Q:Unit→ak→Prop} (h:W (modS i f) st Q):∃ k u u',k.root=true∧st[i]?=some (some (k,u))∧f u=some u'∧Q () (st.set i (some (k,u'))):=by
 obtain ⟨_,st',e,q⟩:=h
 unfold modS at e
 split at e
 ·rename_i k u hs
  split at e
  ·rename_i hk
   cases e2:f u with
   |none=>rw [e2] at e;cases e
   |some u'=>rw [e2] at e;cases e;exact ⟨k,u,u',hk,hs,e2,q⟩
  ·cases e
 ·cases e
theorem eL {i:Nat}{st:ak}{Q:Kd×U→ak→Prop} (h:W (d6 i) st Q):∃ k u,k≠.ownD∧st[i]?=some (some (k,u))∧Q (if k.root=true then .bor i else k,u) st:=by
 obtain ⟨r,st',e,q⟩:=h
 unfold d6 at e
 split at e
 ·cases e
 ·rename_i k u hnD hs;cases e;exact ⟨k,u,fun z=>hnD z,hs,q⟩
 ·cases e
theorem za (hK:C.K=X.K) {i:Nat}{x:Str}{px:Pos} (hN:X.N[i]?=some x) (hv:Vis X.env.scope x) (hd:(x==("__debug__":Str))=false) (hcd:(x==("__classdict__":Str))=false) (ha:PE X a (tEv C ma))
  (hfew:((backTo cpos (starEach [a] X.env)).all (fun x=>!x.1)&&(backToKw cpos (keywordEach [] X.env)).all (fun x=>x.1.isSome)
   && decide ([a].length+([]:List Keyword).length+(if ([]:List Keyword).isEmpty then 0 else 1)<30))=true)
  (hline:(apos.endLine==cpos.line)=true) (hst:starEach [a] X.env=[(false,eval a X.env)]) :
  L2.PS X (.Expr (.Call (.Attribute (.Name x px) "append" apos) [a] [] cpos) pos) (tEx C ns (d6 i >>= fun x=>isL x.2 >>= fun _=>ma >>= fun r=>lift r >>= fun u=>modS i (su u) >>= fun _=>pure .nx)):=by
 refine PS.weak (ki (vW PySem.F.plainAttrs_list PySem.F.slot_list_append PySem.F.type_list_append qB (hJ hN hv hd hcd) (fG ha kn hst) rfl hfew hline hst rfl)) ?_
 rintro D σ H ⟨c0,rfl,rfl,ok,h⟩
 rw [ag] at h
 obtain ⟨k0,u0,hnD0,hs0,h⟩:=eL h
 obtain ⟨v0,e0,sl0⟩:=ok.sl i k0 u0 hs0
 refine ⟨v0,e0,?_⟩
 cases u0 with
 |lst xs0 =>
  rw [ag,show isL (U.lst xs0)=pure () from rfl,ai] at h
  have rt0:aG C c0 c0 (if k0.root=true then .bor i else k0) (.lst xs0) v0:=by
   by_cases hk:k0.root=true
   ·rw [if_pos hk];exact ⟨⟨k0,hk,hs0⟩,e0⟩
   ·rw [if_neg hk]
    cases k0 with
    |own=>exact absurd rfl hk
    |io=>exact absurd rfl hk
    |loc=>exact sl0
    |any=>exact sl0
    |bor j=>exact sl0.elim
    |ownD=>exact (hnD0 rfl).elim
  obtain ⟨a0,vs0,ea,hrd,_⟩:=rt0.list ok
  refine ⟨by rw [ea];exact .inl ⟨rfl,vs0,hK ▸ hrd⟩,?_⟩
  refine aZ ok h fun r c v t w=>?_
  rw [ag] at w
  obtain ⟨S',st',u,sS,ok1,n1,rep1,w1,_,_⟩:=kZ ok t.ok t.nx t.rx.w w
  rw [ag] at w1
  obtain ⟨k,u1,u2,hk,hs,hf,q⟩:=gq w1
  have hσ:c.σ[i]?=some (some (.ref a0)):=by rw [t.hσ,e0,ea]
  cases u1 with
  |lst ys =>
   simp only [su] at hf
   split at hf
   ·rename_i hz
    cases hf
    obtain ⟨v',e1,e2⟩:=ok1.sl i k (.lst ys) hs
    have e1':c.σ[i]?=some (some v'):=e1
    rw [hσ] at e1'
    cases e1'
    obtain ⟨r',er,_,_,_,ws,hw,hrep⟩:=e2.rt hk
    cases er
    have hw':c.H a0=some (.lst ws):=hw
    refine ⟨a0,ws,v,ea,rfl,hw',by rw [←hrep.len];exact hz,?_⟩
    rw [ai] at q
    obtain ⟨ok2,n2⟩:=Ok.mod (c:={ c with S:=S',st:=st' }) (H':=upd c.H a0 (.lst (ws++[v]))) (u':=.lst (ys++[u])) ok1 n1.toNs hk hs hσ (fun a ne=>aI ne) ⟨_,aR⟩ fun mv=>⟨ws++[v],aR,(hrep.mv mv).snoc (rep1.mv mv)⟩
    have z:=q _ rfl ok2 n2 (Kept.of t.hσ)
    rw [←t.hσ]
    exact z
   ·cases hf
  |_=>cases hf
 |_=>rw [ag] at h;exact (aq.mp h).elim
theorem zb (hK:C.K=X.K) {i:Nat}{x:Str}{px:Pos} (hN:X.N[i]?=some x) (hv:Vis X.env.scope x) (hd:(x==("__debug__":Str))=false) (hcd:(x==("__classdict__":Str))=false) (ha:PE X a (tEv C ma))
  (hfew:((backTo cpos (starEach [a] X.env)).all (fun x=>!x.1)&&(backToKw cpos (keywordEach [] X.env)).all (fun x=>x.1.isSome)
   && decide ([a].length+([]:List Keyword).length+(if ([]:List Keyword).isEmpty then 0 else 1)<30))=true)
  (hline:(apos.endLine==cpos.line)=true) (hst:starEach [a] X.env=[(false,eval a X.env)]) :
  L2.PS X (.Expr (.Call (.Attribute (.Name x px) "extend" apos) [a] [] cpos) pos) (tEx C ns (d6 i >>= fun x=>isL x.2 >>= fun _=>ma >>= fun r=>modS i (jB r) >>= fun _=>pure .nx)):=by
 refine PS.weak (ki (vW PySem.F.plainAttrs_list PySem.F.slot_list_extend PySem.F.type_list_extend nZ (hJ hN hv hd hcd) (fG ha kn hst) rfl hfew hline hst rfl)) ?_
 rintro D σ H ⟨c0,rfl,rfl,ok,h⟩
 rw [ag] at h
 obtain ⟨k0,u0,hnD0,hs0,h⟩:=eL h
 obtain ⟨v0,e0,sl0⟩:=ok.sl i k0 u0 hs0
 refine ⟨v0,e0,?_⟩
 cases u0 with
 |lst xs0 =>
  rw [ag,show isL (U.lst xs0)=pure () from rfl,ai] at h
  have rt0:aG C c0 c0 (if k0.root=true then .bor i else k0) (.lst xs0) v0:=by
   by_cases hk:k0.root=true
   ·rw [if_pos hk];exact ⟨⟨k0,hk,hs0⟩,e0⟩
   ·rw [if_neg hk]
    cases k0 with
    |own=>exact absurd rfl hk
    |io=>exact absurd rfl hk
    |loc=>exact sl0
    |any=>exact sl0
    |bor j=>exact sl0.elim
    |ownD=>exact (hnD0 rfl).elim
  obtain ⟨a0,vs0,ea,hrd,_⟩:=rt0.list ok
  refine ⟨by rw [ea];exact .inl ⟨rfl,vs0,hK ▸ hrd⟩,?_⟩
  refine aZ ok h fun r c v t w=>?_
  rw [ag] at w
  obtain ⟨k,u1,u2,hk,hs,hf,q⟩:=gq w
  have hσ:c.σ[i]?=some (some (.ref a0)):=by rw [t.hσ,e0,ea]
  obtain ⟨rk,ru⟩:=r
  have key:∃ ys zs b vs,u1=.lst ys∧v=.ref b∧(SqL C.K c.H b vs∨SqT C.K c.H b vs)∧ah C c.S c.H zs vs∧ys.length+zs.length≤sizeLine∧u2=.lst (ys++zs):=by
   cases ru with
   |lst zs =>
    cases u1 with
    |lst ys =>
     simp only [jB] at hf
     split at hf
     ·rename_i hz
      cases hf
      obtain ⟨b,vs,ev,h1,h2⟩:=t.rx.list t.ok
      exact ⟨_,_,b,vs,rfl,ev,.inl h1,cK hz.2 h2,hz.1,rfl⟩
     ·cases hf
    |_=>simp [jB] at hf
   |tup zs =>
    cases u1 with
    |lst ys =>
     simp only [jB] at hf
     split at hf
     ·rename_i hz
      cases hf
      obtain ⟨b,vs,ev,h1,h2⟩:=t.rx.tuple t.ok
      exact ⟨_,_,b,vs,rfl,ev,.inr h1,cK hz.2 h2,hz.1,rfl⟩
     ·cases hf
    |_=>simp [jB] at hf
   |_=>simp [jB] at hf
  obtain ⟨ys,zs,b,vs,rfl,rfl,hB,hz,hl,rfl⟩:=key
  obtain ⟨v',e1,e2⟩:=t.ok.sl i k (.lst ys) hs
  rw [hσ] at e1
  cases e1
  obtain ⟨r',er,_,_,_,ws,hw,hrep⟩:=e2.rt hk
  cases er
  refine ⟨a0,b,ws,vs,ea,rfl,hw,hK ▸ hB,by rw [←hrep.len,←hz.len];exact hl,?_⟩
  rw [ai] at q
  obtain ⟨ok2,n2⟩:=Ok.mod (c:=c) (H':=upd c.H a0 (.lst (ws++vs))) (u':=.lst (ys++zs)) t.ok t.nx.toNs hk hs hσ (fun a ne=>aI ne) ⟨_,aR⟩ fun mv=>⟨ws++vs,aR,(hrep.mv mv).append (hz.mv mv)⟩
  have z:=q _ rfl ok2 n2 (Kept.of t.hσ)
  rw [←t.hσ]
  exact z
 |_=>rw [ag] at h;exact (aq.mp h).elim
theorem jk.or {t t':uh} (h:jk X t) (h':jk X t'):jk X (fun o i v H Q=>t o i v H Q∨t' o i v H Q):=fun pins s σ H o i v ov iv u Q I r1 r2 r3 q =>
 q.elim (h pins s σ H o i v ov iv u Q I r1 r2 r3) (h' pins s σ H o i v ov iv u Q I r1 r2 r3)
theorem set_dict (hu:X.A.units+1<cLine):jk X (fun o i v H Q=>∃ a H',o=.ref a∧rN H a i v H'∧Q H'):=by
 rintro pins s σ H o i v ov iv u Q I ro ri rv ⟨a,H',rfl,g,q⟩
 cases ro
 exact qG hu I g ri rv fun s' I'=>⟨H',I',q⟩
theorem sN {S:Addr→Prop}{H:Hp}{y:Str}{u:U}{v:V}{ks:List Str}{us:List U}{kvs:List (Key×V)} (h1:kvs.map (·.1)=ks.map Sum.inr) (h2:ah C S H us (kvs.map (·.2))) (hv:Rep C S H u v) :
  (putK kvs (Sum.inr y) v).map (·.1)=(dput ks us y u).1.map Sum.inr∧ah C S H (dput ks us y u).2 ((putK kvs (Sum.inr y) v).map (·.2)):=by
 have hany:(kvs.any fun kv=>decide (kv.1=(Sum.inr y:Key)))=decide (y∈ks):=by
  rw [ic]
  exact (eG (x:=y) h1 h2).2
 unfold putK dput
 rw [hany]
 by_cases hm:y∈ks
 ·rw [if_pos (by simpa using hm),if_pos hm]
  constructor
  ·rw [List.map_map]
   rw [←h1]
   apply List.map_congr_left
   intro p _
   show (if p.1=Sum.inr y then (p.1,v) else p).1=p.1
   split <;> rfl
  ·clear hany hm
   induction kvs generalizing ks us with
   |nil =>
    have:ks=[]:=by simpa using h1.symm
    subst this
    simp [ah]
   |cons p kvs ih =>
    cases ks with
    |nil=>simp at h1
    |cons k ks =>
     cases us with
     |nil=>simp [ah] at h2
     |cons u0 us =>
      rw [List.map_cons,List.map_cons,List.cons.injEq] at h1
      obtain ⟨v0,r0,e0,q1,q2⟩:=h2
      rw [List.map_cons] at e0
      cases e0
      rw [List.map_cons,List.zip_cons_cons,List.map_cons,List.map_cons]
      refine ⟨_,_,rfl,?_,ih h1.2 q2⟩
      by_cases hk:k=y
      ·rw [if_pos (by exact hk),if_pos (by rw [h1.1,hk])];exact hv
      ·rw [if_neg (by exact hk),if_neg (by rw [h1.1];intro z;exact hk (Sum.inr.inj z))];exact q1
 ·rw [if_neg (by simpa using hm),if_neg hm]
  exact ⟨by rw [List.map_append,h1,List.map_append];rfl,by rw [List.map_append];exact h2.snoc hv⟩
theorem zc {i:Nat}{x:Str}{px:Pos} (hP:C.P=X.prog) (hw:C.w=X.w) (hK:C.K=X.K) (hu:X.A.units+60<cLine) (hN:X.N[i]?=some x) (hv:Vis X.env.scope x) (hd:(x==("__debug__":Str))=false) (hcd:(x==("__classdict__":Str))=false)
  (ha:PE X a (tEv C ma)) (hb:PE X b (tEv C mb)) (hs:swapsWithSole [.Subscript (.Name x px) b p] a pos.line X.env=pure false) (hw2:swappedStores [.Subscript (.Name x px) b p] a X.env=pure none)
  (has:∀ v,assign (.Subscript (.Name x px) b p) X.env v=(do
   let ov ←holding [v] (eval (.Name x px) X.env)
   let iv ←holding [v,ov] (eval b X.env)
   standAt p
   holding [v,ov,iv] (setItem ov iv v)
   release [v,ov,iv] [])) :
  L2.PS X (.Assign [.Subscript (.Name x px) b p] a pos) (tEx C ns (ma >>= fun r=>d6 i >>= fun _=>mb >>= fun x=>cw [r,x] >>= fun us=>modS i (pH us) >>= fun _=>pure .nx)):=by
 refine PS.weak (rE ha (wH (hJ hN hv hd hcd) hb (jk.or (jk.or set_list (set_dict (X:=X) (by omega))) (uJ (X:=X) (by omega))) has) hs hw2 rfl) ?_
 rintro D σ H ⟨c0,rfl,rfl,ok,h⟩
 refine aZ ok h fun r c v t w=>?_
 rw [ag] at w
 obtain ⟨k0,u0,hnD0,hs0,w⟩:=eL w
 obtain ⟨v0,e0,sl0⟩:=t.ok.sl i k0 u0 hs0
 refine ⟨v0,by rw [←t.hσ];exact e0,?_⟩
 rw [ag] at w
 refine ⟨c,t.hσ,rfl,t.ok,w.mono fun y st2 w2 c2 vy e3 e4 ok2 n2 r2=>?_⟩
 subst e4
 rw [ag] at w2
 have n02:=t.nx.trans n2
 have rws:cJ C c0 c2 [r,y] [v,vy]:=⟨v,[vy],rfl,t.rx.w.on t.ok n2 (e3.trans t.hσ.symm),⟨vy,[],rfl,(r2.w).from t.nx,rfl,fun _ i r' v' e _=>by simp at e⟩,fun hk i r' v' e5 e6 hk'=>by
  cases i with
  |zero=>simp at e5 e6;subst e5 e6;exact kY t.rx.w r2.w hk hk'
  |succ i=>simp at e5⟩
 obtain ⟨S',st',us,sS,ok1,n1,rep1,w1⟩:=f6 ok ok2 n02 rws w2
 rw [ag] at w1
 obtain ⟨k,u1,u2,hk,hs1,hf,q⟩:=gq w1
 rw [ai] at q
 have hσ:c2.σ[i]?=some (some v0):=by rw [e3,←t.hσ];exact e0
 obtain ⟨v',e1,e2⟩:=ok1.sl i k u1 hs1
 have e1':c2.σ[i]?=some (some v'):=e1
 rw [hσ] at e1'
 cases e1'
 obtain ⟨a0,er,z1,z2,z3,root⟩:=e2.rt hk
 subst er
 have hσ':({ c2 with S:=S',st:=st' }:Cf).σ[i]?=some (some (.ref a0)):=hσ
 obtain ⟨w1',ws,ew,rp1,w2',ws2,ew2,rp2,hnil⟩:∃ u ws,us=[u,ws]∧Rep C S' c2.H u v∧∃ (_:Unit) (_:Unit),True∧Rep C S' c2.H ws vy∧True:=by
  cases us with
  |nil=>simp [ah] at rep1
  |cons u us =>
   obtain ⟨_,_,e,q1,q2⟩:=rep1
   cases e
   cases us with
   |nil=>simp [ah] at q2
   |cons u' us =>
    obtain ⟨_,_,e,q3,q4⟩:=q2
    cases e
    cases us with
    |nil=>exact ⟨u,u',rfl,q1,(),(),trivial,q3,trivial⟩
    |cons _ _=>obtain ⟨_,_,e,_⟩:=q4;cases e
 subst ew
 rw [show pH [w1',ws] u1=fX ws w1' u1 from rfl] at hf
 have fin:∀ {H':Hp} ,(∀ a,a≠a0→H' a=c2.H a)→(∃ o,H' a0=some o)→(Mv S' c2.H S' H'→cN C S' H' a0 u2)→D.nx c0.σ H':=fun {H'} hne hr new=>by
  obtain ⟨ok3,n3⟩:=Ok.mod (c:={ c2 with S:=S',st:=st' }) (H':=H') (u':=u2) ok1 n1.toNs hk hs1 hσ' hne hr new
  have z:=q _ rfl ok3 n3 (Kept.of e3)
  rw [←e3]
  exact z
 cases u1 with
 |lst xs =>
  cases ws with
  |int j =>
   simp only [fX,Option.map_eq_some_iff] at hf
   obtain ⟨j',hj,rfl⟩:=hf
   obtain ⟨vs,h1,h2⟩:=root
   have ey:vy=.int j:=rp2
   refine .inl (.inl ⟨a0,vs,j,j',rfl,ey,h1,by rw [←h2.len];exact hj,?_⟩)
   exact fin (fun a ne=>aI ne) ⟨_,aR⟩ fun mv=>⟨vs.set j' v,aR,(h2.mv mv).set j' (rp1.mv mv)⟩
  |_=>simp [fX] at hf
 |dic ks vs =>
  cases ws with
  |str y' =>
   simp only [fX] at hf
   split at hf
   ·rename_i hz
    cases hf
    obtain ⟨kvs,h1,h2,h3⟩:=root
    have ey:vy=.str y':=rp2
    subst ey
    have hl:kvs.length=ks.length:=by have:=congrArg List.length h2;simpa using this
    refine .inl (.inr ⟨a0,_,rfl,rN.k (k:=Sum.inr y') h1 (by rw [hl];exact hz),?_⟩)
    refine fin (fun a ne=>aI ne) ⟨_,aR⟩ fun mv=>?_
    obtain ⟨g1,g2⟩:=sN (y:=y') h2 h3 rp1
    exact ⟨_,aR,g1,g2.mv mv⟩
   ·cases hf
  |_=>simp [fX] at hf
 |rdc ks =>
  simp only [fX] at hf
  split at hf
  ·rename_i r0 hr0
   split at hf
   ·rename_i hh
    cases hf
    have er:=iK hr0
    subst er
    have hrow:=rp2.row
    have hroot:dI C.P C.w C.K c2.H a0 ks:=root
    rw [hK] at hrow
    rw [hP,hw,hK] at hroot
    refine .inr ⟨a0,r0,ks,rfl,hrow,hroot,hh.1,hh.2,fun H' hR hne=>?_⟩
    obtain ⟨xs,hx,_⟩:=id hR
    refine fin hne ⟨_,hx⟩ fun mv=>?_
    show dI C.P C.w C.K H' a0 _
    rw [hP,hw,hK]
    exact hR
   ·cases hf
  ·cases hf
 |_=>simp [fX] at hf
theorem Ok.slot (ok:Ok C c) {i:Nat}{k:Kd}{u:U} (hn:k≠.ownD) (hs:c.st[i]?=some (some (k,u))):∃ v,c.σ[i]?=some (some v)∧aG C c c (if k.root=true then .bor i else k) u v:=by
 obtain ⟨v0,e0,sl0⟩:=ok.sl i k u hs
 refine ⟨v0,e0,?_⟩
 by_cases hk:k.root=true
 ·rw [if_pos hk];exact ⟨⟨k,hk,hs⟩,e0⟩
 ·rw [if_neg hk]
  cases k with
  |own=>exact absurd rfl hk
  |io=>exact absurd rfl hk
  |loc=>exact sl0
  |any=>exact sl0
  |bor j=>exact sl0.elim
  |ownD=>exact (hn rfl).elim
end
end TM
namespace TM
open PySem L2 PyProof.Rows
section
variable {X : Cx} {C : Ct} {pins : List (Addr × Obj)} {s : Shared} {c0 c c1 : Cf}
theorem vn {i:Nat}{x:Str}{p px apos cpos pos:Pos} (hc:X.calm=true) (hK:C.K=X.K) (hg:Gl X "list") (hm:X.mg "list"=none) (hN:X.N[i]?=some x) (hv:Vis X.env.scope x) (hd:(x==("__debug__":Str))=false) (hcd:(x==("__classdict__":Str))=false) (hline:(apos.endLine==cpos.line)=true) :
  PE X (.Call (.Name "list" p) [.Call (.Attribute (.Name x px) "values" apos) [] [] cpos] [] pos) (tEv C (d6 i >>= fun x=>M.ofO (so x.2))):=by
 rintro pins s σ H Q I ⟨c0,rfl,rfl,ok,h⟩
 refine wpAny_Call_Name_kw (dm I hg hm (show bootBuiltins "list"=some (.type "list") by decide +kernel) ?_ (by decide +kernel) (by decide +kernel))
 rw [ag] at h
 obtain ⟨k0,u0,hn0,hs0,h⟩:=eL h
 obtain ⟨v0,e0,t0⟩:=ok.slot hn0 hs0
 obtain ⟨r,er,want⟩:=bQ.mp h
 dsimp only at er
 unfold so at er
 split at er
 rotate_left
 ·cases er
 rename_i ks us
 rw [Option.map_eq_some_iff] at er
 obtain ⟨ss,en,rfl⟩:=er
 obtain ⟨d,kvs,rfl,hd0,hk0,hr0⟩:=t0.dict ok
 rw [bw en,ah.strs] at hr0
 have inner:wpAny (model X.prog X.w) X.A (eval (.Call (.Attribute (.Name x px) "values" apos) [] [] cpos) X.env) (fun v s1=>wpAny (model X.prog X.w) X.A (call (.type "list") [v]) (EP X pins c0.σ Q) X.xe s1) X.xe s:=by
  refine wpAny_Call_method0_late rfl hline (thn (hJ hN hv hd hcd pins s c0.σ c0.H (fun v H1=>v=.ref d∧H1=c0.H) I ⟨_,e0,rfl,rfl⟩) fun v s1 ⟨x1,H1,I1,r1,z1,z2⟩=>?_)
  subst z1 z2
  cases (show v=Value.ref d from r1)
  obtain ⟨h1,h2⟩:=nO (T:="dict") I1 (x:=.ref d) rfl (.inr (.inr (.inl ⟨rfl,.inl ⟨_,hd0⟩⟩)))
  refine ⟨"dict","dict.values",PySem.F.plainAttrs_dict,PySem.F.slot_dict_values,PySem.F.type_dict_values,h1,h2,Calls.callWith_builtin rfl (PySem.evalArgs_none (mE hc I1 hd0 fun L hL=>?_))⟩
  rw [hr0]
  exact bR.list (c:=c0) want rfl ok (Nx.refl c0) (ah.strs.mpr rfl) L hL
 have eb:backTo pos (starEach [.Call (.Attribute (.Name x px) "values" apos) [] [] cpos] X.env)=[(false,eval (.Call (.Attribute (.Name x px) "values" apos) [] [] cpos) X.env)]:=rfl
 have ek':backToKw pos (keywordEach [] X.env)=[]:=rfl
 rw [eb,ek']
 exact pS inner
end
end TM
namespace TM
open PySem L2 PyProof.Rows
structure Ck where
 fns:List Str
 gl:List (Str×U)
noncomputable def d9:U→U→Bool
 |.int i,.int j=>decide (i=j)
 |.str x,.str y=>decide (x=y)
 |.bl a,.bl b=>a==b
 |.non,.non=>true
 |_,_=>false
theorem bD {u v:U} (h:d9 u v=true):u=v:=by
 cases u <;> cases v <;> simp [d9] at h <;> subst_vars <;> rfl
noncomputable def noStar:Expr→Bool
 |.Starred _ _=>false
 |_=>true
noncomputable def gU:Expr→Bool
 |.Slice _ _ _ _=>false
 |_=>true
noncomputable def ou:Expr→Bool
 |.Set _ _ _=>false
 |_=>true
noncomputable def k_:Expr→Bool
 |.Call (.Name _ _) [] [] _=>false
 |_=>true
noncomputable def cP:Expr→Bool
 |.ListComp _ _ _ _=>false
 |.SetComp _ _ _ _=>false
 |.DictComp _ _ _ _ _=>false
 |_=>true
noncomputable def xS:Expr→Bool
 |.Tuple _ _ _=>false
 |_=>true
noncomputable def glB (sc:Scope) (x:Str):Bool:=decide (sc.names.lookup x=some .globalImplicit)
noncomputable def ox (sc:Scope) (x:Str):Bool:=decide (sc.names.lookup x=some .local)||decide (sc.names.lookup x=some .cell)||decide (sc.names.lookup x=some .free)
noncomputable def qW (sc:Scope) (x:Str):Bool:=decide (sc.names.lookup x=some .local)||decide (sc.names.lookup x=some .cell)
noncomputable def zd (sc:Scope) (x:Str):Bool:=decide (sc.names.lookup x=some .local)
noncomputable def cU (x:Str):Bool:=!(x==("__debug__":Str))&&!(x==("__classdict__":Str))
noncomputable def pV (N:List Str) (sc:Scope) (fa:Bool) (i:Nat):Expr→Bool
 |.Name x _=>decide (N[i]?=some x)&&qW sc x&&(fa||zd sc x)
 |_=>false
noncomputable def la (N:List Str) (sc:Scope) (fa:Bool):List Nat→List Expr→Bool
 |[],[]=>true
 |i::is,e::es=>pV N sc fa i e&&la N sc fa is es
 |_,_=>false
noncomputable def eZ:Expr→List Str
 |.Name x _=>[x]
 |.Tuple es _ _=>es.filterMap fun|.Name x _=>some x|_=>none
 |_=>[]
noncomputable def hide (own N:List Str):List Str:=match own.filter fun x=>decide (x∈N) with
 |[]=>N
 |[x]=>N.set (N.idxOf x) "."
 |x::y::_=>(N.set (N.idxOf x) ".").set (N.idxOf y) ".."
noncomputable def tgB (t:Bool) (N:List Str) (sc:Scope) (fa:Bool) (is:List Nat):Expr→Bool
 |.Name x p=>!t&&(match is with|[i]=>pV N sc fa i (.Name x p)|_=>false)
 |.Tuple es _ _=>t&&la N sc fa is es&&is.all fun i=>decide (i<N.length)
 |_=>false
noncomputable def lb (e:Expr):Option (Str×List Expr):=match e with
 |.Call f as kw _=>match f with
  |.Name x _=>if kw.isEmpty=true then some (x,as) else none
  |_=>none
 |_=>none
theorem gF {e:Expr}{x:Str}{as:List Expr} (h:lb e=some (x,as)):∃ p q,e=.Call (.Name x p) as [] q:=by
 unfold lb at h
 split at h
 ·split at h
  ·split at h
   ·rename_i hk
    rw [List.isEmpty_iff] at hk
    cases h
    subst hk
    exact ⟨_,_,rfl⟩
   ·cases h
  ·cases h
 ·cases h
noncomputable def d_ (sc:Scope) (tg:Expr) (ik:Ik) (e:Expr):Option (List Expr):=match ik with
 |.seq=>some [e]
 |.rng1=>(lb e).bind fun p=>if p.1="range"∧glB sc p.1=true∧p.2.length=1 then some p.2 else none
 |.rng2=>(lb e).bind fun p=>if p.1="range"∧glB sc p.1=true∧p.2.length=2 then some p.2 else none
 |_=>none
noncomputable def simple:Bf→Bool:=fun _=>true
noncomputable def xT (scope sc:Scope):Scope:={ scope with names:=scope.names.map fun (n,k)=>if (k==NameKind.free&&sc.kind==.function&&sc.names.lookup n==some .cell)=true then (n,.cell) else (n,k) }
noncomputable def cf (e:Expr) (k:Str→Bool):Bool:=match e with|.Name x _=>k x|_=>false
theorem az {e:Expr}{k:Str→Bool} (h:cf e k=true):∃ x p,e=.Name x p∧k x=true:=by
 unfold cf at h
 split at h
 ·exact ⟨_,_,rfl,h⟩
 ·cases h
noncomputable def f9 {α:Type} (l:List α) (k:α→Bool):Bool:=match l with|[a]=>k a|_=>false
theorem bL {α:Type}{l:List α}{k:α→Bool} (h:f9 l k=true):∃ a,l=[a]∧k a=true:=by
 unfold f9 at h
 split at h
 ·exact ⟨_,rfl,h⟩
 ·cases h
noncomputable def dB (e:Expr) (k:Expr→List Expr→Pos→Bool):Bool:=match e with|.Call f as kw p=>kw.isEmpty&&k f as p|_=>false
theorem aO {e:Expr}{k:Expr→List Expr→Pos→Bool} (h:dB e k=true):∃ f as p,e=.Call f as [] p∧k f as p=true:=by
 unfold dB at h
 split at h
 ·rename_i f as kw p
  rw [Bool.and_eq_true,List.isEmpty_iff] at h
  obtain ⟨rfl,h⟩:=h
  exact ⟨_,_,_,rfl,h⟩
 ·cases h
noncomputable def oy (e:Expr) (k:Expr→Str→Pos→Bool):Bool:=match e with|.Attribute o m p=>k o m p|_=>false
theorem mI {e:Expr}{k:Expr→Str→Pos→Bool} (h:oy e k=true):∃ o m p,e=.Attribute o m p∧k o m p=true:=by
 unfold oy at h
 split at h
 ·exact ⟨_,_,_,rfl,h⟩
 ·cases h
noncomputable def sO (e:Expr) (k:Expr→CmpOp→Expr→Bool):Bool:=match e with|.Compare a ops bs _=>f9 ops fun op=>f9 bs fun b=>k a op b|_=>false
theorem iN {e:Expr}{k:Expr→CmpOp→Expr→Bool} (h:sO e k=true):∃ a op b p,e=.Compare a [op] [b] p∧k a op b=true:=by
 unfold sO at h
 split at h
 ·obtain ⟨op,rfl,z1⟩:=bL h
  obtain ⟨b,rfl,z2⟩:=bL z1
  exact ⟨_,_,_,_,rfl,z2⟩
 ·cases h
noncomputable def iO (e:Expr) (k:Expr→Str→Pos→List Expr→Pos→Bool):Bool:=dB e fun f as cpos=>oy f fun o m apos=>k o m apos as cpos
theorem cy {e:Expr}{k:Expr→Str→Pos→List Expr→Pos→Bool} (h:iO e k=true):∃ o m apos as cpos,e=.Call (.Attribute o m apos) as [] cpos∧k o m apos as cpos=true:=by
 obtain ⟨f,as,p,rfl,h⟩:=aO h
 obtain ⟨o,m,q,rfl,h⟩:=mI h
 exact ⟨_,_,_,_,_,rfl,h⟩
noncomputable def sP (e:Expr) (k:Expr→Expr→Bool):Bool:=match e with|.Subscript a b _=>k a b|_=>false
theorem oz {e:Expr}{k:Expr→Expr→Bool} (h:sP e k=true):∃ a b p,e=.Subscript a b p∧k a b=true:=by
 unfold sP at h
 split at h
 ·exact ⟨_,_,_,rfl,h⟩
 ·cases h
mutual
noncomputable def aC (k:Ck):E→List Str→Scope→Expr→Bool
 |.var i,N,sc,e'=>match e' with
  |.Name x _=>decide (N[i]?=some x)&&ox sc x&&cU x
  |_=>false
 |.cst u,N,sc,e'=>match e' with
  |.Constant (.int j) _ _=>d9 u (.int j)
  |.Constant (.str y) _ _=>d9 u (.str y)
  |.Constant (.bool y) _ _=>d9 u (.bl y)
  |.Constant .none _ _=>d9 u .non
  |_=>false
 |.glb x u,N,sc,e'=>match e' with
  |.Name y _=>decide (x=y)&&glB sc x&&cU x&&k.gl.any fun p=>decide (p.1=x)&&d9 p.2 u
  |_=>false
 |.bin op a b,N,sc,e'=>match e' with
  |.BinOp a' op' b' _=>decide (op.op=op')&&aC k a N sc a'&&aC k b N sc b'
  |_=>false
 |.cmp op a b,N,sc,e'=>sO e' fun a' op' b'=>decide (op.op=op')&&!behindInMarks op' b'&&aC k a N sc a'&&aC k b N sc b'
 |.cmp2 _ _ _ _ _,_,_,_=>false
 |.and es,N,sc,e'=>match e' with
  |.BoolOp .And es' _=>aB k es N sc es'
  |_=>false
 |.or es,N,sc,e'=>match e' with
  |.BoolOp .Or es' _=>aB k es N sc es'
  |_=>false
 |.not a,N,sc,e'=>match e' with
  |.UnaryOp .Not a' _=>aC k a N sc a'
  |_=>false
 |.ite _ _ _,_,_,_=>false
 |.neg _,_,_,_=>false
 |.bad,_,_,_=>true
 |.sit _,_,_,_=>false
 |.inD _ _ _,_,_,_=>false
 |.get2 _ _ _,_,_,_=>false
 |.pub _,_,_,_=>false
 |.vls i,N,sc,e'=>dB e' fun f' as _=>cf f' fun f=>f9 as fun c=>iO c fun o m apos bs cpos=>cf o fun x=>bs.isEmpty&&decide (f="list")&&glB sc f&&decide (m="values")&&decide (N[i]?=some x)&&ox sc x&&cU x&&(apos.endLine==cpos.line)
 |.sdf _ _ _,_,_,_=>false
 |.fst es,N,sc,e'=>match e' with
  |.JoinedStr (e1::e2::es') _=>qX k es N sc (e1::e2::es')
  |_=>false
 |.isi a T,N,sc,e'=>dB e' fun f' as _=>cf f' fun x=>match as with
  |[a',b']=>cf b' fun y=>decide (x="isinstance")&&decide (y=T.name)&&glB sc x&&glB sc y&&noStar a'&&aC k a N sc a'
  |_=>false
 |.tup es,N,sc,e'=>match e' with
  |.Tuple es' _ _=>aB k es N sc es'
  |_=>false
 |.lst es,N,sc,e'=>match e' with
  |.List es' _=>aB k es N sc es'
  |_=>false
 |.dnew _,N,sc,e'=>match e' with
  |.Dict [] [] _=>true
  |_=>false
 |.idx a b,N,sc,e'=>match e' with
  |.Subscript a' b' _=>gU b'&&aC k a N sc a'&&aC k b N sc b'
  |_=>false
 |.slc a lo hi,N,sc,e'=>match e' with
  |.Subscript a' (.Slice lo' hi' none _) _=>aC k a N sc a'&&oA k lo N sc lo'&&oA k hi N sc hi'
  |_=>false
 |.bi f es,N,sc,e'=>dB e' fun f' es' _=>cf f' fun x=>decide (x=f.name)&&simple f&&glB sc x&&!es'.isEmpty&&aB k es N sc es'
 |.bi2 f es,N,sc,e'=>dB e' fun f' as _=>cf f' fun x=>f9 as fun c=>dB c fun g' es' _=>cf g' fun y=>decide (x=f.k6)&&decide (y=f.f7)&&glB sc x&&glB sc y&&!es'.isEmpty&&aB k es N sc es'
 |.mth m a es,N,sc,e'=>iO e' fun o name apos es' cpos=>decide (name=m.name)&&k_ o&&(apos.endLine==cpos.line)&&!es'.isEmpty&&decide (es'.length<20)&&aC k a N sc o&&aB k es N sc es'
 |.call f es,N,sc,e'=>dB e' fun f' es' _=>cf f' fun x=>decide (x=f)&&decide (f∈k.fns)&&glB sc x&&cU x&&!es'.isEmpty&&aB k es N sc es'
 |.comp n t ik src cond e,N,sc,e'=>match e' with
  |.ListComp elt [⟨tg,iter,ifs,0⟩] scope _ =>
   decide ((eZ tg).length=n)&&xc (eZ tg++hide (eZ tg) N) (eZ tg) scope sc.names&&tgB t (eZ tg++hide (eZ tg) N) (xT scope sc) false (List.range n) tg&&ou iter &&
   (match d_ sc tg ik iter with
    |some as=>aB k src N sc as
    |none=>false) &&
   decide (ifs.length≤1)&&aB k cond (eZ tg++hide (eZ tg) N) (xT scope sc) ifs&&aC k e (eZ tg++hide (eZ tg) N) (xT scope sc) elt
  |_=>false
noncomputable def qX (k:Ck):List E→List Str→Scope→List Expr→Bool
 |[],_,_,es'=>es'.isEmpty
 |e::es,N,sc,es'=>match es' with
  |.FormattedValue v (-1) none _::es'=>aC k e N sc v&&qX k es N sc es'
  |.Constant (.str y) _ _::es'=>(match e with|.cst u=>d9 u (.str y)|_=>false)&&qX k es N sc es'
  |_=>false
noncomputable def aB (k:Ck):List E→List Str→Scope→List Expr→Bool
 |[],_,_,es'=>es'.isEmpty
 |e::es,N,sc,es'=>match es' with
  |e'::es'=>noStar e'&&aC k e N sc e'&&aB k es N sc es'
  |[]=>false
noncomputable def oA (k:Ck):List E→List Str→Scope→Option Expr→Bool
 |[],_,_,o=>o.isNone
 |[e],N,sc,o=>match o with
  |some e'=>aC k e N sc e'
  |none=>false
 |_::_::_,_,_,_=>false
end
noncomputable def bC:List Str:=["len","sorted","repr","max","min","all","any","list","tuple","str","int","range","enumerate","zip","reversed","set","dict","sum","isinstance","bool"]
structure xU (P:Program) (w:World) (K:PySem.W.Frag) (mg:Str→Option Value) (base:Heap) (d:Nat) (F:List U→Option (Ex (Kd×U))) (f:Str):Prop where
 ex:∃ (np:Nat) (fa:Addr) (fd:FuncData) (ps:List Str),lU P w K mg base CX0 d fa fd ps (spT P w K F np)∧mg f=some (.ref fa)∧PySem.W.keepIn K (.ref fa)=true∧Binds K fd ps []∧∀ us k u,F us=some (.ok (k,u))→(k=.own∨k=.loc)∧us.length=np
structure Gd (ck:Ck) (Γ:Tab) (C:Ct) (d:Nat) (X:Cx):Prop where
 P:C.P=X.prog
 w:C.w=X.w
 K:C.K=X.K
 u:X.A.units+60<cLine
 calm:X.calm=true
 room:fF d X.A
 blt:∀ x∈bC,X.mg x=none
 fns:∀ f∈ck.fns,xU X.prog X.w X.K X.mg X.base d (Γ f) f
 gls:∀ p∈ck.gl,∃ val v,X.mg p.1=some val∧RelV v val∧∀ S H,Rep C S H p.2 v
theorem Gd.cx {ck:Ck}{Γ:Tab}{C:Ct}{d:Nat}{X:Cx} (g:Gd ck Γ C d X) (N:List Str) (sc:Scope) (D:Addr) (s:Shared) (H:Hp) (ex:List Addr):Gd ck Γ C d (cxC X N sc D s H ex) :=
 ⟨g.P,g.w,g.K,g.u,g.calm,g.room,g.blt,g.fns,g.gls⟩
theorem gr {sc:Scope}{x:Str} (h:ox sc x=true):Vis sc x:=by
 unfold ox at h
 simp only [Bool.or_eq_true,decide_eq_true_eq] at h
 rcases h with (h|h)|h
 ·exact .inl h
 ·exact .inr (.inl h)
 ·exact .inr (.inr h)
theorem bW {x:Str} (h:cU x=true):(x==("__debug__":Str))=false∧(x==("__classdict__":Str))=false:=by
 unfold cU at h
 simpa using h
theorem bO {e:Expr}{es:List Expr}{env:Env} (h:noStar e=true):starEach (e::es) env=(false,eval e env)::starEach es env:=by
 cases e <;> first|rfl|cases h
theorem mJ {e:Expr} (h:gU e=true):kq e:=by
 intro o i
 cases e <;> first|rfl|cases h
theorem oB {e:Expr}{env:Env} (h:ou e=true):∀ x,foldedSetIterable e env x=pure x:=by
 intro x
 cases e <;> first|rfl|cases h
theorem gW {o:Expr}{name:Str}{env:Env}{wh:Sem Value} (h:k_ o=true):attributeBase o name env wh=wh:=by
 cases o with
 |Call f as ks p =>
  cases f with
  |Name x q=>cases as with
   |nil=>cases ks with
    |nil=>cases h
    |cons _ _=>rfl
   |cons _ _=>rfl
  |_=>rfl
 |_=>rfl
theorem bV {es:List Expr}{env:Env}{pos:Pos} (h:∀ e∈es,noStar e=true):(backTo pos (starEach es env)).any (·.1)=false∧(backTo pos (starEach es env)).all (fun x=>!x.1)=true:=by
 induction es with
 |nil=>exact ⟨rfl,rfl⟩
 |cons e es ih =>
  rw [bO (h e (by simp))]
  have:=ih fun e' he=>h e' (by simp [he])
  constructor
  ·show (false||(backTo pos (starEach es env)).any (·.1))=false
   rw [this.1];rfl
  ·show (!false&&(backTo pos (starEach es env)).all (fun x=>!x.1))=true
   rw [this.2];rfl
theorem cG {k:Ck}{es:List E}{N:List Str}{sc:Scope}{es':List Expr} (h:aB k es N sc es'=true):∀ e∈es',noStar e=true:=by
 induction es generalizing es' with
 |nil =>
  cases es' with
  |nil=>intro e he;cases he
  |cons _ _=>simp [aB] at h
 |cons x es ih =>
  cases es' with
  |nil=>intro e he;cases he
  |cons e' es' =>
   simp only [aB,Bool.and_eq_true] at h
   intro e he
   rcases List.mem_cons.mp he with rfl|he
   ·exact h.1.1
   ·exact ih h.2 e he
theorem jT {X:Cx}{i:Nat}{e:Expr}{fa:Bool} (hfa:fa=true→∀ x,X.fn x=true) (h:pV X.N X.env.scope fa i e=true):oo X e i:=by
 cases e with
 |Name x p =>
  simp only [pV,Bool.and_eq_true,decide_eq_true_eq,qW,Bool.or_eq_true,zd] at h
  refine ⟨x,p,rfl,h.1.1,?_,?_⟩
  ·rcases h.1.2 with z|z
   ·exact .inl z
   ·exact .inr z
  ·rcases h.2 with z|z
   ·exact .inl (hfa z x)
   ·exact .inr z
 |_=>cases h
theorem iP {X:Cx}{fa:Bool} (hfa:fa=true→∀ x,X.fn x=true):∀ {is:List Nat}{es:List Expr},la X.N X.env.scope fa is es=true→dz X es is
 |[],[],_=>.nil
 |[],_::_,h=>by cases h
 |_::_,[],h=>by cases h
 |i::is,e::es,h=>by
  simp only [la,Bool.and_eq_true] at h
  exact .cons (jT hfa h.1) (iP hfa h.2)
theorem pW {X:Cx}{C:Ct}{t fa:Bool}{is:List Nat}{tg:Expr} (hc:X.calm=true) (hK:C.K=X.K) (hN:X.N.Nodup) (hfa:fa=true→∀ x,X.fn x=true) (h:tgB t X.N X.env.scope fa is tg=true):PG X tg (tG C t is):=by
 cases tg with
 |Name x p =>
  simp only [tgB,Bool.and_eq_true,Bool.not_eq_true'] at h
  obtain ⟨rfl,h⟩:=h
  cases is with
  |nil=>cases h
  |cons i is=>cases is with
   |nil=>exact xN hN (jT hfa h)
   |cons _ _=>cases h
 |Tuple es k p =>
  simp only [tgB,Bool.and_eq_true,List.all_eq_true,decide_eq_true_eq] at h
  obtain ⟨⟨rfl,h1⟩,h2⟩:=h
  exact yU hc hK hN (iP hfa h1) h2
 |_=>cases h
theorem jU (own N:List Str):cR ((own++hide own N).drop own.length) N:=by
 rw [List.drop_left' rfl]
 unfold hide
 split
 ·exact .refl N
 ·exact (cR.refl N).set _ (.inl rfl)
 ·exact ((cR.refl N).set _ (.inl rfl)).set _ (.inr rfl)
noncomputable def Bf.isB:Bf→Bool
 |.len=>true|.sorted=>true|.repr=>true|.max=>true|.min=>true|.all=>true|.any=>true|_=>false
noncomputable def Bf.id:Bf→String
 |.len=>"len"|.sorted=>"sorted"|.repr=>"repr"|.max=>"max"|.min=>"min"|.all=>"all"|.any=>"any"
 |.list=>"list"|.tuple=>"tuple"|.str=>"str"|.int=>"int"
 |.dict=>"dict"
theorem vo:∀ f:Bf,simple f=true→bootBuiltins f.name=some f.val∧f.name∈bC∧f.name≠"__name__"∧(f.name==("__debug__":Str))=false:=by
 intro f h
 cases f <;> first|exact ⟨by decide +kernel,by decide +kernel,by decide +kernel,by decide +kernel⟩|(cases h;done)
theorem xV:∀ f:Bf,simple f=true→(f.val=.builtin f.id∨f.val=.type f.id):=by
 intro f h
 cases f <;> first|exact .inl rfl|exact .inr rfl|(cases h;done)
theorem xW:∀ f:B2,f.k6∈bC∧f.f7∈bC:=by
 intro f
 cases f <;> exact ⟨by decide +kernel,by decide +kernel⟩
theorem vp:∀ f:Mf,Slot "str" f.name f.id∧typeOf (.builtin f.id)=pure (.type "method_descriptor"):=by
 intro f
 cases f with
 |split=>exact ⟨PySem.F.slot_str_split,PySem.F.type_str_split⟩
 |join=>exact ⟨PySem.F.slot_str_join,PySem.F.type_str_join⟩
 |partition=>exact ⟨PySem.F.slot_str_partition,PySem.F.type_str_partition⟩
 |endswith=>exact ⟨PySem.F.slot_str_endswith,PySem.F.type_str_endswith⟩
end TM
namespace TM
open PySem L2 PyProof.Rows
section
variable {ck : Ck} {Γ : Tab} {C : Ct} {d : Nat}
theorem c9 {X:Cx}{x:Str} (h:glB X.env.scope x=true):Gl X x:=by
 unfold glB at h
 show X.env.kindOf x=some .globalImplicit
 exact of_decide_eq_true h
theorem mK:("isinstance":Str)∈bC:=by decide +kernel
theorem sQ (T:Ty5):T.name∈bC:=by cases T <;> decide +kernel
theorem pX:("range":Str)∈bC:=by decide +kernel
theorem v9 {X:Cx}{ik:Ik}{iter tg:Expr}{as:List Expr}{src:List E} (g:Gd ck Γ C d X) (h:d_ X.env.scope tg ik iter=some as) (hL:PA X as (tEs C (bB Γ src))) (h1:∀ a,as=[a]→∃ e,src=[e]∧PE X a (tEv C (ev Γ e))) (hst:∀ e∈as,noStar e=true):PI X tg iter (tIt C ik (bB Γ src)):=by
 unfold d_ at h
 split at h
 ·cases h
  obtain ⟨e,rfl,he⟩:=h1 _ rfl
  exact xM g.K he
 ·rw [Option.bind_eq_some_iff] at h
  obtain ⟨⟨x,bs⟩,hc,h⟩:=h
  split at h
  ·rename_i hh
   cases h
   obtain ⟨e1,hg,hl⟩:=hh
   dsimp only at e1 hg hl
   subst e1
   obtain ⟨p,q,rfl⟩:=gF hc
   obtain ⟨b,rfl⟩:=List.length_eq_one_iff.mp hl
   exact vi (c9 hg) (g.blt _ pX) (bO (hst _ (by simp))) hL
  ·cases h
 ·rw [Option.bind_eq_some_iff] at h
  obtain ⟨⟨x,bs⟩,hc,h⟩:=h
  split at h
  ·rename_i hh
   cases h
   obtain ⟨e1,hg,hl⟩:=hh
   dsimp only at e1 hg hl
   subst e1
   obtain ⟨p,q,rfl⟩:=gF hc
   obtain ⟨b,b',rfl⟩:∃ b b',bs=[b,b']:=by match bs,hl with|[b,b'],_=>exact ⟨b,b',rfl⟩
   have s1:=bO (env:=X.env) (es:=[]) (hst _ (show _∈[_,_] from List.mem_cons_of_mem _ List.mem_cons_self))
   exact vj (c9 hg) (g.blt _ pX) (by rw [bO (hst _ List.mem_cons_self),s1];rfl) s1 hL
  ·cases h
 ·cases h
theorem PT.eqv {X:Cx}{e:Expr}{m m':M Bool} (h:PT X e (tTs C m)) (i:∀ st Q,W m' st Q→W m st Q):PT X e (tTs C m'):=PT.weak h fun σ H Q ⟨c0,e1,e2,ok,w⟩=>⟨c0,e1,e2,ok,i _ _ w⟩
theorem ze {X:Cx}{f:Bf}{es:List E}{x:Str}{p pos:Pos}{es':List Expr} (g:Gd ck Γ C d X) (hL:PA X es' (tEs C (bB Γ es)))
  (h:(decide (x=f.name)&&simple f&&glB X.env.scope x&&!es'.isEmpty&&aB ck es X.N X.env.scope es')=true):PE X (.Call (.Name x p) es' [] pos) (tEv C (ev Γ (.bi f es))):=by
 simp only [Bool.and_eq_true,decide_eq_true_eq,Bool.not_eq_true'] at h
 obtain ⟨⟨⟨⟨rfl,h1⟩,h2⟩,h3⟩,h4⟩:=h
 obtain ⟨b1,b2,b3,b4⟩:=vo f h1
 have hS:=cG h4
 cases es' with
 |nil=>cases h3
 |cons e0 es0 =>
  have st:=bO (env:=X.env) (es:=es0) (hS e0 (by simp))
  have sn:=(bV (pos:=pos) (env:=X.env) (es:=es0) fun e he=>hS e (by simp [he])).1
  rcases xV f h1 with hv|hv
  ·exact vb g.calm g.K g.room.gd g.u hv (c9 h2) (g.blt _ b2) (by rw [b1,hv]) b3 b4 hL st sn
  ·exact vc g.calm g.K g.room.gd g.u hv (c9 h2) (g.blt _ b2) (by rw [b1,hv]) b3 b4 hL st sn
theorem v_ {X:Cx}{f:B2}{es:List E}{x y:Str}{p p2 pos pos2:Pos}{es':List Expr} (g:Gd ck Γ C d X) (hL:PA X es' (tEs C (bB Γ es)))
  (h:(decide (x=f.k6)&&decide (y=f.f7)&&glB X.env.scope x&&glB X.env.scope y&&!es'.isEmpty&&aB ck es X.N X.env.scope es')=true):PE X (.Call (.Name x p) [.Call (.Name y p2) es' [] pos2] [] pos) (tEv C (ev Γ (.bi2 f es))):=by
 simp only [Bool.and_eq_true,decide_eq_true_eq,Bool.not_eq_true'] at h
 obtain ⟨⟨⟨⟨⟨rfl,rfl⟩,h1⟩,h2⟩,h3⟩,h4⟩:=h
 obtain ⟨b1,b2⟩:=xW f
 have hS:=cG h4
 cases es' with
 |nil=>cases h3
 |cons e0 es0 =>
  have st:=bO (env:=X.env) (es:=es0) (hS e0 (by simp))
  have sn:=(bV (pos:=pos2) (env:=X.env) (es:=es0) fun e he=>hS e (by simp [he])).1
  exact vh g.calm g.K (c9 h1) (g.blt _ b1) (c9 h2) (g.blt _ b2) hL st sn
theorem wa {X:Cx}{m:Mf}{a:E}{es:List E}{o:Expr}{name:Str}{apos cpos:Pos}{es':List Expr} (g:Gd ck Γ C d X) (ha:PE X o (tEv C (ev Γ a))) (hL:PA X es' (tEs C (bB Γ es)))
  (h:(decide (name=m.name)&&k_ o&&(apos.endLine==cpos.line)&&!es'.isEmpty&&decide (es'.length<20)&&aC ck a X.N X.env.scope o&&aB ck es X.N X.env.scope es')=true):PE X (.Call (.Attribute o name apos) es' [] cpos) (tEv C (ev Γ (.mth m a es))):=by
 simp only [Bool.and_eq_true,decide_eq_true_eq,Bool.not_eq_true'] at h
 obtain ⟨⟨⟨⟨⟨⟨rfl,h1⟩,h2⟩,h3⟩,h4⟩,h5⟩,h6⟩:=h
 have hS:=cG h6
 obtain ⟨s1,s2⟩:=vp m
 cases es' with
 |nil=>cases h3
 |cons e0 es0 =>
  have st:=bO (env:=X.env) (es:=es0) (hS e0 (by simp))
  have sn:=(bV (pos:=cpos) (env:=X.env) (es:=es0) fun e he=>hS e (by simp [he])).1
  have sa:=(bV (pos:=cpos) (env:=X.env) (es:=e0::es0) hS).2
  refine vg g.K s1 s2 ha hL (gW h1) ?_ h2 st sn
  rw [sa]
  have:(e0::es0).length+([]:List Keyword).length+(if ([]:List Keyword).isEmpty=true then 0 else 1)<30:=by simp at h4 ⊢;omega
  simp only [decide_eq_true this]
  rfl
theorem sR {X:Cx}{f x:Str}{es:List E}{p pos:Pos}{es':List Expr} (g:Gd ck Γ C d X) (hL:PA X es' (tEs C (bB Γ es)))
  (h:(decide (x=f)&&decide (f∈ck.fns)&&glB X.env.scope x&&cU x&&!es'.isEmpty&&aB ck es X.N X.env.scope es')=true):PE X (.Call (.Name x p) es' [] pos) (tEv C (ev Γ (.call f es))):=by
 simp only [Bool.and_eq_true,decide_eq_true_eq,Bool.not_eq_true'] at h
 obtain ⟨⟨⟨⟨⟨rfl,h1⟩,h2⟩,h3⟩,h4⟩,h5⟩:=h
 have hS:=cG h5
 obtain ⟨np,fa,fd,ps,q1,q2,q3,q4,q5⟩:=(g.fns _ h1).ex
 cases es' with
 |nil=>cases h4
 |cons e0 es0 =>
  have st:=bO (env:=X.env) (es:=es0) (hS e0 (by simp))
  have sn:=(bV (pos:=pos) (env:=X.env) (es:=es0) fun e he=>hS e (by simp [he])).1
  exact sF g.P g.w g.K rfl q5 q1 g.room (c9 h2) q2 q3 q4 (bW h3).1 hL st sn
theorem cz {k:Ck}{es:List E}{N:List Str}{sc:Scope}{es':List Expr}{b:Bool} (h:(b&&aB k es N sc es')=true):aB k es N sc es'=true:=(Bool.and_eq_true_iff.mp h).2
mutual
theorem bI:∀ (e:E) (X:Cx) (e':Expr),Gd ck Γ C d X→aC ck e X.N X.env.scope e'=true→PE X e' (tEv C (ev Γ e))
 |.var i,X,e',g,h=>by
  simp only [aC] at h
  split at h
  ·simp only [Bool.and_eq_true,decide_eq_true_eq] at h
   obtain ⟨h3,h4⟩:=bW h.2
   exact pN h.1.1 (gr h.1.2) h3 h4
  ·cases h
 |.cst u,X,e',g,h=>by
  simp only [aC] at h
  split at h
  ·have:=bD h;subst this;exact eI rq fun _ _=>rfl
  ·have:=bD h;subst this;exact eI nE fun _ _=>rfl
  ·have:=bD h;subst this;exact eI vT fun _ _=>rfl
  ·have:=bD h;subst this;exact eI rz fun _ _=>rfl
  ·cases h
 |.glb x u,X,e',g,h=>by
  simp only [aC] at h
  split at h
  ·simp only [Bool.and_eq_true,decide_eq_true_eq,List.any_eq_true] at h
   obtain ⟨⟨⟨rfl,h1⟩,h2⟩,p,hp,e1,e2⟩:=h
   have:=bD e2
   subst this e1
   obtain ⟨val,v,q1,q2,q3⟩:=g.gls p hp
   exact eI (ub (c9 h1) q1 q2 (bW h2).1) q3
  ·cases h
 |.bin op a b,X,e',g,h=>by
  simp only [aC] at h
  split at h
  ·simp only [Bool.and_eq_true,decide_eq_true_eq] at h
   obtain ⟨⟨rfl,h1⟩,h2⟩:=h
   exact uX g.K (bI a X _ g h1) (bI b X _ g h2)
  ·cases h
 |.cmp op a b,X,e',g,h=>by
  simp only [aC] at h
  obtain ⟨a',op',b',p0,rfl,z1⟩:=iN h
  have h:=z1
  simp only [Bool.and_eq_true,decide_eq_true_eq,Bool.not_eq_true'] at h
  obtain ⟨⟨⟨rfl,h0⟩,h1⟩,h2⟩:=h
  exact uY g.P g.w g.K g.u (bI a X _ g h1) (bI b X _ g h2) h0
 |.cmp2 o1 o2 a b c,X,e',g,h=>absurd h (by simp [aC])
 |.and es,X,e',g,h=>by
  simp only [aC] at h
  split at h
  ·exact sT es X _ g h
  ·cases h
 |.or es,X,e',g,h=>by
  simp only [aC] at h
  split at h
  ·exact wb es X _ g h
  ·cases h
 |.not a,X,e',g,h=>by
  simp only [aC] at h
  split at h
  ·exact u3 (bI a X _ g h)
  ·cases h
 |.neg a,X,e',g,h=>absurd h (by simp [aC])
 |.bad,X,e',g,h=>fun pins s σ H Q I ⟨_,_,_,_,w⟩=>(aq.mp w).elim
 |.sit i,X,e',g,h=>fun pins s σ H Q I ⟨_,_,_,_,w⟩=>(aq.mp w).elim
 |.inD neg a i,X,e',g,h=>fun pins s σ H Q I ⟨_,_,_,_,w⟩=>(aq.mp w).elim
 |.pub i,X,e',g,h=>fun pins s σ H Q I ⟨_,_,_,_,w⟩=>(aq.mp w).elim
 |.get2 i a b,X,e',g,h=>fun pins s σ H Q I ⟨_,_,_,_,w⟩=>(aq.mp w).elim
 |.vls i,X,e',g,h=>by
  simp only [aC] at h
  obtain ⟨f',as,_,rfl,z1⟩:=aO h
  obtain ⟨f,_,rfl,z2⟩:=az z1
  obtain ⟨c,rfl,z3⟩:=bL z2
  obtain ⟨o,m,apos,bs,cpos,rfl,z4⟩:=cy z3
  obtain ⟨x,px,rfl,z5⟩:=az z4
  simp only [Bool.and_eq_true,decide_eq_true_eq,List.isEmpty_iff] at z5
  obtain ⟨⟨⟨⟨⟨⟨⟨rfl,rfl⟩,h1⟩,rfl⟩,h3⟩,h4⟩,h5⟩,h6⟩:=z5
  obtain ⟨q1,q2⟩:=bW h5
  exact vn g.calm g.K (c9 h1) (g.blt _ (by decide +kernel)) h3 (gr h4) q1 q2 h6
 |.sdf ln a b,X,e',g,h=>fun pins s σ H Q I ⟨_,_,_,_,w⟩=>(aq.mp w).elim
 |.fst es,X,e',g,h=>by
  simp only [aC] at h
  split at h
  ·exact vf (xX es X _ g h Str.empty (by decide))
  ·cases h
 |.isi a T,X,e',g,h=>by
  simp only [aC] at h
  obtain ⟨f',as,p0,rfl,z1⟩:=aO h
  obtain ⟨x,p1,rfl,z2⟩:=az z1
  clear h z1
  split at z2
  ·obtain ⟨y,p2,rfl,z3⟩:=az z2
   have h:=z3
   simp only [Bool.and_eq_true,decide_eq_true_eq] at h
   obtain ⟨⟨⟨⟨⟨rfl,rfl⟩,h1⟩,h2⟩,h3⟩,h4⟩:=h
   exact pQ g.K (c9 h1) (g.blt _ mK) (c9 h2) (g.blt _ (sQ T)) (bI a X _ g h4) (bO h3)
  ·cases z2
 |.ite c a b,X,e',g,h=>absurd h (by simp [aC])
 |.tup es,X,e',g,h=>by
  simp only [aC] at h
  split at h
  ·exact u7 (gs es X _ g h)
  ·cases h
 |.lst es,X,e',g,h=>by
  simp only [aC] at h
  split at h
  ·exact u9 (gs es X _ g h)
  ·cases h
 |.dnew r,X,e',g,h=>by
  simp only [aC] at h
  split at h
  ·exact sE g.P g.w r
  ·cases h
 |.idx a b,X,e',g,h=>by
  simp only [aC] at h
  split at h
  ·simp only [Bool.and_eq_true] at h
   exact pO g.K g.u (mJ h.1.1) (bI a X _ g h.1.2) (bI b X _ g h.2)
  ·cases h
 |.slc a lo hi,X,e',g,h=>by
  simp only [aC] at h
  split at h
  ·simp only [Bool.and_eq_true] at h
   exact va g.K (bI a X _ g h.1.1) (zf lo X _ g h.1.2) (zf hi X _ g h.2)
  ·cases h
 |.bi f es,X,e',g,h=>by
  simp only [aC] at h
  obtain ⟨f',as,p0,rfl,z1⟩:=aO h
  obtain ⟨x,p1,rfl,z2⟩:=az z1
  have h:=z2
  exact ze g (gs es X _ g (cz h)) h
 |.bi2 f es,X,e',g,h=>by
  simp only [aC] at h
  obtain ⟨f',as,p0,rfl,z1⟩:=aO h
  obtain ⟨x,p1,rfl,z2⟩:=az z1
  obtain ⟨c,rfl,z3⟩:=bL z2
  obtain ⟨g',as',p2,rfl,z4⟩:=aO z3
  obtain ⟨y,p3,rfl,z5⟩:=az z4
  have h:=z5
  exact v_ g (gs es X _ g (cz h)) h
 |.mth m a es,X,e',g,h=>by
  simp only [aC] at h
  obtain ⟨o,name,apos,as,cpos,rfl,z1⟩:=cy h
  have h:=z1
  have h':=h
  simp only [Bool.and_eq_true] at h'
  exact wa g (bI a X _ g h'.1.2) (gs es X _ g (cz h)) h
 |.call f es,X,e',g,h=>by
  simp only [aC] at h
  obtain ⟨f',as,p0,rfl,z1⟩:=aO h
  obtain ⟨x,p1,rfl,z2⟩:=az z1
  have h:=z2
  exact sR g (gs es X _ g (cz h)) h
 |.comp n t ik src cond e,X,e',g,h=>by
  simp only [aC] at h
  split at h
  ·rename_i elt tg iter ifs scope _
   simp only [Bool.and_eq_true,decide_eq_true_eq] at h
   obtain ⟨⟨⟨⟨⟨⟨⟨h1,h2⟩,h3⟩,h4⟩,h5⟩,h6⟩,h7⟩,h8⟩:=h
   subst h1
   have S:=rW (X:=X) rfl (jU _ _) h2
   split at h5
   ·rename_i as has
    have hst:=cG h5
    have hI:PI X tg iter (tIt C ik (bB Γ src)):=v9 g has (gs src X _ g h5) (fun a e=>by
     subst e
     cases src with
     |nil=>simp [aB] at h5
     |cons e1 es1 =>
      cases es1 with
      |nil =>
       simp only [aB,Bool.and_eq_true] at h5
       exact ⟨e1,rfl,bI e1 X _ g h5.1.2⟩
      |cons _ _=>simp [aB] at h5) hst
    exact sM S g.calm hI (fun D s H ex=>pW (fa:=false) g.calm g.K S.nd (fun z=>nomatch z) h3)
     (fun D s H ex=>by
      cases ifs with
      |nil =>
       cases cond with
       |nil=>exact fun pins s σ H Q I ⟨c0,e1,e2,ok,w⟩=>pA pins s σ H Q I (by subst e1 e2;rw [show aU Γ []=pure true from rfl,ai] at w;exact w c0 rfl rfl ok (Nx.refl c0))
       |cons _ _=>simp [aB] at h7
      |cons c1 cs =>
       cases cs with
       |nil =>
        cases cond with
        |nil=>simp [aB] at h7
        |cons e1 es1 =>
         cases es1 with
         |nil =>
          simp only [aB,Bool.and_eq_true] at h7
          exact pB (lh e1 (cxC X _ scope D s H ex) c1 (g.cx _ _ _ _ _ _) h7.1.2)
         |cons _ _=>simp [aB] at h7
       |cons _ _=>simp at h6)
     (fun D s H ex=>bI e (cxC X _ scope D s H ex) elt (g.cx _ _ _ _ _ _) h8) (oB h4)
   ·cases h5
  ·cases h
theorem xX:∀ (es:List E) (X:Cx) (es':List Expr),Gd ck Γ C d X→qX ck es X.N X.env.scope es'=true→∀ out:Str,out.length≤sizeLine→PJ X out es' (tEv C (evF Γ es out >>= fun y=>pure (.loc,.str y)))
 |[],X,es',g,h,out,hz=>by
  cases es' with
  |nil=>exact xD hz
  |cons _ _=>simp [qX] at h
 |e::es,X,es',g,h,out,hz=>by
  simp only [qX] at h
  split at h
  ·simp only [Bool.and_eq_true] at h
   have z:=xF (p:=by assumption) (out:=out) (bI e X _ g h.1) fun y hy=>xX es X _ g h.2 y hy
   rintro pins s σ H Q I ⟨c0,e1,e2,ok,w⟩
   refine z pins s σ H Q I ⟨c0,e1,e2,ok,?_⟩
   simp only [evF,ag] at w ⊢
   exact w
  ·simp only [Bool.and_eq_true] at h
   cases e with
   |cst u =>
    have hu:=bD h.1
    subst hu
    rintro pins s σ H Q I ⟨c0,e1,e2,ok,w⟩
    simp only [evF,ag] at w
    rw [show ev Γ (.cst (.str _))=pure (.loc,.str _) from rfl,ai] at w
    obtain ⟨y',hy,w⟩:=bQ.mp w
    simp only [jA] at hy
    split at hy
    ·rename_i hz'
     cases hy
     exact xE (xX es X _ g h.2 _ hz'.2) hz'.2 pins s σ H Q I ⟨c0,e1,e2,ok,by rw [ag];exact w⟩
    ·cases hy
   |_=>simp at h
  ·cases h
theorem gs:∀ (es:List E) (X:Cx) (es':List Expr),Gd ck Γ C d X→aB ck es X.N X.env.scope es'=true→PA X es' (tEs C (bB Γ es))
 |[],X,es',g,h=>by
  cases es' with
  |nil=>exact u6
  |cons _ _=>simp [aB] at h
 |e::es,X,es',g,h=>by
  cases es' with
  |nil=>simp [aB] at h
  |cons e' es' =>
   simp only [aB,Bool.and_eq_true] at h
   exact sC (bI e X e' g h.1.2) (gs es X es' g h.2) (bO h.1.1)
theorem zf:∀ (es:List E) (X:Cx) (o:Option Expr),Gd ck Γ C d X→oA ck es X.N X.env.scope o=true→PO X o (tO C (evO Γ es))
 |[],X,o,g,h=>by
  cases o with
  |none=>exact gi
  |some _=>simp [oA] at h
 |[e],X,o,g,h=>by
  cases o with
  |none=>simp [oA] at h
  |some e'=>simp only [oA] at h;exact qS (bI e X e' g h)
 |_::_::_,X,o,g,h=>by simp [oA] at h
theorem sT:∀ (es:List E) (X:Cx) (es':List Expr),Gd ck Γ C d X→aB ck es X.N X.env.scope es'=true→∀ {pos},PE X (.BoolOp .And es' pos) (tEv C (sr Γ es))
 |[],X,es',g,h,pos=>fun pins s σ H Q I ⟨_,_,_,_,w⟩=>(aq.mp w).elim
 |[e],X,es',g,h,pos=>by
  cases es' with
  |nil=>simp [aB] at h
  |cons e' es' =>
   cases es' with
   |nil=>simp only [aB,Bool.and_eq_true] at h;exact rA (bI e X e' g h.1.2)
   |cons _ _=>simp [aB] at h
 |e::e1::es,X,es',g,h,pos=>by
  cases es' with
  |nil=>simp [aB] at h
  |cons e' es' =>
   have h':noStar e'=true∧aC ck e X.N X.env.scope e'=true∧aB ck (e1::es) X.N X.env.scope es'=true:=by
    rw [aB] at h
    simp only [Bool.and_eq_true] at h
    exact ⟨h.1.1,h.1.2,h.2⟩
   cases es' with
   |nil=>have:=h'.2.2;simp [aB] at this
   |cons e2 es2=>exact snd_and (bI e X e' g h'.2.1) (sT (e1::es) X _ g h'.2.2)
theorem wb:∀ (es:List E) (X:Cx) (es':List Expr),Gd ck Γ C d X→aB ck es X.N X.env.scope es'=true→∀ {pos},PE X (.BoolOp .Or es' pos) (tEv C (xq Γ es))
 |[],X,es',g,h,pos=>fun pins s σ H Q I ⟨_,_,_,_,w⟩=>(aq.mp w).elim
 |[e],X,es',g,h,pos=>by
  cases es' with
  |nil=>simp [aB] at h
  |cons e' es' =>
   cases es' with
   |nil=>simp only [aB,Bool.and_eq_true] at h;exact rA (bI e X e' g h.1.2)
   |cons _ _=>simp [aB] at h
 |e::e1::es,X,es',g,h,pos=>by
  cases es' with
  |nil=>simp [aB] at h
  |cons e' es' =>
   have h':noStar e'=true∧aC ck e X.N X.env.scope e'=true∧aB ck (e1::es) X.N X.env.scope es'=true:=by
    rw [aB] at h
    simp only [Bool.and_eq_true] at h
    exact ⟨h.1.1,h.1.2,h.2⟩
   cases es' with
   |nil=>have:=h'.2.2;simp [aB] at this
   |cons e2 es2=>exact xw (bI e X e' g h'.2.1) (wb (e1::es) X _ g h'.2.2)
theorem lh:∀ (e:E) (X:Cx) (e':Expr),Gd ck Γ C d X→aC ck e X.N X.env.scope e'=true→PT X e' (tTs C (tst Γ e))
 |.and es,X,e',g,h=>by
  simp only [aC] at h
  split at h
  ·exact (pY es X _ g h).pt
  ·cases h
 |.or es,X,e',g,h=>by
  simp only [aC] at h
  split at h
  ·exact (sU es X _ g h).pt
  ·cases h
 |.not a,X,e',g,h=>by
  simp only [aC] at h
  split at h
  ·exact u4 (lh a X _ g h)
  ·cases h
 |.cmp op a b,X,e',g,h=>by
  simp only [aC] at h
  obtain ⟨a',op',b',p0,rfl,z1⟩:=iN h
  have h:=z1
  simp only [Bool.and_eq_true,decide_eq_true_eq,Bool.not_eq_true'] at h
  obtain ⟨⟨⟨rfl,h0⟩,h1⟩,h2⟩:=h
  exact uZ g.P g.w g.K g.u (bI a X _ g h1) (bI b X _ g h2) h0
 |.cmp2 o1 o2 a b c,X,e',g,h=>absurd h (by simp [aC])
 |.var i,X,e',g,h=>by
  have hE:PE X e' (tEv C (ev Γ (.var i))):=by
   have h':=h
   simp only [aC] at h'
   split at h'
   ·simp only [Bool.and_eq_true,decide_eq_true_eq] at h'
    obtain ⟨h3,h4⟩:=bW h'.2
    exact pN h'.1.1 (gr h'.1.2) h3 h4
   ·cases h'
  simp only [aC] at h
  split at h
  ·exact cO hE g.K fun _=>rfl
  ·cases h
 |.idx a b,X,e',g,h=>by
  simp only [aC] at h
  split at h
  ·simp only [Bool.and_eq_true] at h
   have hE:=pO (pos:=by assumption) g.K g.u (mJ h.1.1) (bI a X _ g h.1.2) (bI b X _ g h.2)
   refine PT.eqv (cO hE g.K fun _=>rfl) fun st Q w=>?_
   simp only [tst,ag] at w ⊢
   exact w
  ·cases h
 |.bi f es,X,e',g,h=>by
  simp only [aC] at h
  obtain ⟨f',as,p0,rfl,z1⟩:=aO h
  obtain ⟨x,p1,rfl,z2⟩:=az z1
  have h:=z2
  refine PT.eqv (cO (ze g (gs es X _ g (cz h)) h) g.K fun _=>rfl) fun st Q w=>?_
  simp only [tst,ev,ag] at w ⊢
  exact w
 |.bi2 f es,X,e',g,h=>by
  simp only [aC] at h
  obtain ⟨f',as,p0,rfl,z1⟩:=aO h
  obtain ⟨x,p1,rfl,z2⟩:=az z1
  obtain ⟨c,rfl,z3⟩:=bL z2
  obtain ⟨g',as',p2,rfl,z4⟩:=aO z3
  obtain ⟨y,p3,rfl,z5⟩:=az z4
  have h:=z5
  refine PT.eqv (cO (v_ g (gs es X _ g (cz h)) h) g.K fun _=>rfl) fun st Q w=>?_
  simp only [tst,ev,ag] at w ⊢
  exact w
 |.mth m a es,X,e',g,h=>by
  simp only [aC] at h
  obtain ⟨o,name,apos,as,cpos,rfl,z1⟩:=cy h
  have h:=z1
  have h':=h
  simp only [Bool.and_eq_true] at h'
  refine PT.eqv (cO (wa g (bI a X _ g h'.1.2) (gs es X _ g (cz h)) h) g.K fun _=>rfl) fun st Q w=>?_
  simp only [tst,ev,ag] at w ⊢
  exact w
 |.call f es,X,e',g,h=>by
  simp only [aC] at h
  obtain ⟨f',as,p0,rfl,z1⟩:=aO h
  obtain ⟨x,p1,rfl,z2⟩:=az z1
  have h:=z2
  refine PT.eqv (cO (sR g (gs es X _ g (cz h)) h) g.K fun _=>rfl) fun st Q w=>?_
  simp only [tst,ev,ag] at w ⊢
  exact w
 |.cst u,X,e',g,h=>by
  have go:∀ {v:V},PE X e' (tC v)→(∀ S H,Rep C S H u v)→(∀ whole,isTrue e' X.env whole=(do let v ←whole;standAt e'.pos;holding [v] (truthy v)))→PT X e' (tTs C (tst Γ (.cst u))):=fun {v} h1 h2 h3=>by
   refine PT.eqv (cO (eI h1 h2) g.K h3) fun st Q w=>?_
   rw [ag,ai]
   exact w
  simp only [aC] at h
  split at h
  ·have:=bD h;subst this;exact go rq (fun _ _=>rfl) fun _=>rfl
  ·have:=bD h;subst this;exact go nE (fun _ _=>rfl) fun _=>rfl
  ·have:=bD h;subst this;exact go vT (fun _ _=>rfl) fun _=>rfl
  ·have:=bD h;subst this;exact go rz (fun _ _=>rfl) fun _=>rfl
  ·cases h
 |.fst es,X,e',g,h=>fun pins s σ H Q I ⟨_,_,_,_,w⟩=>(aq.mp w).elim
 |.glb x u,X,e',g,h=>fun pins s σ H Q I ⟨_,_,_,_,w⟩=>(aq.mp w).elim
 |.neg a,X,e',g,h=>fun pins s σ H Q I ⟨_,_,_,_,w⟩=>(aq.mp w).elim
 |.isi a T,X,e',g,h=>by
  simp only [aC] at h
  obtain ⟨f',as,p0,rfl,z1⟩:=aO h
  obtain ⟨x,p1,rfl,z2⟩:=az z1
  clear h z1
  split at z2
  ·obtain ⟨y,p2,rfl,z3⟩:=az z2
   have h:=z3
   simp only [Bool.and_eq_true,decide_eq_true_eq] at h
   obtain ⟨⟨⟨⟨⟨rfl,rfl⟩,h1⟩,h2⟩,h3⟩,h4⟩:=h
   refine PT.eqv (cO (pQ g.K (c9 h1) (g.blt _ mK) (c9 h2) (g.blt _ (sQ T)) (bI a X _ g h4) (bO h3)) g.K fun _=>rfl) fun st Q w=>?_
   simp only [tst,ag] at w ⊢
   refine W.mono w fun x s1 w1=>?_
   obtain ⟨b,e,w2⟩:=bQ.mp w1
   exact bQ.mpr ⟨b,e,ai.mpr (bQ.mpr ⟨b,rfl,w2⟩)⟩
  ·cases z2
 |.bad,X,e',g,h=>fun pins s σ H Q I ⟨_,_,_,_,w⟩=>(aq.mp w).elim
 |.inD neg a i,X,e',g,h=>fun pins s σ H Q I ⟨_,_,_,_,w⟩=>(aq.mp w).elim
 |.pub i,X,e',g,h=>fun pins s σ H Q I ⟨_,_,_,_,w⟩=>(aq.mp w).elim
 |.sdf ln a b,X,e',g,h=>fun pins s σ H Q I ⟨_,_,_,_,w⟩=>(aq.mp w).elim
 |.sit i,X,e',g,h=>fun pins s σ H Q I ⟨_,_,_,_,w⟩=>(aq.mp w).elim
 |.vls i,X,e',g,h=>fun pins s σ H Q I ⟨_,_,_,_,w⟩=>(aq.mp w).elim
 |.get2 i a b,X,e',g,h=>fun pins s σ H Q I ⟨_,_,_,_,w⟩=>(aq.mp w).elim
 |.bin op a b,X,e',g,h=>fun pins s σ H Q I ⟨_,_,_,_,w⟩=>(aq.mp w).elim
 |.ite c a b,X,e',g,h=>fun pins s σ H Q I ⟨_,_,_,_,w⟩=>(aq.mp w).elim
 |.tup es,X,e',g,h=>fun pins s σ H Q I ⟨_,_,_,_,w⟩=>(aq.mp w).elim
 |.lst es,X,e',g,h=>fun pins s σ H Q I ⟨_,_,_,_,w⟩=>(aq.mp w).elim
 |.dnew r,X,e',g,h=>fun pins s σ H Q I ⟨_,_,_,_,w⟩=>(aq.mp w).elim
 |.slc a lo hi,X,e',g,h=>fun pins s σ H Q I ⟨_,_,_,_,w⟩=>(aq.mp w).elim
 |.comp n t ik src cond e,X,e',g,h=>fun pins s σ H Q I ⟨_,_,_,_,w⟩=>(aq.mp w).elim
theorem pY:∀ (es:List E) (X:Cx) (es':List Expr),Gd ck Γ C d X→aB ck es X.N X.env.scope es'=true→∀ {pos},PW X (.BoolOp .And es' pos) (tTs C (aU Γ es))
 |[],X,es',g,h,pos=>by
  cases es' with
  |nil =>
   rintro wh pins s σ H Q I ⟨c0,rfl,rfl,ok,w⟩
   rw [show aU Γ []=pure true from rfl,ai] at w
   exact isTrue_and_nil ⟨c0.H,I,w c0 rfl rfl ok (Nx.refl c0)⟩
  |cons _ _=>simp [aB] at h
 |[e],X,es',g,h,pos=>by
  cases es' with
  |nil=>simp [aB] at h
  |cons e' es' =>
   cases es' with
   |nil=>simp only [aB,Bool.and_eq_true] at h;exact ud (lh e X e' g h.1.2)
   |cons _ _=>simp [aB] at h
 |e::e1::es,X,es',g,h,pos=>by
  cases es' with
  |nil=>simp [aB] at h
  |cons e' es' =>
   have h':noStar e'=true∧aC ck e X.N X.env.scope e'=true∧aB ck (e1::es) X.N X.env.scope es'=true:=by
    rw [aB] at h
    simp only [Bool.and_eq_true] at h
    exact ⟨h.1.1,h.1.2,h.2⟩
   cases es' with
   |nil=>have:=h'.2.2;simp [aB] at this
   |cons e2 es2=>exact u5 (lh e X e' g h'.2.1) (pY (e1::es) X _ g h'.2.2)
theorem sU:∀ (es:List E) (X:Cx) (es':List Expr),Gd ck Γ C d X→aB ck es X.N X.env.scope es'=true→∀ {pos},PW X (.BoolOp .Or es' pos) (tTs C (d7 Γ es))
 |[],X,es',g,h,pos=>by
  cases es' with
  |nil =>
   rintro wh pins s σ H Q I ⟨c0,rfl,rfl,ok,w⟩
   rw [show d7 Γ []=pure false from rfl,ai] at w
   exact isTrue_or_nil ⟨c0.H,I,w c0 rfl rfl ok (Nx.refl c0)⟩
  |cons _ _=>simp [aB] at h
 |[e],X,es',g,h,pos=>by
  cases es' with
  |nil=>simp [aB] at h
  |cons e' es' =>
   cases es' with
   |nil=>simp only [aB,Bool.and_eq_true] at h;exact wy (lh e X e' g h.1.2)
   |cons _ _=>simp [aB] at h
 |e::e1::es,X,es',g,h,pos=>by
  cases es' with
  |nil=>simp [aB] at h
  |cons e' es' =>
   have h':noStar e'=true∧aC ck e X.N X.env.scope e'=true∧aB ck (e1::es) X.N X.env.scope es'=true:=by
    rw [aB] at h
    simp only [Bool.and_eq_true] at h
    exact ⟨h.1.1,h.1.2,h.2⟩
   cases es' with
   |nil=>have:=h'.2.2;simp [aB] at this
   |cons e2 es2=>exact xx (lh e X e' g h'.2.1) (sU (e1::es) X _ g h'.2.2)
end
end
end TM
namespace TM
open PySem L2 PyProof.Rows
noncomputable def swB (sc:Scope) (x:Str) (line:Nat):Expr→Bool
 |.ListComp elt gens s pos=>decide (sc.names.lookup x=some .local)&&(line==pos.line)&&!(s.names.any fun (n,k)=>n==x&&(k==.local||k==.cell))
 |_=>false
noncomputable def pZ (s:Stmt) (k:Expr→Bool):Bool:=match s with|.Expr e _=>k e|_=>false
theorem iQ {s:Stmt}{k:Expr→Bool} (h:pZ s k=true):∃ e p,s=.Expr e p∧k e=true:=by
 unfold pZ at h
 split at h
 ·exact ⟨_,_,rfl,h⟩
 ·cases h
noncomputable def sV (s:Stmt) (k:Expr→Expr→Bool):Bool:=match s with|.Assign ts v _=>f9 ts fun t=>k t v|_=>false
theorem oC {s:Stmt}{k:Expr→Expr→Bool} (h:sV s k=true):∃ t v p,s=.Assign [t] v p∧k t v=true:=by
 unfold sV at h
 split at h
 ·obtain ⟨t,rfl,z1⟩:=bL h
  exact ⟨_,_,_,rfl,h⟩
 ·cases h
mutual
noncomputable def eU (k:Ck):S→List Str→Scope→Stmt→Bool
 |.set i e,N,sc,s=>match s with
  |.Assign [.Name x p] v _=>decide (N[i]?=some x)&&qW sc x&&decide (sc.kind=.function)&&aC k e N sc v&&(cP v||swB sc x p.line v||(match v with|.ListComp _ _ _ _=>true|_=>false))&&(match e with|.comp _ _ _ _ _ _=>true|_=>cP v)
  |_=>false
 |.setT is e,N,sc,s=>match s with
  |.Assign [.Tuple es kk p] v _=>tgB true N sc true is (.Tuple es kk p)&&cP v&&xS v&&aC k e N sc v
  |_=>false
 |.put i a b,N,sc,s=>sV s fun t b'=>sP t fun o a'=>cf o fun x=>decide (N[i]?=some x)&&ox sc x&&cU x&&cP b'&&gU a'&&aC k a N sc a'&&aC k b N sc b'
 |.app i e,N,sc,s=>pZ s fun c=>iO c fun o m apos as cpos=>cf o fun x=>f9 as fun a=>decide (m="append")&&decide (N[i]?=some x)&&ox sc x&&cU x&&(apos.endLine==cpos.line)&&noStar a&&aC k e N sc a
 |.ext i e,N,sc,s=>pZ s fun c=>iO c fun o m apos as cpos=>cf o fun x=>f9 as fun a=>decide (m="extend")&&decide (N[i]?=some x)&&ox sc x&&cU x&&(apos.endLine==cpos.line)&&noStar a&&aC k e N sc a
 |.bad,_,_,_=>true
 |.newD _,_,_,_=>false
 |.aug _ _ _ _,_,_,_=>false
 |.rvs _,_,_,_=>false
 |.putD _ _ _,_,_,_=>false
 |.appD _ _ _,_,_,_=>false
 |.exp e,N,sc,s=>match s with
  |.Expr e' _=>cP e'&&aC k e N sc e'
  |_=>false
 |.ret e,N,sc,s=>match s with
  |.Return (some e') _=>aC k e N sc e'
  |_=>false
 |.retN,N,sc,s=>match s with
  |.Return none _=>true
  |_=>false
 |.ite c a b,N,sc,s=>match s with
  |.If c' a' b' _=>aC k c N sc c'&&aV k a N sc a'&&aV k b N sc b'
  |_=>false
 |.for_ t is ik src body,N,sc,s=>match s with
  |.For tg iter body' [] _=>tgB t N sc true is tg&&ou iter&&(match d_ sc tg ik iter with
    |some as=>aB k src N sc as
    |none=>false)&&aV k body N sc body'
  |_=>false
 |.whl c body,N,sc,s=>match s with
  |.While c' body' [] _=>aC k c N sc c'&&aV k body N sc body'
  |_=>false
 |.brk,_,_,s=>match s with
  |.Break _=>true
  |_=>false
 |.cnt,_,_,s=>match s with
  |.Continue _=>true
  |_=>false
 |.pas,_,_,s=>match s with
  |.Pass _=>true
  |_=>false
noncomputable def aV (k:Ck):List S→List Str→Scope→List Stmt→Bool
 |[],_,_,ss'=>ss'.isEmpty
 |s::ss,N,sc,ss'=>match ss' with
  |s'::ss'=>eU k s N sc s'&&aV k ss N sc ss'
  |[]=>false
end
section
variable {ck : Ck} {Γ : Tab} {C : Ct} {d : Nat} {X : Cx}
theorem sW {sc:Scope}{x:Str} (h:qW sc x=true):Loc sc x:=by
 unfold qW at h
 simp only [Bool.or_eq_true,decide_eq_true_eq] at h
 exact h
theorem iR {v:Expr}{t:Option Expr}{line:Nat}{env:Env} (h:cP v=true):swapsWith v t line env=pure false:=by
 cases v <;> first|rfl|cases h
theorem p5 {v t:Expr}{line:Nat}{env:Env} (h:cP v=true):swapsWithSole [t] v line env=pure false:=by
 rw [swapsWithSole]
 exact iR h
theorem vq {o i:Expr}{p:Pos}{env:Env} (h:gU i=true):∀ v,assign (.Subscript o i p) env v=(do
   let ov ←holding [v] (eval o env)
   let iv ←holding [v,ov] (eval i env)
   standAt p
   holding [v,ov,iv] (setItem ov iv v)
   release [v,ov,iv] []):=by
 intro v
 cases i <;> first|rfl|cases h
structure Gs (ck:Ck) (Γ:Tab) (C:Ct) (d:Nat) (X:Cx):Prop where
 gd:Gd ck Γ C d X
 nd:X.N.Nodup
 fn:∀ x,X.fn x=true
 po:PassesOwn (model X.prog X.w) X.A X.env X.xe
 kd:X.env.scope.kind=.function
theorem p6 {ik:Ik}{iter tg:Expr}{src:List E} (g:Gd ck Γ C d X) (h:(match d_ X.env.scope tg ik iter with|some as=>aB ck src X.N X.env.scope as|none=>false)=true):PI X tg iter (tIt C ik (bB Γ src)):=by
 split at h
 ·rename_i as has
  exact v9 g has (gs src X _ g h) (fun a e=>by
   subst e
   cases src with
   |nil=>simp [aB] at h
   |cons e1 es1 =>
    cases es1 with
    |nil =>
     simp only [aB,Bool.and_eq_true] at h
     exact ⟨e1,rfl,bI e1 X _ g h.1.2⟩
    |cons _ _=>simp [aB] at h) (cG h)
 ·cases h
theorem iS {elt:Expr}{gens:List Comprehension}{s:Scope}{pos p spos:Pos}{x:Str} (hk:X.env.scope.kind=.function):swapsWith (.ListComp elt gens s pos) (some (.Name x p)) spos.line X.env=pure (swB X.env.scope x p.line (.ListComp elt gens s pos)):=by
 have hb:X.env.blockKind=.function:=by
  unfold Env.blockKind
  rw [hk]
  rfl
 show (pure (X.env.blockKind==.function&&X.env.kindOf x==some .local&&p.line==pos.line&&!(s.names.any fun (n,k)=>n==x&&(k==.local||k==.cell))):Sem Bool)=_
 rw [hb]
 unfold swB
 congr 1
 have:(X.env.kindOf x==some NameKind.local)=decide (X.env.scope.names.lookup x=some .local):=by
  unfold Env.kindOf
  rw [Bool.eq_iff_iff]
  simp
 rw [this]
 rfl
theorem xY {i:Nat}{x:Str}{p spos pos:Pos}{n:Nat}{t:Bool}{ik:Ik}{src cond:List E}{e:E}{elt tg iter:Expr}{ifs:List Expr}{scope:Scope} (G:Gs ck Γ C d X) (hi:X.N[i]?=some x) (hx:qW X.env.scope x=true)
  (h:aC ck (.comp n t ik src cond e) X.N X.env.scope (.ListComp elt [⟨tg,iter,ifs,0⟩] scope pos)=true) (ns:Nat→Bool) (hns:∀ j,ns j=true→j≠i) :
  L2.PS X (.Assign [.Name x p] (.ListComp elt [⟨tg,iter,ifs,0⟩] scope pos) spos) (tEx C ns (ev Γ (.comp n t ik src cond e) >>= fun r=>dP i r >>= fun _=>pure .nx)):=by
 have g:=G.gd
 have hE:=bI (.comp n t ik src cond e) X _ g h
 cases hsw:swB X.env.scope x p.line (.ListComp elt [⟨tg,iter,ifs,0⟩] scope pos) with
 |false=>exact v8 hns G.nd hi (sW hx) (.inl (G.fn x)) hE (by rw [iS G.kd,hsw])
 |true =>
  have hl:X.env.scope.names.lookup x=some .local:=by
   simp only [swB,Bool.and_eq_true,decide_eq_true_eq] at hsw
   exact hsw.1.1
  simp only [aC,Bool.and_eq_true,decide_eq_true_eq] at h
  obtain ⟨⟨⟨⟨⟨⟨⟨h1,h2⟩,h3⟩,h4⟩,h5⟩,h6⟩,h7⟩,h8⟩:=h
  subst h1
  have S:=rW (X:=X) rfl (jU _ _) h2
  exact xQ hns S g.calm G.nd hi hl (p6 g h5) (fun D s H ex=>pW (fa:=false) g.calm g.K S.nd (fun z=>nomatch z) h3)
   (fun D s H ex=>by
    cases ifs with
    |nil =>
     cases cond with
     |nil=>exact fun pins s σ H Q I ⟨c0,e1,e2,ok,w⟩=>pA pins s σ H Q I (by subst e1 e2;rw [show aU Γ []=pure true from rfl,ai] at w;exact w c0 rfl rfl ok (Nx.refl c0))
     |cons _ _=>simp [aB] at h7
    |cons c1 cs =>
     cases cs with
     |nil =>
      cases cond with
      |nil=>simp [aB] at h7
      |cons e1 es1 =>
       cases es1 with
       |nil =>
        simp only [aB,Bool.and_eq_true] at h7
        exact pB (lh e1 (cxC X _ scope D s H ex) c1 (g.cx _ _ _ _ _ _) h7.1.2)
       |cons _ _=>simp [aB] at h7
     |cons _ _=>simp at h6)
   (fun D s H ex=>bI e (cxC X _ scope D s H ex) elt (g.cx _ _ _ _ _ _) h8) (by rw [iS G.kd,hsw]) (oB h4)
mutual
theorem AF:∀ (s:S) (X:Cx) (s':Stmt),Gs ck Γ C d X→eU ck s X.N X.env.scope s'=true→L2.PS X s' (tEx C (nsS s) (exec Γ s))
 |.set i e,X,s',G,h=>by
  simp only [eU] at h
  split at h
  ·rename_i x p v _
   simp only [Bool.and_eq_true,decide_eq_true_eq] at h
   obtain ⟨⟨⟨⟨⟨h1,h2⟩,h3⟩,h4⟩,h5⟩,h6⟩:=h
   have hns:∀ j,nsS (.set i e) j=true→j≠i:=fun j hj=>by simpa [nsS] using hj
   by_cases hc:cP v=true
   ·exact v8 hns G.nd h1 (sW h2) (.inl (G.fn x)) (bI e X v G.gd h4) (iR hc)
   ·cases e with
    |comp n t ik src cond e =>
     have h4':=h4
     simp only [aC] at h4'
     split at h4'
     ·exact xY G h1 h2 h4 _ hns
     ·cases h4'
    |_=>exact absurd h6 hc
  ·cases h
 |.setT is e,X,s',G,h=>by
  simp only [eU] at h
  split at h
  ·simp only [Bool.and_eq_true] at h
   obtain ⟨⟨⟨h1,h2⟩,h3⟩,h4⟩:=h
   rename_i es kk p v _
   refine xR (fun j hj=>by simpa [nsS] using hj) (bI e X v G.gd h4) (pW (fa:=true) G.gd.calm G.gd.K G.nd (fun _=>G.fn) h1) (p5 h2) ?_ rfl
   cases v <;> first|rfl|cases h3
  ·cases h
 |.put i a b,X,s',G,h=>by
  simp only [eU] at h
  obtain ⟨t,v,p,rfl,z1⟩:=oC h
  obtain ⟨o,a',p1,rfl,z2⟩:=oz z1
  obtain ⟨x,px,rfl,z3⟩:=az z2
  simp only [Bool.and_eq_true,decide_eq_true_eq] at z3
  obtain ⟨⟨⟨⟨⟨⟨h1,h2⟩,h3⟩,h4⟩,h5⟩,h6⟩,h7⟩:=z3
  obtain ⟨q1,q2⟩:=bW h3
  exact zc G.gd.P G.gd.w G.gd.K G.gd.u h1 (gr h2) q1 q2 (bI b X _ G.gd h7) (bI a X _ G.gd h6) (p5 h4) rfl (vq h5)
 |.app i e,X,s',G,h=>by
  simp only [eU] at h
  obtain ⟨c,p0,rfl,z1⟩:=iQ h
  obtain ⟨o,m,apos,as,cpos,rfl,z2⟩:=cy z1
  obtain ⟨x,px,rfl,z3⟩:=az z2
  obtain ⟨a,rfl,z4⟩:=bL z3
  simp only [Bool.and_eq_true,decide_eq_true_eq] at z4
  obtain ⟨⟨⟨⟨⟨⟨rfl,h1⟩,h2⟩,h3⟩,h4⟩,h5⟩,h6⟩:=z4
  obtain ⟨q1,q2⟩:=bW h3
  have st:=bO (env:=X.env) (es:=[]) h5
  have sa:=(bV (pos:=cpos) (env:=X.env) (es:=[a]) fun e he=>by simp at he;subst he;exact h5).2
  refine za G.gd.K h1 (gr h2) q1 q2 (bI e X _ G.gd h6) ?_ h4 st
  rw [sa]
  rfl
 |.ext i e,X,s',G,h=>by
  simp only [eU] at h
  obtain ⟨c,p0,rfl,z1⟩:=iQ h
  obtain ⟨o,m,apos,as,cpos,rfl,z2⟩:=cy z1
  obtain ⟨x,px,rfl,z3⟩:=az z2
  obtain ⟨a,rfl,z4⟩:=bL z3
  simp only [Bool.and_eq_true,decide_eq_true_eq] at z4
  obtain ⟨⟨⟨⟨⟨⟨rfl,h1⟩,h2⟩,h3⟩,h4⟩,h5⟩,h6⟩:=z4
  obtain ⟨q1,q2⟩:=bW h3
  have st:=bO (env:=X.env) (es:=[]) h5
  have sa:=(bV (pos:=cpos) (env:=X.env) (es:=[a]) fun e he=>by simp at he;subst he;exact h5).2
  refine zb G.gd.K h1 (gr h2) q1 q2 (bI e X _ G.gd h6) ?_ h4 st
  rw [sa]
  rfl
 |.bad,X,s',G,h=>fun pins sh σ H D I ⟨_,_,_,_,w⟩=>(aq.mp w).elim
 |.aug sub i a e,X,s',G,h=>fun pins sh σ H D I ⟨_,_,_,_,w⟩=>(aq.mp w).elim
 |.rvs i,X,s',G,h=>fun pins sh σ H D I ⟨_,_,_,_,w⟩=>(aq.mp w).elim
 |.newD i,X,s',G,h=>fun pins sh σ H D I ⟨_,_,_,_,w⟩=>(aq.mp w).elim
 |.putD i a b,X,s',G,h=>fun pins sh σ H D I ⟨_,_,_,_,w⟩=>(aq.mp w).elim
 |.appD i a e,X,s',G,h=>fun pins sh σ H D I ⟨_,_,_,_,w⟩=>(aq.mp w).elim
 |.exp e,X,s',G,h=>by
  simp only [eU] at h
  split at h
  ·simp only [Bool.and_eq_true] at h
   exact y6 (bI e X _ G.gd h.2) (iR h.1)
  ·cases h
 |.ret e,X,s',G,h=>by
  simp only [eU] at h
  split at h
  ·exact y7 (bI e X _ G.gd h)
  ·cases h
 |.retN,X,s',G,h=>by
  simp only [eU] at h
  split at h
  ·exact xP
  ·cases h
 |.ite c a b,X,s',G,h=>by
  simp only [eU] at h
  split at h
  ·simp only [Bool.and_eq_true] at h
   have ha:=jV a X _ G h.1.2
   have hb:=jV b X _ G h.2
   exact y8 (lh c X _ G.gd h.1.1) (PSs.weak ha fun D σ H z=>k9 (fun j hj=>by simp only [nsS,Bool.and_eq_true] at hj;exact hj.1) z) (PSs.weak hb fun D σ H z=>k9 (fun j hj=>by simp only [nsS,Bool.and_eq_true] at hj;exact hj.2) z)
  ·cases h
 |.for_ t is ik src body,X,s',G,h=>by
  simp only [eU] at h
  split at h
  ·rename_i tg iter body' _
   rw [Bool.and_eq_true,Bool.and_eq_true,Bool.and_eq_true] at h
   exact y_ G.po G.gd.calm (p6 G.gd h.1.2) (pW (fa:=true) G.gd.calm G.gd.K G.nd (fun _=>G.fn) h.1.1.1) (jV body X _ G h.2) (oB h.1.1.2) fun j hj=>by simpa [nsS] using hj
  ·cases h
 |.whl c body,X,s',G,h=>by
  simp only [eU] at h
  split at h
  ·simp only [Bool.and_eq_true] at h
   exact y9 G.po (lh c X _ G.gd h.1) (jV body X _ G h.2)
  ·cases h
 |.brk,X,s',G,h=>by
  simp only [eU] at h
  split at h
  ·exact yY
  ·cases h
 |.cnt,X,s',G,h=>by
  simp only [eU] at h
  split at h
  ·exact yZ
  ·cases h
 |.pas,X,s',G,h=>by
  simp only [eU] at h
  split at h
  ·exact y0
  ·cases h
theorem jV:∀ (ss:List S) (X:Cx) (ss':List Stmt),Gs ck Γ C d X→aV ck ss X.N X.env.scope ss'=true→PSs X ss' (tEx C (nsL ss) (execs Γ ss))
 |[],X,ss',G,h=>by
  cases ss' with
  |nil=>exact yX
  |cons _ _=>simp [aV] at h
 |s::ss,X,ss',G,h=>by
  cases ss' with
  |nil=>simp [aV] at h
  |cons s' ss' =>
   simp only [aV,Bool.and_eq_true] at h
   have h1:=AF s X s' G h.1
   have h2:=jV ss X ss' G h.2
   exact xO (PS.weak h1 fun D σ H z=>k9 (fun j hj=>by simp only [nsL,Bool.and_eq_true] at hj;exact hj.1) z) (PSs.weak h2 fun D σ H z=>k9 (fun j hj=>by simp only [nsL,Bool.and_eq_true] at hj;exact hj.2) z)
end
end
end TM
namespace TM
open PySem L2 PyProof.Rows
section
variable {ck : Ck} {Γ : Tab} {d : Nat} {P : Program} {w : World} {K : PySem.W.Frag} {mg : Str → Option Value} {base : Heap}
theorem gu {us:List U}{n i:Nat}{k:Kd}{u:U} (h:(start us n)[i]?=some (some (k,u))):us[i]?=some u∧k=if imm u=true then .loc else .any:=by
 unfold start at h
 by_cases hi:i<us.length
 ·rw [List.getElem?_append_left (by simpa using hi),List.getElem?_map] at h
  rw [List.getElem?_eq_getElem hi] at h ⊢
  simp only [Option.map_some,Option.some.injEq,Prod.mk.injEq] at h
  obtain ⟨h1,h2⟩:=h
  subst h2
  exact ⟨rfl,h1.symm⟩
 ·rw [List.getElem?_append_right (by simp;omega),List.getElem?_replicate] at h
  split at h <;> cases h
theorem oD {vs:List V}{N:List Str}{i:Nat}{v:V} (h:vs[i]?=some v):(L2.start N vs)[i]?=some (some v):=by
 unfold L2.start
 have hi:i<vs.length:=(List.getElem?_eq_some_iff.mp h).1
 rw [List.getElem?_append_left (by simpa using hi),List.getElem?_map,h]
 rfl
theorem sX {us:List U}{vs:List V}{N:List Str}{H:Hp} (h:ah (ct0 P w K H) (Dom H) H us vs) {n:Nat} (hn:N.length=n):Ok (ct0 P w K H) ⟨fun _=>False,H,L2.start N vs,start us n,fun _=>[]⟩:=by
 have noD:∀ (j:Nat) (u:U),(start us n)[j]?≠some (some (.ownD,u)):=fun j u e=>by
  have:=(gu e).2
  split at this <;> cases this
 refine ⟨fun a o e _=>e,fun a z=>z.elim,fun a ⟨o,z⟩=>⟨⟨o,z⟩,fun z=>z⟩,fun a z=>z.elim,?_,fun i k u e=>?_,fun i j k k' u u' r hk hk' e1 e2 e3 e4=>?_,⟨fun j u r e _=>(noD j u e).elim,fun i j a ⟨u,_,e,_⟩=>(noD i u e).elim,fun j a ⟨u,_,e,_⟩=>(noD j u e).elim⟩⟩
 ·have:=h.len
  simp [start,L2.start,hn]
  omega
 ·obtain ⟨e1,e2⟩:=gu e
  obtain ⟨v,ev,rep⟩:=h.get e1
  refine ⟨v,oD ev,?_⟩
  subst e2
  by_cases hu:imm u=true
  ·rw [if_pos hu];exact Rep.imm hu rep
  ·rw [if_neg hu];exact Rep.mv (.up fun a z=>.inl z) rep
 ·obtain ⟨_,e5⟩:=gu e1
  subst e5
  split at hk <;> cases hk
theorem lj {fn:Fn}{us:List U}{k:Kd}{u:U} (h:bN Γ fn us=some (.ok (k,u))):us.length=fn.np∧((k=.own∨k=.loc)∧(∃ st',execs Γ fn.body (start us fn.ns)=some (.ok (.rt k u),st'))∨(k=.loc∧u=.non∧∃ st',execs Γ fn.body (start us fn.ns)=some (.ok .nx,st'))):=by
 unfold bN at h
 split at h
 ·rename_i hl
  refine ⟨hl,?_⟩
  split at h
  ·rename_i e;cases h;exact .inl ⟨.inl rfl,_,e⟩
  ·rename_i e;cases h;exact .inl ⟨.inr rfl,_,e⟩
  ·rename_i e;cases h;exact .inr ⟨rfl,rfl,_,e⟩
  ·cases h
  ·cases h
 ·cases h
theorem wc {fn:Fn}{qual:Str}{st:Stmt}{f:Addr}{fd:FuncData}{N ps:List Str} (F:Fun K fn.name qual st f fd) (S:aD N ps (aa st)) (hN:N.length=fn.ns) (hps:ps.length=fn.np)
  (hchk:aV ck fn.body N (aa st) (aj st)=true) (blt:∀ x∈bC,mg x=none) (fns:∀ g∈ck.fns,xU P w K mg base d (Γ g) g)
  (gls:∀ p∈ck.gl,∃ val v,mg p.1=some val∧RelV v val∧∀ (C:Ct) S H,Rep C S H p.2 v):lU P w K mg base CX0 (d+1) f fd ps (spT P w K (bN Γ fn) fn.np):=by
 refine F.ok S (fun vs H Q E h=>h.1.trans hps.symm) (fun cdv A outer s H vs Q E hr h=>?_)
 obtain ⟨hl,us,k,u,hrun,hk,rep,cont⟩:=h
 have hun:=hr.un
 have G:Gs ck Γ (ct0 P w K H) d (nK CX0 P w K mg base N qual (aa st) f cdv A outer s H E).nox :=
  ⟨⟨rfl,rfl,rfl,by show (A.deeper (envOfC qual (aa st) s.heap.objs.size f cdv)).units+60<cLine;omega,rfl,hr,blt,fns,fun p hp=>let ⟨val,v,q1,q2,q3⟩:=gls p hp;⟨val,v,q1,q2,q3 _⟩⟩,S.nd,fun _=>rfl,PassesOwn.never,S.kind⟩
 refine ⟨_,jV fn.body _ _ G hchk,⟨fun _=>False,H,L2.start N vs,start us fn.ns,fun _=>[]⟩,rfl,rfl,sX rep hN,?_⟩
 obtain ⟨_,hres⟩:=lj hrun
 have mk:∀ (c:Cf),Ok (ct0 P w K H) c→∀ v,yW (ct0 P w K H) c k u v→Back (ct0 P w K H) H c.H c.S k u v:=fun c ok v r=>by
  refine ⟨fun a o e=>ok.same a o e fun z=>z,fun a z=>ok.sfr a z,fun e=>?_,fun e=>?_⟩
  ·subst e
   obtain ⟨r0,e,h1,h2,h3,h4⟩:=r
   exact ⟨r0,e,h1,h2,h4⟩
  ·subst e;exact r
 rcases hres with ⟨_,st',e⟩|⟨rfl,rfl,st',e⟩
 ·exact ⟨_,st',e,fun c ec ok n kp v r=>cont v c.H c.S (mk c ok v r)⟩
 ·exact ⟨_,st',e,fun c ec ok n kp=>cont .non c.H c.S (mk c ok .non rfl)⟩
structure Ld (ck:Ck) (K:PySem.W.Frag) (mg:Str→Option Value) (fn:Fn):Prop where
 ex:∃ (qual:Str) (st:Stmt) (f:Addr) (fd:FuncData) (N ps:List Str),Fun K fn.name qual st f fd∧mg fn.name=some (.ref f)∧Binds K fd ps []∧aD N ps (aa st)∧N.length=fn.ns∧ps.length=fn.np∧aV ck fn.body N (aa st) (aj st)=true
theorem vt {Pg:List Fn} (hnd:(Pg.map (·.name)).Nodup) {fn:Fn} (h:fn∈Pg):Pg.find? (fun g=>decide (g.name=fn.name))=some fn:=by
 induction Pg with
 |nil=>cases h
 |cons g Pg ih =>
  rw [List.map_cons,List.nodup_cons] at hnd
  rcases List.mem_cons.mp h with rfl|h
  ·simp
  ·rw [List.find?_cons]
   have:decide (g.name=fn.name)=false:=by
    apply decide_eq_false
    intro z
    exact hnd.1 (z ▸ List.mem_map_of_mem h)
   rw [this]
   exact ih hnd.2 h
theorem sY {Pg:List Fn} (hnd:(Pg.map (·.name)).Nodup) {fn:Fn} (h:fn∈Pg):sem Pg (d+1) fn.name=bN (sem Pg d) fn:=by
 funext us
 show (match Pg.find? fun g=>decide (g.name=fn.name) with|some fn=>bN (sem Pg d) fn us|none=>none)=_
 rw [vt hnd h]
theorem vv {Pg:List Fn} (hnd:(Pg.map (·.name)).Nodup) (hck:ck.fns=Pg.map (·.name)) (blt:∀ x∈bC,mg x=none) (gls:∀ p∈ck.gl,∃ val v,mg p.1=some val∧RelV v val∧∀ (C:Ct) S H,Rep C S H p.2 v)
  (ld:∀ fn∈Pg,Ld ck K mg fn):∀ d,∀ fn∈Pg,xU P w K mg base d (sem Pg d fn.name) fn.name:=by
 intro d
 induction d with
 |zero =>
  intro fn hfn
  obtain ⟨qual,st,f,fd,N,ps,F,hm,hb,S,hN,hps,hc⟩:=(ld fn hfn).ex
  exact ⟨fn.np,f,fd,ps,⟨fun vs H Q E h=>h.1.trans hps.symm,fun A outer s H args us vs Q E _ _ _ _ h=>by obtain ⟨_,us,k,u,e,_⟩:=h;cases e⟩,hm,F.kp,hb,fun us k u e=>by cases e⟩
 |succ d ih =>
  intro fn hfn
  obtain ⟨qual,st,f,fd,N,ps,F,hm,hb,S,hN,hps,hc⟩:=(ld fn hfn).ex
  rw [sY hnd hfn]
  refine ⟨fn.np,f,fd,ps,wc F S hN hps hc blt (fun g hg=>?_) gls,hm,F.kp,hb,fun us k u e=>?_⟩
  ·rw [hck] at hg
   obtain ⟨fn',h1,rfl⟩:=List.mem_map.mp hg
   exact ih fn' h1
  ·obtain ⟨h1,h2⟩:=lj e
   refine ⟨?_,h1⟩
   rcases h2 with ⟨z,_⟩|⟨z,_⟩
   ·exact z
   ·exact .inr z
end
noncomputable def vz (ns:List Int):U:=.lst (ns.map .int)
theorem jW {C:Ct}{S:Addr→Prop}{H:Hp}:∀ (ns:List Int),ah C S H (ns.map .int) (ns.map V.int)
 |[]=>rfl
 |n::ns=>⟨_,_,rfl,rfl,jW ns⟩
theorem oE {C:Ct}{H:Hp}{a:Addr}{ns:List Int} (h:SqL C.K H a (ns.map V.int)):Rep C (Dom H) H (vz ns) (.ref a):=by
 refine ⟨a,_,rfl,?_,jW ns⟩
 rcases h with (h|⟨o,h⟩)|h
 ·exact .inl ⟨⟨_,h⟩,.inl h⟩
 ·exact .inl ⟨⟨_,h⟩,.inr ⟨o,h⟩⟩
 ·exact .inr h
theorem walk {l:PySem.W.OpenLaw}{q:Program}{loose:List Str}{XP:(Str→Option Value)→Heap→Prop}{YP:World→Heap→Prop}{d:DefRec}{K:Params→PySem.W.Frag}{Pg:List Fn}{ck:Ck}{dp:Nat}{x:Str}
  (hn:l.most=some 63) (hdf:d.params.defaults=[]) (hr:fF (dp+1) callerA) (hY:∀ (w:World) (h:Heap),YP w h→(K w.params).In h)
  (hnd:(Pg.map (·.name)).Nodup) (hck:ck.fns=Pg.map (·.name)) {fn:Fn} (hfn:fn∈Pg) (hname:fn.name=d.name)
  (F:∀ (w:World) (mg:Str→Option Value) (fa:Addr) (h:Heap),(K w.params).In h→h.Ns mainGlobals mg→mg d.name=some (.ref fa) →
   (∀ y∈bC,mg y=none)∧(∀ p∈ck.gl,∃ val v,mg p.1=some val∧RelV v val∧∀ (C:Ct) S H,Rep C S H p.2 v)∧(∀ g∈Pg,Ld ck (K w.params) mg g) ∧
   ∃ (qual:Str) (st:Stmt) (fd:FuncData) (N:List Str),Fun (K w.params) fn.name qual st fa fd∧aD N [x] (aa st)∧N.length=fn.ns∧1=fn.np∧aV ck fn.body N (aa st) (aj st)=true∧∀ (s:Shared) (u:Value),BindsTo s fd ⟨[u],[]⟩ [(x,u)])
  (T:∀ ns:List Int,ns.length≤63→sem Pg (dp+1) fn.name [vz ns]=some (.ok (.loc,.bl true))) :
  PySem.W.WalkO q loose XP YP l.row.toRowW d [] (fun f vs=>PySem.call f vs) :=
 L2.uB (n:=63) (k:=dp+1) (x:=x) (CX:=fun _=>CX0) (sp:=fun w=>spT l.prog w (K w.params) (bN (sem Pg dp) fn) fn.np) hn (by decide) hdf hr hY
  (fun w mg fa h KX G hmg=>by
   obtain ⟨blt,gls,ld,qual,st,fd,N,F1,S,hN,hps,hc,hb⟩:=F w mg fa h KX G hmg
   refine ⟨fd,hb,fun base _ _=>wc F1 S hN hps hc blt (fun g hg=>?_) gls⟩
   rw [hck] at hg
   obtain ⟨fn',h1,rfl⟩:=List.mem_map.mp hg
   exact vv hnd hck blt gls ld dp fn' h1)
  (fun w H a ns hl _ hS=>by
   have t:=T ns hl
   rw [sY hnd hfn] at t
   have hnp:fn.np=1:=(lj t).1.symm
   exact ⟨hnp.symm,[vz ns],.loc,.bl true,t,.inr rfl,⟨_,_,rfl,oE hS,rfl⟩,fun v H' S' b=>b.loc rfl⟩)
  fun _ _ _ _ _ z=>z
end TM
namespace W01
open PySem L2
noncomputable def bb (l:List Nat):Prop:=dH l=true∨∃ a b k,l=a++47::b∧dH a=true∧2≤k∧k≤99∧(fL k).cps.toList=b
theorem len_list (x:Str):x.length=x.cps.toList.length:=by simp [Str.length]
theorem c_ {k:Int} (h0:0≤k) (h1:k≤99):(fL k).length≤2:=by
 obtain ⟨m,rfl⟩:=Int.eq_ofNat_of_zero_le h0
 have hm:m<100:=by omega
 clear h0 h1
 revert m
 decide +kernel
theorem bb.len {l:List Nat} (h:bb l):1≤l.length∧l.length≤11:=by
 rcases h with h|⟨a,b,k,rfl,h,h2,h9,hb⟩
 ·have:=(bM l).mp h
  omega
 ·have:=(bM a).mp h
  have hl:=c_ (k:=k) (by omega) h9
  rw [len_list,hb] at hl
  simp
  omega
theorem bb.aN {x:Str} (h:bb x.cps.toList):∃ y r,Txt.split x dU=y::r∧dH y.cps.toList=true:=by
 rcases h with h|⟨a,b,k,e,h,_⟩
 ·exact ⟨x,[],ig (cZ h),h⟩
 ·obtain ⟨r,e'⟩:=l7 e (cZ h) (by decide)
  exact ⟨_,r,e',by simpa using h⟩
theorem dM:∀ (ps:List Str) (acc:Array Nat),(ps.foldl (fun acc p=>acc++Str.empty.cps++p.cps) acc).toList=acc.toList++(ps.map fun p=>p.cps.toList).flatten
 |[],acc=>by simp
 |p::ps,acc=>by
  rw [List.foldl_cons,dM ps]
  have:Str.empty.cps=#[]:=rfl
  simp [this]
theorem join_list (ts:List Str):(Txt.join Str.empty ts).cps.toList=(ts.map fun p=>p.cps.toList).flatten:=by
 cases ts with
 |nil=>rfl
 |cons t ts =>
  show (ts.foldl (fun acc p=>acc++Str.empty.cps++p.cps) t.cps).toList=_
  rw [dM]
  simp
noncomputable def one (c:Nat):Str:=⟨#[c]⟩
theorem join_ones (cs:List Nat):(Txt.join Str.empty (cs.map one)).cps.toList=cs:=by
 rw [join_list,List.map_map]
 induction cs with
 |nil=>rfl
 |cons c cs ih=>rw [List.map_cons,List.flatten_cons,ih];rfl
theorem mL (cs:List Nat) (h:cs.length≤100):JoinOk Str.empty (cs.map one)=true:=by
 unfold JoinOk
 have e:=PySem.StrLaws.joinTotal Str.empty (cs.map one)
 have e0:Str.empty.length=0:=rfl
 have es:((cs.map one).map (·.length)).sum=cs.length:=by
  rw [List.map_map]
  clear h e
  induction cs with
  |nil=>rfl
  |cons c cs ih=>rw [List.map_cons,List.sum_cons,ih];show 1+cs.length=cs.length+1;omega
 rw [e,e0,es]
 have hm:cs.length+(cs.map one).length * 0≤100:=by omega
 revert hm
 generalize cs.length+(cs.map one).length * 0=m
 revert m
 decide
theorem xZ (x:Str) (j:Nat):(PySem.StrLaws.sliceText x none (some (j:Int))).cps.toList=x.cps.toList.take j:=by
 by_cases h:j≤x.cps.toList.length
 ·rw [PySem.StrLaws.sliceText_to (x:=x) ⟨by omega,by omega⟩]
  simp
 ·have e:PySem.StrLaws.sliceText x none (some (j:Int))=PySem.StrLaws.sliceText x none (some (x.length:Int)):=by
   unfold PySem.StrLaws.sliceText
   have hl:=len_list x
   have:PySem.Builtin.Str.strSliceIndices none (some (j:Int)) 1 x.length=PySem.Builtin.Str.strSliceIndices none (some (x.length:Int)) 1 x.length:=by
    have h1:¬ ((j:Int)<0):=by omega
    have h2:¬ ((x.length:Int)<0):=by omega
    have e1:min (j:Int) (x.length:Int)=x.length:=by omega
    simp [PySem.Builtin.Str.strSliceIndices,h1,h2,e1]
   rw [this]
  have hl:=len_list x
  rw [e,PySem.StrLaws.sliceText_to (x:=x) ⟨by omega,by omega⟩,List.drop_zero,List.take_of_length_le (l:=x.cps.toList) (i:=j) (by omega)]
  show (x.cps.toList.take ((x.length:Int) - 0).toNat).toArray.toList=_
  rw [List.take_of_length_le (by omega)]
theorem qY {a b:List Nat} (ha:dH a=true) (hb:∀ c∈b,low c=true):dH ((a++b).take 8)=true:=by
 have h:=(bM a).mp ha
 refine (bM _).mpr ⟨by simp;omega,by simp;omega,fun c hc=>?_⟩
 have hc':=List.mem_of_mem_take hc
 rcases List.mem_append.mp hc' with m|m
 ·exact h.2.2 c m
 ·have:=hb c m
  simp [low] at this
  omega
theorem gG {b:List Nat} (hb:∀ c∈b,low c=true) (h1:1≤b.length) (h8:b.length≤8):dH b=true :=
 (bM b).mpr ⟨h1,h8,fun c hc=>by have:=hb c hc;simp [low] at this;omega⟩
noncomputable def small:Str:="abcdefghijklmnopqrstuvwxyz"
theorem oF:small.cps.toList=(List.range 26).map (97+·):=by decide +kernel
theorem iT {k:Int} (h0:0≤k) (h1:k<26):atI small.cps.toList k=some (97+k.toNat):=by
 obtain ⟨j,rfl⟩:=Int.eq_ofNat_of_zero_le h0
 refine bZ ?_
 rw [oF,List.getElem?_map,List.getElem?_range (by omega)]
 rfl
theorem oG {j:Nat} (h:j<26):low (97+j)=true:=by simp [low];omega
noncomputable def jX (k:Nat):Str:=⟨#[97+k / 26,97+k % 26]⟩
theorem oH {k:Nat} (h:k<40):dH (jX k).cps.toList=true:=by
 refine gG (fun c hc=>?_) (by show 1≤2;decide) (by show 2≤8;decide)
 have hc':c=97+k / 26∨c=97+k % 26:=by simpa [jX] using hc
 rcases hc' with rfl|rfl
 ·exact oG (by omega)
 ·exact oG (by omega)
theorem f_ {α:Type} [DecidableEq α]:∀ {l m:List α},l.Nodup→(∀ x∈l,x∈m)→l.length≤m.length
 |[],_,_,_=>Nat.zero_le _
 |x::l,m,hn,h=>by
  obtain ⟨h1,h2⟩:=List.nodup_cons.mp hn
  have hx:=h x List.mem_cons_self
  have ih:=f_ (l:=l) (m:=m.erase x) h2 fun y hy=>(List.mem_erase_of_ne (by rintro rfl;exact h1 hy)).mpr (h y (List.mem_cons_of_mem _ hy))
  rw [List.length_erase_of_mem hx] at ih
  have:0<m.length:=List.length_pos_of_mem hx
  rw [List.length_cons]
  omega
noncomputable def bE:List Str:=(List.range 40).map jX
theorem ll:bE.Nodup:=by
 decide +kernel
theorem oI (names:List Str) (h:names.length<40):∃ x∈bE,x∉names:=by
 apply Classical.byContradiction
 intro hno
 have:∀ x∈bE,x∈names:=fun x hx=>Classical.byContradiction fun hn=>hno ⟨x,hx,hn⟩
 have:=f_ ll this
 simp [bE] at this
 omega
end W01
namespace TM
open PySem L2
section
variable {α β : Type} {Γ : Tab} {st st1 st2 st3 st4 : ak}
noncomputable def Run (m:M α) (st:ak) (a:α) (st':ak):Prop:=m st=some (.ok a,st')
theorem ab {m:M α}{f:α→M β}{a:α}{b:β} (h1:Run m st a st1) (h2:Run (f a) st1 b st2):Run (m >>= f) st b st2:=by
 show M.bind m f st=_
 unfold M.bind
 rw [show m st=_ from h1]
 exact h2
theorem aX {a:α}:Run (pure a:M α) st a st:=rfl
theorem cL {o:Option α}{a:α} (h:o=some a):Run (M.ofO o) st a st:=by subst h;rfl
theorem aW {rs:List (Kd×U)} (h:ba rs st):Run (ar rs) st () st:=by show ar rs st=_;unfold ar;rw [if_pos h]
noncomputable def kv (i:Nat) (k:Kd):Kd:=if k.root=true then .bor i else k
theorem iU {i:Nat}{k:Kd}{u:U} (h:st[i]?=some (some (k,u))) (hk:k≠.ownD:=by intro z;cases z):Run (d6 i) st (kv i k,u) st:=by
 show d6 i st=_
 unfold d6
 rw [h]
 cases k <;> first|rfl|exact absurd rfl hk
theorem af {i:Nat}{u:U} (h:st[i]?=some (some (.loc,u))):Run (ev Γ (.var i)) st (.loc,u) st:=iU h
theorem bF {i:Nat}{u:U} (h:st[i]?=some (some (.any,u))):Run (ev Γ (.var i)) st (.any,u) st:=iU h
theorem av {i:Nat}{u:U} (h:st[i]?=some (some (.own,u))):Run (ev Γ (.var i)) st (.bor i,u) st:=iU h
theorem ay {u:U}:Run (ev Γ (.cst u)) st (.loc,u) st:=rfl
theorem sZ {x:Str}{u:U}:Run (ev Γ (.glb x u)) st (.loc,u) st:=rfl
theorem a9 {op:Bop}{a b:E}{x y r:Kd×U} (h1:Run (ev Γ a) st x st1) (h2:Run (ev Γ b) st1 y st2) (h3:ba [x,y] st2) (h4:opU op x y=some r):Run (ev Γ (.bin op a b)) st r st2 :=
 ab h1 (ab h2 (ab (aW h3) (cL h4)))
theorem s9 {op:Cop}{a b:E}{x y:Kd×U}{c:Bool} (h1:Run (ev Γ a) st x st1) (h2:Run (ev Γ b) st1 y st2) (h3:ba [x,y] st2) (h4:bz op x.2 y.2=some c):Run (ev Γ (.cmp op a b)) st (.loc,.bl c) st2 :=
 ab h1 (ab h2 (ab (aW h3) (ab (cL h4) aX)))
theorem bq {a b:E}{x y r:Kd×U} (h1:Run (ev Γ a) st x st1) (h2:Run (ev Γ b) st1 y st2) (h3:ba [x,y] st2) (h4:eR x y.2=some r):Run (ev Γ (.idx a b)) st r st2 :=
 ab h1 (ab h2 (ab (aW h3) (cL h4)))
theorem p7:Run (evO Γ []) st none st:=rfl
theorem p8 {e:E}{k:Kd}{i:Int} (h:Run (ev Γ e) st (k,.int i) st1):Run (evO Γ [e]) st (some i) st1:=ab h rfl
theorem p9 {a:E}{lo hi:List E}{x r:Kd×U}{l h:Option Int} (h1:Run (ev Γ a) st x st1) (h2:Run (evO Γ lo) st1 l st2) (h3:Run (evO Γ hi) st2 h st3) (h4:ba [x] st3) (h5:jy x l h=some r):Run (ev Γ (.slc a lo hi)) st r st3 :=
 ab h1 (ab h2 (ab h3 (ab (aW h4) (cL h5))))
theorem ao:Run (bB Γ []) st [] st:=rfl
theorem ae {e:E}{es:List E}{r:Kd×U}{rs:List (Kd×U)} (h1:Run (ev Γ e) st r st1) (h2:Run (bB Γ es) st1 rs st2):Run (bB Γ (e::es)) st (r::rs) st2:=ab h1 (ab h2 aX)
theorem cV {f:Bf}{es:List E}{rs:List (Kd×U)}{r:Kd×U} (h1:Run (bB Γ es) st rs st1) (h2:ba rs st1) (h3:biU f rs=some r):Run (ev Γ (.bi f es)) st r st1:=ab h1 (ab (aW h2) (cL h3))
theorem s_ {f:B2}{es:List E}{rs:List (Kd×U)}{r:Kd×U} (h1:Run (bB Γ es) st rs st1) (h2:ba rs st1) (h3:oh f rs=some r):Run (ev Γ (.bi2 f es)) st r st1:=ab h1 (ab (aW h2) (cL h3))
theorem mM {m:Mf}{a:E}{es:List E}{x:Kd×U}{rs:List (Kd×U)}{r:Kd×U} (h0:Run (ev Γ a) st x st1) (h1:Run (bB Γ es) st1 rs st2) (h2:ba (x::rs) st2) (h3:fW m x.2 rs=some r):Run (ev Γ (.mth m a es)) st r st2:=ab h0 (ab h1 (ab (aW h2) (cL h3)))
theorem p_ {f:Str}{us:List U}{r:Kd×U} (h:Γ f us=some (.ok r)):Run (iG Γ f us) st r st:=by show iG Γ f us st=_;unfold iG;rw [h]
theorem bG {f:Str}{es:List E}{rs:List (Kd×U)}{r:Kd×U} (h1:Run (bB Γ es) st rs st1) (h2:ba rs st1) (h3:Γ f (rs.map (·.2))=some (.ok r)):Run (ev Γ (.call f es)) st r st1:=ab h1 (ab (aW h2) (p_ h3))
theorem jY {es:List E}{rs:List (Kd×U)}{us:List U} (h1:Run (bB Γ es) st rs st1) (h2:ba rs st1) (h3:Run (cw rs) st1 us st2) (h4:us.length≤sizeLine):Run (ev Γ (.tup es)) st (.loc,.tup us) st2:=by
 refine ab h1 (ab (aW h2) (ab h3 ?_))
 rw [if_pos h4]
 exact aX
theorem ef {es:List E}{rs:List (Kd×U)}{us:List U} (h1:Run (bB Γ es) st rs st1) (h2:ba rs st1) (h3:Run (cw rs) st1 us st2) (h4:us.length≤sizeLine):Run (ev Γ (.lst es)) st (.own,.lst us) st2:=by
 refine ab h1 (ab (aW h2) (ab h3 ?_))
 rw [if_pos h4]
 exact aX
theorem oJ {r:Bool}:Run (ev Γ (.dnew r)) st (.own,if r=true then .rdc [] else .dic [] []) st:=rfl
theorem aS {u:U}:Run (lift (.loc,u)) st u st:=rfl
theorem mN {u:U} (h:imm u=true):Run (lift (.any,u)) st u st:=by
 show (if imm u=true then (pure u:M U) else M.fail) st=_
 rw [if_pos h];rfl
theorem br:Run (cw []) st [] st:=rfl
theorem aK {r:Kd×U}{rs:List (Kd×U)}{u:U}{us:List U} (h1:Run (lift r) st u st1) (h2:Run (cw rs) st1 us st2):Run (cw (r::rs)) st (u::us) st2:=ab h1 (ab h2 aX)
theorem b9 {op:Cop}{a b:E}{x y:Kd×U}{c:Bool} (h1:Run (ev Γ a) st x st1) (h2:Run (ev Γ b) st1 y st2) (h3:ba [x,y] st2) (h4:bz op x.2 y.2=some c):Run (tst Γ (.cmp op a b)) st c st2:=ab h1 (ab h2 (ab (aW h3) (cL h4)))
theorem jZ {a:E}{c:Bool} (h:Run (tst Γ a) st c st1):Run (tst Γ (.not a)) st (!c) st1:=ab h aX
theorem j3 {es:List E}{c:Bool} (h:Run (aU Γ es) st c st1):Run (tst Γ (.and es)) st c st1:=h
theorem x4 {es:List E}{c:Bool} (h:Run (d7 Γ es) st c st1):Run (tst Γ (.or es)) st c st1:=h
theorem j4:Run (aU Γ []) st true st:=rfl
theorem dC {e:E}{c:Bool} (h:Run (tst Γ e) st c st1):Run (aU Γ [e]) st c st1:=h
theorem oK {e e2:E}{es:List E}{c:Bool} (h:Run (tst Γ e) st true st1) (h2:Run (aU Γ (e2::es)) st1 c st2):Run (aU Γ (e::e2::es)) st c st2:=ab h h2
theorem tf {e e2:E}{es:List E} (h:Run (tst Γ e) st false st1):Run (aU Γ (e::e2::es)) st false st1:=ab h aX
theorem tm {e:E}{c:Bool} (h:Run (tst Γ e) st c st1):Run (d7 Γ [e]) st c st1:=h
theorem zg {e e2:E}{es:List E} (h:Run (tst Γ e) st true st1):Run (d7 Γ (e::e2::es)) st true st1:=ab h aX
theorem qa {e e2:E}{es:List E}{c:Bool} (h:Run (tst Γ e) st false st1) (h2:Run (d7 Γ (e2::es)) st1 c st2):Run (d7 Γ (e::e2::es)) st c st2:=ab h h2
theorem a_ {i:Nat}{u:U}:Run (dP i (.own,u)) st () (st.set i (some (.own,u))):=rfl
theorem aA {i:Nat}{u:U}:Run (dP i (.loc,u)) st () (st.set i (some (.loc,u))):=rfl
theorem j5 {i:Nat}{u:U}:Run (dP i (.any,u)) st () (st.set i (some (.any,u))):=rfl
theorem zh {i:Nat}{e:E}{r:Kd×U} (h1:Run (ev Γ e) st r st1) (h2:Run (dP i r) st1 () st2):Run (exec Γ (.set i e)) st .nx st2:=ab h1 (ab h2 aX)
theorem zi {i:Nat}{e:E}{k:Kd}{r:Kd×U}{u:U}{us:List U} (h0:∃ k' us',st[i]?=some (some (k',.lst us'))∧k'≠.ownD) (h1:Run (ev Γ e) st r st1) (h2:Run (lift r) st1 u st2) (h3:st2[i]?=some (some (k,.lst us))) (hk:k.root=true) (hl:us.length<sizeLine) :
  Run (exec Γ (.app i e)) st .nx (st2.set i (some (k,.lst (us++[u])))):=by
 obtain ⟨k',us',h0,hn⟩:=h0
 refine ab (iU h0 hn) (ab (a:=()) (st1:=st) rfl (ab h1 (ab h2 (ab (a:=()) ?_ aX))))
 show modS i (su u) st2=_
 unfold modS
 rw [h3]
 simp only [hk,if_true]
 have e:su u (.lst us)=some (.lst (us++[u])):=by show (if us.length<sizeLine then _ else _)=_;rw [if_pos hl]
 rw [e]
theorem zj {e:E}{r:Kd×U}{f:Fl} (h1:Run (ev Γ e) st r st1) (h2:Run (retS r) st1 f st2):Run (exec Γ (.ret e)) st f st2:=ab h1 h2
theorem qb {u:U}:Run (retS (.own,u)) st (.rt .own u) st:=rfl
theorem dN {u:U}:Run (retS (.loc,u)) st (.rt .loc u) st:=rfl
theorem zk {u:U} (h:imm u=true):Run (retS (.any,u)) st (.rt .loc u) st:=by
 show (if imm u=true then (pure (Fl.rt .loc u):M Fl) else M.fail) st=_
 rw [if_pos h];rfl
theorem qc {j:Nat}{u u0:U} (h:st[j]?=some (some (.own,u))):Run (retS (.bor j,u0)) st (.rt .own u) (st.set j none):=by
 show (match st[j]? with|some (some (.own,u))=>some (Ex.ok (Fl.rt .own u),st.set j none)|_=>none)=_
 rw [h]
theorem lp {c:E}{a b:List S}{f:Fl} (h1:Run (tst Γ c) st true st1) (h2:Run (execs Γ a) st1 f st2):Run (exec Γ (.ite c a b)) st f st2:=ab h1 h2
theorem oM {c:E}{a b:List S}{f:Fl} (h1:Run (tst Γ c) st false st1) (h2:Run (execs Γ b) st1 f st2):Run (exec Γ (.ite c a b)) st f st2:=ab h1 h2
theorem aT:Run (execs Γ []) st .nx st:=rfl
theorem iV {s:S}{ss:List S}{f:Fl} (h1:Run (exec Γ s) st .nx st1) (h2:Run (execs Γ ss) st1 f st2):Run (execs Γ (s::ss)) st f st2:=ab h1 h2
theorem tp {s:S}{ss:List S}{k:Kd}{u:U} (h1:Run (exec Γ s) st (.rt k u) st1):Run (execs Γ (s::ss)) st (.rt k u) st1:=ab h1 aX
theorem aw {i:Nat}{e:E}{ss:List S}{r:Kd×U}{f:Fl} (h1:Run (ev Γ e) st r st1) (h2:Run (dP i r) st1 () st2) (h3:Run (execs Γ ss) st2 f st3):Run (execs Γ (.set i e::ss)) st f st3:=iV (zh h1 h2) h3
theorem gH {i:Nat}{e:E}{ss:List S}{k k':Kd}{r:Kd×U}{u:U}{us us':List U}{f:Fl} (h0:st[i]?=some (some (k',.lst us'))) (h1:Run (ev Γ e) st r st1) (h2:Run (lift r) st1 u st2) (h3:st2[i]?=some (some (k,.lst us))) (hk:k.root=true) (hl:us.length<sizeLine)
  (h4:Run (execs Γ ss) (st2.set i (some (k,.lst (us++[u])))) f st3) (hn:k'≠.ownD:=by intro z;cases z):Run (execs Γ (.app i e::ss)) st f st3:=iV (zi ⟨_,_,h0,hn⟩ h1 h2 h3 hk hl) h4
theorem cE {e:E}{ss:List S}{r:Kd×U}{k:Kd}{u:U} (h1:Run (ev Γ e) st r st1) (h2:Run (retS r) st1 (.rt k u) st2):Run (execs Γ (.ret e::ss)) st (.rt k u) st2:=tp (zj h1 h2)
theorem eh {c:E}{a b ss:List S}{f:Fl} (h1:Run (tst Γ c) st true st1) (h2:Run (execs Γ a) st1 .nx st2) (h3:Run (execs Γ ss) st2 f st3):Run (execs Γ (.ite c a b::ss)) st f st3:=iV (lp h1 h2) h3
theorem cj {c:E}{a b ss:List S}{f:Fl} (h1:Run (tst Γ c) st false st1) (h2:Run (execs Γ b) st1 .nx st2) (h3:Run (execs Γ ss) st2 f st3):Run (execs Γ (.ite c a b::ss)) st f st3:=iV (oM h1 h2) h3
theorem x5 {c:E}{a b ss:List S}{k:Kd}{u:U} (h1:Run (tst Γ c) st true st1) (h2:Run (execs Γ a) st1 (.rt k u) st2):Run (execs Γ (.ite c a b::ss)) st (.rt k u) st2:=tp (lp h1 h2)
theorem wd {t:Bool}{is:List Nat}{ik:Ik}{src:List E}{body:List S}{rs xs:List (Kd×U)}{f:Fl} (h1:Run (bB Γ src) st rs st1) (h2:ba rs st1) (h3:itU ik rs=some xs) (h4:pI rs is body=true) (h5:Run (forM t is (execs Γ body) rs xs) st1 f st2) :
  Run (exec Γ (.for_ t is ik src body)) st f st2:=by
 refine ab h1 (ab (aW h2) (ab (cL h3) ?_))
 rw [if_pos h4]
 exact h5
theorem da {t:Bool}{is:List Nat}{ik:Ik}{src:List E}{body ss:List S}{rs xs:List (Kd×U)}{f:Fl} (h1:Run (bB Γ src) st rs st1) (h2:ba rs st1) (h3:itU ik rs=some xs) (h4:pI rs is body=true) (h5:Run (forM t is (execs Γ body) rs xs) st1 .nx st2) (h6:Run (execs Γ ss) st2 f st3) :
  Run (execs Γ (.for_ t is ik src body::ss)) st f st3:=iV (wd h1 h2 h3 h4 h5) h6
theorem mO {t:Bool}{is:List Nat}{body:M Fl}{rs:List (Kd×U)} (h:ba rs st):Run (forM t is body rs []) st .nx st:=ab (aW h) aX
theorem mP {t:Bool}{is:List Nat}{body:M Fl}{rs xs:List (Kd×U)}{x:Kd×U}{f:Fl} (h:ba rs st) (h1:Run (c7 t is x) st () st1) (h2:Run body st1 .nx st2) (h3:Run (forM t is body rs xs) st2 f st3):Run (forM t is body rs (x::xs)) st f st3:=ab (aW h) (ab h1 (ab h2 h3))
theorem AG {t:Bool}{is:List Nat}{body:M Fl}{rs xs:List (Kd×U)}{x:Kd×U}{k:Kd}{u:U} (h:ba rs st) (h1:Run (c7 t is x) st () st1) (h2:Run body st1 (.rt k u) st2):Run (forM t is body rs (x::xs)) st (.rt k u) st2:=ab (aW h) (ab h1 (ab h2 aX))
theorem mQ {t:Bool}{is:List Nat}{body:M Fl}{rs:List (Kd×U)} (I:List (Kd×U)→ak→Prop) (hs:∀ xs st,I xs st→ba rs st) (step:∀ x xs st,I (x::xs) st→∃ st1 st2,Run (c7 t is x) st () st1∧Run body st1 .nx st2∧I xs st2) :
  ∀ (xs:List (Kd×U)) (st:ak),I xs st→∃ st',Run (forM t is body rs xs) st .nx st'∧I [] st'
 |[],st,h=>⟨st,mO (hs _ _ h),h⟩
 |x::xs,st,h=>by
  obtain ⟨s1,s2,h1,h2,h3⟩:=step x xs st h
  obtain ⟨s3,h4,h5⟩:=mQ I hs step xs s2 h3
  exact ⟨s3,mP (hs _ _ h) h1 h2 h4,h5⟩
theorem cm {i:Nat}{r:Kd×U} (h:Run (dP i r) st () st1):Run (c7 false [i] r) st () st1:=h
theorem aL {fn:Fn}{us:List U}{k:Kd}{u:U}{st0:ak} (hn:us.length=fn.np) (hk:k=.own∨k=.loc) (hs:start us fn.ns=st0) (h:Run (execs Γ fn.body) st0 (.rt k u) st):bN Γ fn us=some (.ok (k,u)):=by
 subst hs
 unfold bN
 rw [if_pos hn,show execs Γ fn.body (start us fn.ns)=_ from h]
 rcases hk with rfl|rfl <;> rfl
theorem qd {k:Nat}{t:Bool}{cond:M Bool}{elt:M (Kd×U)}{src:List (Kd×U)}{acc:List U} (h:ba src st):Run (bA k t cond elt src [] acc) st acc st:=ab (aW h) aX
theorem lq {k:Nat}{t:Bool}{cond:M Bool}{elt:M (Kd×U)}{src xs:List (Kd×U)}{x r:Kd×U}{acc us:List U}{u:U}{s1 s2 s3 s4:ak} (h:ba src st) (h1:Run (c7 t (List.range k) x) (List.replicate k none++st) () s1) (h2:Run cond s1 true s2) (h3:Run elt s2 r s3) (h4:Run (lift r) s3 u s4)
  (hl:acc.length<sizeLine) (h5:Run (bA k t cond elt src xs (acc++[u])) (s4.drop k) us st2):Run (bA k t cond elt src (x::xs) acc) st us st2:=by
 refine ab (aW h) (ab (a:=some u) (st1:=s4.drop k) ?_ ?_)
 ·show inScope k _ st=_
  unfold inScope
  have hh:Run (c7 t (List.range k) x >>= fun _=>cond >>= fun b=>if b=true then (elt >>= fun r=>lift r >>= fun u=>pure (some u)) else pure none) (List.replicate k none++st) (some u) s4 :=
   ab h1 (ab h2 (show Run (elt >>= fun r=>lift r >>= fun u=>pure (some u)) s2 (some u) s4 from ab h3 (ab (f:=fun u=>pure (some u)) h4 rfl)))
  rw [show _=_ from hh]
 ·show Run (if acc.length<sizeLine then bA k t cond elt src xs (acc++[u]) else M.fail) _ _ _
  rw [if_pos hl]
  exact h5
theorem tq {k:Nat}{t:Bool}{cond:M Bool}{elt:M (Kd×U)}{src xs:List (Kd×U)}{x:Kd×U}{acc us:List U}{s1 s2:ak} (h:ba src st) (h1:Run (c7 t (List.range k) x) (List.replicate k none++st) () s1) (h2:Run cond s1 false s2)
  (h5:Run (bA k t cond elt src xs acc) (s2.drop k) us st2):Run (bA k t cond elt src (x::xs) acc) st us st2:=by
 refine ab (aW h) (ab (a:=none) (st1:=s2.drop k) ?_ h5)
 show inScope k _ st=_
 unfold inScope
 have hh:Run (c7 t (List.range k) x >>= fun _=>cond >>= fun b=>if b=true then (elt >>= fun r=>lift r >>= fun u=>pure (some u)) else pure none) (List.replicate k none++st) none s2 :=
  ab h1 (ab h2 (show Run (pure none:M (Option U)) s2 none s2 from rfl))
 rw [show _=_ from hh]
theorem cW {k:Nat}{t:Bool}{ik:Ik}{src cond:List E}{e:E}{rs xs:List (Kd×U)}{us:List U} (h1:Run (bB Γ src) st rs st1) (h2:ba rs st1) (h3:itU ik rs=some xs) (h4:Run (bA k t (aU Γ cond) (ev Γ e) rs xs []) st1 us st2):Run (ev Γ (.comp k t ik src cond e)) st (.own,.lst us) st2 :=
 ab h1 (ab (aW h2) (ab (cL h3) (ab h4 aX)))
theorem tu {cond:M Bool}{elt:M (Kd×U)}{src:List (Kd×U)} (h:ba src st) (g:Kd×U→U) (kd:Kd×U→Kd):∀ (xs:List (Kd×U)) (acc:List U),acc.length+xs.length≤sizeLine →
  (∀ x∈xs,x.1=.loc∨x.1=.any)→(∀ x∈xs,Run cond (some x::st) true (some x::st)∧Run elt (some x::st) (kd x,g x) (some x::st)∧Run (lift (kd x,g x)) (some x::st) (g x) (some x::st))→Run (bA 1 false cond elt src xs acc) st (acc++xs.map g) st
 |[],acc,_,_,_=>by rw [List.map_nil,List.append_nil];exact qd h
 |x::xs,acc,hl,hk,hx=>by
  obtain ⟨h1,h2,h3⟩:=hx x (by simp)
  rw [List.length_cons] at hl
  refine lq (s1:=some x::st) (s2:=some x::st) (s3:=some x::st) (s4:=some x::st) h ?_ h1 h2 h3 (by omega) ?_
  ·obtain ⟨k,u⟩:=x
   rcases hk _ (List.mem_cons_self ..) with z|z <;> (cases z;rfl)
  ·have:=tu h g kd xs (acc++[g x]) (by simp;omega) (fun y hy=>hk y (by simp [hy])) fun y hy=>hx y (by simp [hy])
   rw [List.map_cons]
   simpa using this
theorem iW {cond:M Bool}{elt:M (Kd×U)}{src:List (Kd×U)} (h:ba src st) (p:Kd×U→Bool) (g:Kd×U→U) (kd:Kd×U→Kd):∀ (xs:List (Kd×U)) (acc:List U),acc.length+xs.length≤sizeLine →
  (∀ x∈xs,x.1=.loc∨x.1=.any)→(∀ x∈xs,Run cond (some x::st) (p x) (some x::st)∧Run elt (some x::st) (kd x,g x) (some x::st)∧Run (lift (kd x,g x)) (some x::st) (g x) (some x::st))→Run (bA 1 false cond elt src xs acc) st (acc++(xs.filter p).map g) st
 |[],acc,_,_,_=>by rw [List.filter_nil,List.map_nil,List.append_nil];exact qd h
 |x::xs,acc,hl,hk,hx=>by
  obtain ⟨h1,h2,h3⟩:=hx x (by simp)
  rw [List.length_cons] at hl
  have ht:Run (c7 false (List.range 1) x) (List.replicate 1 none++st) () (some x::st):=by
   obtain ⟨k,u⟩:=x
   rcases hk _ (List.mem_cons_self ..) with z|z <;> (cases z;rfl)
  cases hp:p x with
  |true =>
   rw [hp] at h1
   refine lq (s1:=some x::st) (s2:=some x::st) (s3:=some x::st) (s4:=some x::st) h ht h1 h2 h3 (by omega) ?_
   have:=iW h p g kd xs (acc++[g x]) (by simp;omega) (fun y hy=>hk y (by simp [hy])) fun y hy=>hx y (by simp [hy])
   rw [List.filter_cons,if_pos hp,List.map_cons]
   simpa using this
  |false =>
   rw [hp] at h1
   refine tq (s1:=some x::st) (s2:=some x::st) h ht h1 ?_
   have:=iW h p g kd xs acc (by omega) (fun y hy=>hk y (by simp [hy])) fun y hy=>hx y (by simp [hy])
   rw [List.filter_cons,if_neg (by simp [hp])]
   exact this
end
end TM
namespace TM
open PySem L2
theorem bc {k k':Kd}{i j:Int} (h:0<j):opU .mod (k,.int i) (k',.int j)=some (.loc,.int (i % j)):=by show (uT i j).map _=_;rw [uT,if_pos h];rfl
theorem lr {k k':Kd}{i j:Int} (h:0<j∧j<1073741824):opU .fdv (k,.int i) (k',.int j)=some (.loc,.int (i / j)):=by show (uS i j).map _=_;rw [uS,if_pos h];rfl
theorem kj {k k':Kd}{i j:Int} (h:(-(2 ^ 64)<i∧i<2 ^ 64)∨(-(2 ^ 64)<j∧j<2 ^ 64)):opU .mul (k,.int i) (k',.int j)=some (.loc,.int (i * j)):=by show (uR i j).map _=_;rw [uR,if_pos h];rfl
theorem kl {k k':Kd}{i j:Int} (h:0≤j∧j≤1000000∧i.natAbs<2 ^ 64):opU .pow (k,.int i) (k',.int j)=some (.loc,.int (i ^ j.toNat)):=by show (uU i j).map _=_;rw [uU,if_pos h];rfl
theorem cQ {k k':Kd}{i j:Int}:opU .add (k,.int i) (k',.int j)=some (.loc,.int (i+j)):=rfl
theorem aM {k:Kd}{xs:List U}{i:Int}{u:U} (h:atI xs i=some u):eR (k,.lst xs) (.int i)=some (kE k,u):=by show (atI xs i).map _=_;rw [h];rfl
theorem qe:Kd.own≠Kd.ownD:=by decide
local macro_rules
 |`(tactic| sizeOf_list_dec)=>`(tactic| first|exact aT|apply aw|apply gH|apply cE|exact ay|exact af rfl|exact bF rfl|exact av rfl|apply a9|apply s9|apply bq|apply cV|apply bG|apply mM|apply b9|exact ao|apply ae|apply jY|apply ef|exact br|apply aK|exact aS|exact V_own|(first|exact trivial|exact ⟨⟨_,rfl,rfl⟩,trivial⟩|exact ⟨⟨_,rfl,rfl⟩,⟨_,rfl,rfl⟩,trivial⟩)|exact cQ|exact nH|exact bc (by first|omega|decide)|exact lr (by first|omega|decide)|exact kj (by first|omega|decide)|exact kl (by decide)|exact aA|exact a_|exact j5|exact dN|exact qb|exact qc rfl|exact Nat.zero_le _|exact rfl|exact qe)
noncomputable def oN (c k:Int):Int:=((c % 10 ^ 15+1) * 48271+k * k * 16807+k * 7919) % 2147483647 * 69621 % 2147483629
noncomputable def qZ : Fn := ⟨"_law_mix", 2, 3,
   [.set 2 (.bin .add (.bin .add (.bin .mul (.bin .add (.bin .mod (.var 0) (.bin .pow (.cst (.int 10)) (.cst (.int 15)))) (.cst (.int 1))) (.cst (.int 48271))) (.bin .mul (.bin .mul (.var 1) (.var 1)) (.cst (.int 16807)))) (.bin .mul (.var 1) (.cst (.int 7919)))),
    .ret (.bin .mod (.bin .mul (.bin .mod (.var 2) (.cst (.int 2147483647))) (.cst (.int 69621))) (.cst (.int 2147483629)))]⟩
theorem vA {Γ:Tab}{c k:Int} (h0:0≤k) (h1:k<2 ^ 63):bN Γ qZ [.int c,.int k]=some (.ok (.loc,.int (oN c k))):=by
 apply aL (st0:=[some (.loc,.int c),some (.loc,.int k),none]) rfl (.inr rfl) rfl
 repeat' sizeOf_list_dec
noncomputable def qf : Fn := ⟨"_law_cell", 2, 3,
   [.ite (.cmp .lt (.var 1) (.bi .len [(.var 0)]))
      [.ret (.idx (.var 0) (.var 1))]
      [],
    .set 2 (.cst (.int 0)),
    .ite (.cmp .gt (.bi .len [(.var 0)]) (.cst (.int 0)))
      [.set 2 (.idx (.var 0) (.bin .mod (.var 1) (.bi .len [(.var 0)])))]
      [],
    .ret (.bin .add (.bin .mul (.cst (.int 2)) (.call "_law_mix" [(.var 2), (.var 1)])) (.cst (.int 1)))]⟩
noncomputable def tw (Γ:Tab):Prop:=∀ c k:Int,0≤k→k<2 ^ 63→Γ "_law_mix" [.int c,.int k]=some (.ok (.loc,.int (oN c k)))
theorem we {i j:Int}{c:Bool} (h:decide (i<j)=c):bz .lt (.int i) (.int j)=some c:=by subst h;rfl
theorem mR {i j:Int}{c:Bool} (h:decide (j<i)=c):bz .gt (.int i) (.int j)=some c:=by subst h;rfl
theorem fm {i j:Int}{c:Bool} (h:(i==j)=c):bz .eq (.int i) (.int j)=some c:=by subst h;rfl
noncomputable def wg (ns:List Int) (k:Nat):Int:=if k<ns.length then (ns[k]?).getD 0 else 2 * oN ((ns[k % ns.length]?).getD 0) k+1
theorem tB {Γ:Tab} (hΓ:tw Γ) {ns:List Int}{k:Nat} (hk:k<2 ^ 62):bN Γ qf [.lst (ns.map .int),.int k]=some (.ok (.loc,.int (wg ns k))):=by
 have hm:∀ c,Γ "_law_mix" [.int c,.int k]=some (.ok (.loc,.int (oN c k))):=fun c=>hΓ c k (by omega) (by omega)
 unfold wg
 by_cases h:k<ns.length
 ·rw [if_pos h]
  have ha:atI (ns.map U.int) (k:Int)=some (.int ((ns[k]?).getD 0)):=bZ (by simp [h])
  apply aL (st0:=[some (.any,.lst (ns.map .int)),some (.loc,.int k),none]) rfl (.inr rfl) rfl
  apply x5
  all_goals repeat' (first|exact we (by simp [h])|exact aM ha|exact zk rfl|sizeOf_list_dec)
 ·rw [if_neg h]
  have hlt:bz .lt (.int k) (.int ((ns.map U.int).length:Nat))=some false:=we (by simp;omega)
  by_cases hz:0<ns.length
  ·have hi:k % ns.length<ns.length:=Nat.mod_lt _ hz
   have ha:atI (ns.map U.int) ((k:Int) % ((ns.map U.int).length:Nat))=some (.int ((ns[k % ns.length]?).getD 0)):=by
    rw [List.length_map,show (k:Int) % (ns.length:Nat)=((k % ns.length:Nat):Int) by omega]
    exact bZ (by simp [hi])
   have hp:(0:Int)<((ns.map U.int).length:Nat):=by simp;omega
   apply aL (st0:=[some (.any,.lst (ns.map .int)),some (.loc,.int k),none]) rfl (.inr rfl) rfl
   apply cj
   all_goals repeat' (first|exact hlt|sizeOf_list_dec)
   apply eh
   all_goals repeat' (first|exact mR (by simp;omega)|exact bc hp|exact aM ha|exact hm _|sizeOf_list_dec)
  ·have e:ns=[]:=List.eq_nil_of_length_eq_zero (by omega)
   subst e
   apply aL (st0:=[some (.any,.lst ([].map .int)),some (.loc,.int k),none]) rfl (.inr rfl) rfl
   apply cj
   all_goals repeat' (first|exact hlt|sizeOf_list_dec)
   apply cj
   all_goals repeat' (first|exact hm _|sizeOf_list_dec)
noncomputable def lu : Fn := ⟨"_law_drawn", 2, 5,
   [.set 2 (.lst []),
    .set 3 (.bin .fdv (.var 0) (.cst (.int 2))),
    .for_ false [4] .rng1 [(.var 1)]
      [.ite (.cmp .eq (.bin .mod (.var 0) (.cst (.int 2))) (.cst (.int 0)))
        [.app 2 (.bin .mod (.var 3) (.cst (.int 64))),
        .set 3 (.bin .fdv (.var 3) (.cst (.int 64)))]
        [.app 2 (.bin .mod (.bin .fdv (.call "_law_mix" [(.var 0), (.var 4)]) (.cst (.int 7))) (.cst (.int 4096)))]],
    .ret (.var 2)]⟩
theorem mS (x:Kd×U):itU .rng1 [x]=qQ x:=rfl
theorem iX {k:Kd}{n:Nat} (h:n<2 ^ 62):itU .rng1 [(k,.int (n:Nat))]=some ((List.range n).map fun i:Nat=>(Kd.loc,U.int (0+(i:Int)))):=by
 rw [mS,qQ,if_pos (by omega),Int.toNat_natCast]
noncomputable def dc (n:Nat) (xs:List (Kd×U)):Prop:=∃ i,i≤n∧xs=((List.range n).drop i).map fun i:Nat=>(Kd.loc,U.int (0+(i:Int)))
theorem dc.cons {n:Nat}{x:Kd×U}{xs:List (Kd×U)} (h:dc n (x::xs)):∃ i:Nat,i<n∧x=(.loc,.int (i:Nat))∧dc n xs∧i+xs.length+1=n:=by
 obtain ⟨i,hi,e⟩:=h
 by_cases hin:i<n
 ·rw [List.drop_eq_getElem_cons (by simpa using hin),List.map_cons] at e
  cases e
  refine ⟨i,hin,by simp,⟨i+1,hin,rfl⟩,by simp;omega⟩
 ·rw [List.drop_eq_nil_of_le (by simp;omega)] at e
  cases e
theorem dc.all (n:Nat):dc n ((List.range n).map fun i:Nat=>(Kd.loc,U.int (0+(i:Int)))):=⟨0,Nat.zero_le _,rfl⟩
theorem q9 {Γ:Tab} (hΓ:tw Γ) {c:Int}{n:Nat} (hn:n<1000):∃ ds:List Int,ds.length=n∧(∀ d∈ds,0≤d)∧bN Γ lu [.int c,.int n]=some (.ok (.own,.lst (ds.map .int))):=by
 have hsz:(1000:Nat)≤sizeLine:=by decide
 let I:List (Kd×U)→ak→Prop:=fun xs st=>∃ (ds:List Int) (us:List U) (left:Int) (o:Option (Kd×U)),st=[some (.loc,.int c),some (.loc,.int n),some (.own,.lst us),some (.loc,.int left),o]∧us=ds.map .int∧(∀ d∈ds,0≤d)∧ds.length+xs.length=n∧dc n xs
 have loop:=mQ (t:=false) (is:=[4]) (body:=execs Γ [.ite (.cmp .eq (.bin .mod (.var 0) (.cst (.int 2))) (.cst (.int 0)))
    [.app 2 (.bin .mod (.var 3) (.cst (.int 64))),
    .set 3 (.bin .fdv (.var 3) (.cst (.int 64)))]
    [.app 2 (.bin .mod (.bin .fdv (.call "_law_mix" [(.var 0),(.var 4)]) (.cst (.int 7))) (.cst (.int 4096)))]]) (rs:=[(.loc,.int n)]) I (fun _ _ _=>trivial) (fun x xs st hIx=>by
  obtain ⟨ds,us,left,o,e,e2,h0,hl,hr⟩:=hIx
  subst e
  have hul:us.length=ds.length:=by rw [e2];simp
  obtain ⟨i,hi,rfl,hr',hlen⟩:=hr.cons
  have hm:Γ "_law_mix" [.int c,.int i]=some (.ok (.loc,.int (oN c i))):=hΓ c i (by omega) (by omega)
  rw [List.length_cons] at hl
  by_cases hc:c % 2=0
  ·refine ⟨[some (.loc,.int c),some (.loc,.int n),some (.own,.lst us),some (.loc,.int left),some (.loc,.int i)],[some (.loc,.int c),some (.loc,.int n),some (.own,.lst (us++[.int (left % 64)])),some (.loc,.int (left / 64)),some (.loc,.int i)],aA,?_,⟨ds++[left % 64],_,left / 64,_,rfl,by simp [e2],?_,by simp;omega,hr'⟩⟩
   ·apply eh
    all_goals repeat' (first|exact fm (by simp [hc])|exact (by rw [hul];omega)|sizeOf_list_dec)
   ·intro d hd
    rcases List.mem_append.mp hd with z|z
    ·exact h0 d z
    ·rw [List.mem_singleton.mp z];omega
  ·refine ⟨[some (.loc,.int c),some (.loc,.int n),some (.own,.lst us),some (.loc,.int left),some (.loc,.int i)],[some (.loc,.int c),some (.loc,.int n),some (.own,.lst (us++[.int (oN c i / 7 % 4096)])),some (.loc,.int left),some (.loc,.int i)],aA,?_,⟨ds++[oN c i / 7 % 4096],_,left,_,rfl,by simp [e2],?_,by simp;omega,hr'⟩⟩
   ·apply cj
    all_goals repeat' (first|exact fm (by simp [hc])|exact hm|exact (by rw [hul];omega)|sizeOf_list_dec)
   ·intro d hd
    rcases List.mem_append.mp hd with z|z
    ·exact h0 d z
    ·rw [List.mem_singleton.mp z];omega)
 obtain ⟨st',hrun,ds,us,left,o,e,e2,h0,hl,_⟩:=loop ((List.range n).map fun i:Nat=>(Kd.loc,U.int (0+(i:Int)))) [some (.loc,.int c),some (.loc,.int n),some (.own,.lst []),some (.loc,.int (c / 2)),none] ⟨[],[],c / 2,none,rfl,rfl,by simp,by simp,dc.all n⟩
 subst e e2
 refine ⟨ds,by simpa using hl,h0,?_⟩
 apply aL (st0:=[some (.loc,.int c),some (.loc,.int n),none,none,none]) rfl (.inl rfl) rfl
 repeat' sizeOf_list_dec
 have hit:=iX (k:=.loc) (n:=n) (by omega)
 refine' da (rs:=[(.loc,.int n)]) (st1:=[some (.loc,.int c),some (.loc,.int n),some (.own,.lst []),some (.loc,.int (c / 2)),none]) _ trivial hit rfl hrun _
 all_goals repeat' sizeOf_list_dec
end TM
local macro_rules
 |`(tactic| sizeOf_list_dec)=>`(tactic| first|exact TM.aT|apply TM.aw|apply TM.gH|apply TM.cE|exact TM.ay|exact TM.af rfl|exact TM.bF rfl|exact TM.av rfl|apply TM.a9|apply TM.s9|apply TM.bq|apply TM.cV|apply TM.bG|apply TM.mM|apply TM.b9|exact TM.ao|apply TM.ae|apply TM.jY|apply TM.ef|exact TM.br|apply TM.aK|exact TM.aS|exact TM.V_own|(first|exact trivial|exact ⟨⟨_,rfl,rfl⟩,trivial⟩|exact ⟨⟨_,rfl,rfl⟩,⟨_,rfl,rfl⟩,trivial⟩)|exact TM.cQ|exact TM.nH|exact TM.bc (by first|omega|decide)|exact TM.lr (by first|omega|decide)|exact TM.kj (by first|omega|decide)|exact TM.kl (by decide)|exact TM.aA|exact TM.a_|exact TM.j5|exact TM.dN|exact TM.qb|exact TM.qc rfl|exact Nat.zero_le _|exact rfl|exact TM.qe)
namespace TM
open PySem L2 W01
theorem qg {k:Kd}{z:Int} (h0:0≤z) (h:z<2 ^ 62):itU .rng1 [(k,.int z)]=some ((List.range z.toNat).map fun i:Nat=>(Kd.loc,U.int (0+(i:Int)))):=by
 rw [mS,qQ,if_pos (by omega)]
theorem ib {k:Kd}{x:Str}{i:Int}{c:Nat} (hx:x.length≤sizeLine) (h:atI x.cps.toList i=some c):eR (k,.str x) (.int i)=some (.loc,.str (W01.one c)):=by
 simp only [eR]
 rw [if_pos hx,h]
 rfl
theorem iY:small.length≤sizeLine:=by decide
theorem bU {ds:List Int}{i:Nat} (h:i<ds.length):atI (ds.map U.int) (i:Int)=some (.int ((ds[i]?).getD 0)):=bZ (by simp [h])
theorem cH:∀ (ss:List Str),strsOf (ss.map U.str)=some ss
 |[]=>rfl
 |s::ss=>by show (strsOf (ss.map U.str)).map (s::·)=_;rw [cH ss];rfl
noncomputable def ly (md : E) : Fn := ⟨"_law_name", 2, 6,
   [.set 2 (.cst (.str "abcdefghijklmnopqrstuvwxyz")),
    .set 3 (.mth .join (.cst (.str "")) [(.comp 1 false .rng1 [(.bin .add (.cst (.int 1)) (.bin .mod (.idx (.var 0) (.cst (.int 0))) (.cst (.int 8))))] [] (.idx (.var 3) (.bin .mod (.idx (.var 1) (.bin .add (.cst (.int 4)) (.var 0))) (.cst (.int 26)))))]),
    .ite (.cmp .gt (.bi .len [(.var 1)]) (.cst (.int 0)))
      [.set 4 (.idx (.mth .split (.idx (.var 1) (.bin .mod (.idx (.var 0) (.cst (.int 1))) (.bi .len [(.var 1)]))) [(.cst (.str "/"))]) (.cst (.int 0))),
      .ite (.cmp .eq (.bin .mod (.idx (.var 0) (.cst (.int 2))) (.cst (.int 4))) (.cst (.int 1)))
        [.set 3 (.slc (.bin .add (.var 4) (.var 3)) [] [(.cst (.int 8))])]
        [],
      .ite (.cmp .eq (.bin .mod (.idx (.var 0) (.cst (.int 2))) (.cst (.int 4))) (.cst (.int 2)))
        [.set 3 (.bin .add (.bin .add (.var 4) (.cst (.str "/"))) (.bi .str [(.bin .add (.cst (.int 2)) (.bin .mod (.idx (.var 0) (.cst (.int 3))) md))]))]
        []]
      [],
    .set 5 (.bin .add (.lst [(.var 3)]) (.comp 1 false .rng1 [(.cst (.int 40))] [] (.bin .add (.idx (.var 3) (.bin .fdv (.var 0) (.cst (.int 26)))) (.idx (.var 3) (.bin .mod (.var 0) (.cst (.int 26))))))),
    .ret (.idx (.comp 1 false .seq [(.var 5)] [(.cmp .notin (.var 0) (.var 2))] (.var 0)) (.cst (.int 0)))]⟩
noncomputable def vB (md:E):Prop:=∀ (Γ:Tab) (ds:List Int),ds.length=12→(∀ d∈ds,0≤d)→∃ m:Int,0<m∧m≤98∧∀ o1 o2 o3 o4 o5,Run (ev Γ md) [some (.any,.lst (ds.map .int)),o1,o2,o3,o4,o5] (.loc,.int m) [some (.any,.lst (ds.map .int)),o1,o2,o3,o4,o5]
section
variable {Γ : Tab} {ds : List Int}
noncomputable def dd (ds:List Int) (i:Nat):Int:=(ds[i]?).getD 0
theorem dO (h0:∀ d∈ds,0≤d) (i:Nat):0≤dd ds i:=by
 unfold dd
 cases e:ds[i]? with
 |none=>simp
 |some d=>exact h0 d (List.mem_of_getElem? e)
theorem lz (hd:ds.length=12) (h0:∀ d∈ds,0≤d) {o1 o3 o4 o5:Option (Kd×U)}:∃ cs:List Nat,(∀ c∈cs,low c=true)∧1≤cs.length∧cs.length≤8 ∧
  Run (ev Γ (.comp 1 false .rng1 [(.bin .add (.cst (.int 1)) (.bin .mod (.idx (.var 0) (.cst (.int 0))) (.cst (.int 8))))] [] (.idx (.var 3) (.bin .mod (.idx (.var 1) (.bin .add (.cst (.int 4)) (.var 0))) (.cst (.int 26))))))
   [some (.any,.lst (ds.map .int)),o1,some (.loc,.str small),o3,o4,o5] (.own,.lst ((cs.map W01.one).map .str)) [some (.any,.lst (ds.map .int)),o1,some (.loc,.str small),o3,o4,o5]:=by
 have hz:=dO h0 0
 let n:=(1+dd ds 0 % 8).toNat
 have hn:n≤8∧1≤n:=by show (1+dd ds 0 % 8).toNat≤8∧1≤(1+dd ds 0 % 8).toNat;omega
 let f:Nat→Nat:=fun i=>97+(dd ds (4+i) % 26).toNat
 refine ⟨(List.range n).map f,?_,by simp;exact hn.2,by simp;exact hn.1,?_⟩
 ·intro c hc
  obtain ⟨i,_,rfl⟩:=List.mem_map.mp hc
  have:=dO h0 (4+i)
  exact oG (by omega)
 ·have hx:Run (bA 1 false (aU Γ []) (ev Γ (.idx (.var 3) (.bin .mod (.idx (.var 1) (.bin .add (.cst (.int 4)) (.var 0))) (.cst (.int 26))))) [(.loc,.int (1+dd ds 0 % 8))] ((List.range n).map fun i:Nat=>(Kd.loc,U.int (0+(i:Int)))) [])
    [some (.any,.lst (ds.map .int)),o1,some (.loc,.str small),o3,o4,o5] ([]++((List.range n).map fun i:Nat=>(Kd.loc,U.int (0+(i:Int)))).map fun x=>match x.2 with|.int j=>.str (W01.one (97+(dd ds (4+j.toNat) % 26).toNat))|u=>u) [some (.any,.lst (ds.map .int)),o1,some (.loc,.str small),o3,o4,o5]:=by
   have h8:(8:Nat)≤sizeLine:=by decide
   refine tu (by exact trivial) _ (fun _=>.loc) _ _ (by simp;omega) (fun x hx=>?_) (fun x hx=>?_)
   ·obtain ⟨i,_,rfl⟩:=List.mem_map.mp hx;exact .inl rfl
   ·obtain ⟨i,hi,rfl⟩:=List.mem_map.mp hx
    have hi':i<n:=by simpa using hi
    have ha:atI (ds.map U.int) (4+(0+(i:Int)))=some (.int (dd ds (4+i))):=by
     rw [show (4+(0+(i:Int)))=((4+i:Nat):Int) by omega]
     exact bU (by omega)
    have hnn:=dO h0 (4+i)
    have hs:=iT (k:=dd ds (4+i) % 26) (by omega) (by omega)
    refine ⟨j4,?_,aS⟩
    simp only [Int.zero_add,Int.toNat_natCast]
    rw [Int.zero_add] at ha
    repeat' (first|exact aM ha|exact ib iY hs|sizeOf_list_dec)
  have e:((List.range n).map f).map W01.one=(List.range n).map fun i=>W01.one (97+(dd ds (4+i) % 26).toNat):=by rw [List.map_map];rfl
  rw [e]
  have e2:([]++((List.range n).map fun i:Nat=>(Kd.loc,U.int (0+(i:Int)))).map fun x=>match x.2 with|.int j=>U.str (W01.one (97+(dd ds (4+j.toNat) % 26).toNat))|u=>u)=((List.range n).map fun i=>W01.one (97+(dd ds (4+i) % 26).toNat)).map U.str:=by
   rw [List.nil_append,List.map_map,List.map_map]
   apply List.map_congr_left
   intro i _
   simp
  rw [e2] at hx
  refine cW (rs:=[(.loc,.int (1+dd ds 0 % 8))]) ?_ trivial (qg (by omega) (by omega)) hx
  repeat' (first|exact aM (bU (i:=0) (by omega))|sizeOf_list_dec)
theorem eM {k k':Kd}{x y:Str} (h:x.length+y.length≤sizeLine):opU .add (k,.str x) (k',.str y)=some (.loc,.str (x++y)):=by
 simp only [opU,qP]
 rw [if_pos h]
theorem de:∀ (ss:List Str) (n:Nat),b8 n (ss.map U.str)=true
 |[],n=>by simp [b8]
 |s::ss,n=>by simp only [List.map_cons,b8,de ss n,Bool.and_true];cases n <;> rfl
theorem mT (x:Str):∀ (ss:List Str),((ss.map U.str).any fun y=>a5 y (.str x))=decide (x∈ss)
 |[]=>by simp
 |s::ss=>by
  rw [List.map_cons,List.any_cons,mT x ss]
  have:a5 (.str s) (.str x)=decide (x=s):=by
   simp only [a5]
   by_cases h:x=s
   ·subst h;simp
   ·have h':s≠x:=fun z=>h z.symm
    simp [h,h']
  rw [this,Bool.eq_iff_iff]
  simp
theorem vC (x:Str) (ss:List Str):inU (.str x) (ss.map U.str)=some (decide (x∈ss)):=by
 unfold inU
 rw [if_pos ⟨by rfl,de ss 50⟩,mT]
theorem df {x:Str}{ss:List Str}:bz .notin (.str x) (.lst (ss.map U.str))=some (decide (x∉ss)):=by
 show (inU (.str x) (ss.map U.str)).map (!·)=_
 rw [vC]
 simp
theorem mU {o0 o1 o3 o4 o5:Option (Kd×U)}:Run (ev Γ (.comp 1 false .rng1 [(.cst (.int 40))] [] (.bin .add (.idx (.var 3) (.bin .fdv (.var 0) (.cst (.int 26)))) (.idx (.var 3) (.bin .mod (.var 0) (.cst (.int 26)))))))
   [o0,o1,some (.loc,.str small),o3,o4,o5] (.own,.lst (bE.map .str)) [o0,o1,some (.loc,.str small),o3,o4,o5]:=by
 have h8:(100:Nat)≤sizeLine:=by decide
 have hx:Run (bA 1 false (aU Γ []) (ev Γ (.bin .add (.idx (.var 3) (.bin .fdv (.var 0) (.cst (.int 26)))) (.idx (.var 3) (.bin .mod (.var 0) (.cst (.int 26)))))) [(.loc,.int 40)] ((List.range 40).map fun i:Nat=>(Kd.loc,U.int (0+(i:Int)))) [])
   [o0,o1,some (.loc,.str small),o3,o4,o5] ([]++((List.range 40).map fun i:Nat=>(Kd.loc,U.int (0+(i:Int)))).map fun x=>match x.2 with|.int j=>.str (jX j.toNat)|u=>u) [o0,o1,some (.loc,.str small),o3,o4,o5]:=by
  refine tu (by exact trivial) _ (fun _=>.loc) _ _ (by simp;omega) (fun x hx=>?_) (fun x hx=>?_)
  ·obtain ⟨i,_,rfl⟩:=List.mem_map.mp hx;exact .inl rfl
  ·obtain ⟨i,hi,rfl⟩:=List.mem_map.mp hx
   have hi':i<40:=by simpa using hi
   refine ⟨j4,?_,aS⟩
   simp only [Int.zero_add,Int.toNat_natCast]
   have h1:=iT (k:=(i:Int) / 26) (by omega) (by omega)
   have h2:=iT (k:=(i:Int) % 26) (by omega) (by omega)
   have e1:((i:Int) / 26).toNat=i / 26:=by omega
   have e2:((i:Int) % 26).toNat=i % 26:=by omega
   rw [e1] at h1
   rw [e2] at h2
   have ad:opU .add (.loc,.str (W01.one (97+i / 26))) (.loc,.str (W01.one (97+i % 26)))=some (.loc,.str (jX i)):=by
    have:=eM (k:=.loc) (k':=.loc) (x:=W01.one (97+i / 26)) (y:=W01.one (97+i % 26)) (by show 1+1≤sizeLine;omega)
    rw [this];rfl
   repeat' (first|exact ib iY h1|exact ib iY h2|exact ad|sizeOf_list_dec)
 have e2:([]++((List.range 40).map fun i:Nat=>(Kd.loc,U.int (0+(i:Int)))).map fun x=>match x.2 with|.int j=>U.str (jX j.toNat)|u=>u)=bE.map U.str:=by
  rw [List.nil_append,List.map_map,bE,List.map_map]
  apply List.map_congr_left
  intro i _
  simp
 rw [e2] at hx
 exact cW (rs:=[(.loc,.int 40)]) (by repeat' sizeOf_list_dec) trivial (qg (by omega) (by omega)) hx
theorem q_ {names ts:List Str} (hl:ts.length≤1000) {o0 o2 o3 o4:Option (Kd×U)}:Run (ev Γ (.comp 1 false .seq [(.var 5)] [(.cmp .notin (.var 0) (.var 2))] (.var 0)))
   [o0,some (.any,.lst (names.map .str)),o2,o3,o4,some (.own,.lst (ts.map .str))] (.own,.lst ((ts.filter fun x=>decide (x∉names)).map .str)) [o0,some (.any,.lst (names.map .str)),o2,o3,o4,some (.own,.lst (ts.map .str))]:=by
 have h8:(1000:Nat)≤sizeLine:=by decide
 have hx:=iW (cond:=aU Γ [(.cmp .notin (.var 0) (.var 2))]) (elt:=ev Γ (.var 0)) (src:=[(.bor 5,.lst (ts.map .str))]) (st:=[o0,some (.any,.lst (names.map .str)),o2,o3,o4,some (.own,.lst (ts.map .str))]) ⟨⟨.own,rfl,rfl⟩,trivial⟩
  (fun x=>match x.2 with|.str y=>decide (y∉names)|_=>false) (fun x=>x.2) (fun _=>.loc) ((ts.map U.str).map fun u=>(kE (.bor 5),u)) [] (by simp;omega) (fun x hx=>by obtain ⟨u,_,rfl⟩:=List.mem_map.mp hx;exact .inl rfl) (fun x hx=>by
   obtain ⟨u,hu,rfl⟩:=List.mem_map.mp hx
   obtain ⟨y,_,rfl⟩:=List.mem_map.mp hu
   refine ⟨dC ?_,af rfl,aS⟩
   repeat' (first|exact df|sizeOf_list_dec))
 have e:([]++(((ts.map U.str).map fun u=>(kE (.bor 5),u)).filter fun x=>match x.2 with|.str y=>decide (y∉names)|_=>false).map fun x=>x.2)=(ts.filter fun x=>decide (x∉names)).map U.str:=by
  rw [List.nil_append,List.filter_map,List.filter_map,List.map_map,List.map_map]
  rfl
 rw [e] at hx
 exact cW (rs:=[(.bor 5,.lst (ts.map .str))]) (by repeat' sizeOf_list_dec) ⟨⟨.own,rfl,rfl⟩,trivial⟩ rfl hx
end
end TM
namespace TM
open PySem L2 W01
section
variable {Γ : Tab} {ds : List Int}
theorem rf {names:List Str} (hn:names.length<40) {x0:Str} (hx0:bb x0.cps.toList) {o0 o4:Option (Kd×U)}:∃ x st',bb x.cps.toList∧x∉names ∧
  Run (execs Γ [.set 5 (.bin .add (.lst [(.var 3)]) (.comp 1 false .rng1 [(.cst (.int 40))] [] (.bin .add (.idx (.var 3) (.bin .fdv (.var 0) (.cst (.int 26)))) (.idx (.var 3) (.bin .mod (.var 0) (.cst (.int 26))))))),
  .ret (.idx (.comp 1 false .seq [(.var 5)] [(.cmp .notin (.var 0) (.var 2))] (.var 0)) (.cst (.int 0)))]) [o0,some (.any,.lst (names.map .str)),some (.loc,.str small),some (.loc,.str x0),o4,none] (.rt .loc (.str x)) st':=by
 have h8:(1000:Nat)≤sizeLine:=by decide
 obtain ⟨y,hy,hyn⟩:=oI names hn
 have hne:(x0::bE).filter (fun x=>decide (x∉names))≠[]:=fun z=>by
  have:y∈(x0::bE).filter (fun x=>decide (x∉names)):=List.mem_filter.mpr ⟨List.mem_cons_of_mem _ hy,by simpa using hyn⟩
  rw [z] at this;cases this
 cases e:(x0::bE).filter (fun x=>decide (x∉names)) with
 |nil=>exact absurd e hne
 |cons x rest =>
  have hx:x∈(x0::bE).filter (fun x=>decide (x∉names)):=by rw [e];simp
  obtain ⟨hx1,hx2⟩:=List.mem_filter.mp hx
  have fr:=q_ (Γ:=Γ) (names:=names) (ts:=x0::bE) (by simp [bE]) (o0:=o0) (o2:=some (.loc,.str small)) (o3:=some (.loc,.str x0)) (o4:=o4)
  rw [e] at fr
  have ad:opU .add (.own,.lst [.str x0]) (.own,.lst (bE.map U.str))=some (.own,.lst ((x0::bE).map U.str)):=by
   simp only [opU,qP]
   rw [if_pos ⟨by simp [bE];omega,rfl,rfl⟩]
   rfl
  refine ⟨x,[o0,some (.any,.lst (names.map .str)),some (.loc,.str small),some (.loc,.str x0),o4,some (.own,.lst ((x0::bE).map .str))],?_,by simpa using hx2,?_⟩
  ·rcases List.mem_cons.mp hx1 with rfl|h
   ·exact hx0
   ·obtain ⟨k,hk,rfl⟩:=List.mem_map.mp h
    exact .inl (oH (by simpa using hk))
  ·refine aw (st2:=[o0,some (.any,.lst (names.map .str)),some (.loc,.str small),some (.loc,.str x0),o4,some (.own,.lst ((x0::bE).map .str))]) (a9 (x:=(.own,.lst [.str x0])) (ef (ae (af rfl) ao) (by (first|exact trivial|exact ⟨⟨_,rfl,rfl⟩,trivial⟩|exact ⟨⟨_,rfl,rfl⟩,⟨_,rfl,rfl⟩,trivial⟩)) (aK aS br) (by show 1≤sizeLine;omega)) mU trivial ad) a_ ?_
   refine cE (bq fr ay trivial (aM (by show atI _ ((0:Nat):Int)=_;exact bZ rfl))) dN
theorem tD {md:E} (hmd:vB md) (hd:ds.length=12) (h0:∀ d∈ds,0≤d) {names:List Str} (hn:names.length<40) (hw:∀ x∈names,bb x.cps.toList) :
  ∃ x,bb x.cps.toList∧x∉names∧bN Γ (ly md) [.lst (ds.map .int),.lst (names.map .str)]=some (.ok (.loc,.str x)):=by
 obtain ⟨m,hm0,hm9,hmr⟩:=hmd Γ ds hd h0
 have h8:(1000:Nat)≤sizeLine:=by decide
 obtain ⟨cs,hlow,hc1,hc8,hcomp⟩:=lz (Γ:=Γ) hd h0 (o1:=some (.any,.lst (names.map .str))) (o3:=none) (o4:=none) (o5:=none)
 have hjoin:fW .join (.str "") [(.own,.lst ((cs.map W01.one).map U.str))]=some (.loc,.str (Txt.join Str.empty (cs.map W01.one))):=by
  show (strsOf ((cs.map W01.one).map U.str)).bind _=_
  rw [cH]
  show (if JoinOk Str.empty (cs.map W01.one)=true then _ else _)=_
  rw [if_pos (mL cs (by omega))]
  rfl
 let x0:Str:=Txt.join Str.empty (cs.map W01.one)
 have hx0:x0.cps.toList=cs:=join_ones cs
 have hs0:dH x0.cps.toList=true:=by rw [hx0];exact gG hlow hc1 hc8
 have hlen0:x0.length≤8:=by rw [len_list,hx0];exact hc8
 have head:∀ {f:Fl} {st':ak} (ss:List S),Run (execs Γ ss) [some (.any,.lst (ds.map .int)),some (.any,.lst (names.map .str)),some (.loc,.str small),some (.loc,.str x0),none,none] f st' →
   Run (execs Γ (.set 2 (.cst (.str "abcdefghijklmnopqrstuvwxyz"))::.set 3 (.mth .join (.cst (.str "")) [(.comp 1 false .rng1 [(.bin .add (.cst (.int 1)) (.bin .mod (.idx (.var 0) (.cst (.int 0))) (.cst (.int 8))))] [] (.idx (.var 3) (.bin .mod (.idx (.var 1) (.bin .add (.cst (.int 4)) (.var 0))) (.cst (.int 26)))))])::ss))
    [some (.any,.lst (ds.map .int)),some (.any,.lst (names.map .str)),none,none,none,none] f st':=fun ss h=>aw (r:=(.loc,.str small)) ay aA (aw (mM ay (ae hcomp ao) (by (first|exact trivial|exact ⟨⟨_,rfl,rfl⟩,trivial⟩|exact ⟨⟨_,rfl,rfl⟩,⟨_,rfl,rfl⟩,trivial⟩)) hjoin) aA h)
 have mid:∀ (x1:Str) (o4:Option (Kd×U)),bb x1.cps.toList→∃ x st',bb x.cps.toList∧x∉names∧Run (execs Γ [.set 5 (.bin .add (.lst [(.var 3)]) (.comp 1 false .rng1 [(.cst (.int 40))] [] (.bin .add (.idx (.var 3) (.bin .fdv (.var 0) (.cst (.int 26)))) (.idx (.var 3) (.bin .mod (.var 0) (.cst (.int 26))))))),
  .ret (.idx (.comp 1 false .seq [(.var 5)] [(.cmp .notin (.var 0) (.var 2))] (.var 0)) (.cst (.int 0)))]) [some (.any,.lst (ds.map .int)),some (.any,.lst (names.map .str)),some (.loc,.str small),some (.loc,.str x1),o4,none] (.rt .loc (.str x)) st':=fun x1 o4 h1=>rf hn h1
 by_cases hz:0<names.length
 ·
  have hi:(dd ds 1).toNat % names.length<names.length:=Nat.mod_lt _ hz
  let nm:=names[(dd ds 1).toNat % names.length]'hi
  have hnm:bb nm.cps.toList:=hw _ (List.getElem_mem hi)
  obtain ⟨y,r,hsp,hst⟩:=hnm.aN
  have hyl:y.length≤8:=by rw [len_list];exact ((bM _).mp hst).2.1
  have hnl:nm.length≤11:=by rw [len_list];exact hnm.len.2
  have hd1:=dO h0 1
  have hat:atI (names.map U.str) (dd ds 1 % ((names.map U.str).length:Nat))=some (.str nm):=by
   rw [List.length_map,show dd ds 1 % (names.length:Nat)=(((dd ds 1).toNat % names.length:Nat):Int) by rw [Int.natCast_emod,Int.toNat_of_nonneg hd1]]
   exact bZ (by simp [hi];rfl)
  have hsplit:fW .split (.str nm) [(.loc,.str "/")]=some (.own,.lst ((y::r).map U.str)):=by
   show (if (Str.length "/"==0)=false∧nm.length+2≤sizeLine then some (Kd.own,U.lst ((Txt.split nm "/").map .str)) else none)=_
   rw [if_pos ⟨by decide,by omega⟩,show ("/":Str)=dU from rfl,hsp]
  have hp:(0:Int)<((names.map U.str).length:Nat):=by simp;omega
  have hix:eR (.own,.lst ((y::r).map U.str)) (.int 0)=some (.loc,.str y):=aM (by show atI _ ((0:Nat):Int)=_;exact bZ rfl)
  have hd2:=dO h0 2
  have hd3:=dO h0 3
  have i1:atI (ds.map U.int) 1=some (.int (dd ds 1)):=bU (i:=1) (by omega)
  have i2:atI (ds.map U.int) 2=some (.int (dd ds 2)):=bU (i:=2) (by omega)
  have i3:atI (ds.map U.int) 3=some (.int (dd ds 3)):=bU (i:=3) (by omega)
  have go:∀ x1:Str,bb x1.cps.toList→Run (execs Γ [.ite (.cmp .eq (.bin .mod (.idx (.var 0) (.cst (.int 2))) (.cst (.int 4))) (.cst (.int 1)))
    [.set 3 (.slc (.bin .add (.var 4) (.var 3)) [] [(.cst (.int 8))])]
    [],
   .ite (.cmp .eq (.bin .mod (.idx (.var 0) (.cst (.int 2))) (.cst (.int 4))) (.cst (.int 2)))
    [.set 3 (.bin .add (.bin .add (.var 4) (.cst (.str "/"))) (.bi .str [(.bin .add (.cst (.int 2)) (.bin .mod (.idx (.var 0) (.cst (.int 3))) md))]))]
    []]) [some (.any,.lst (ds.map .int)),some (.any,.lst (names.map .str)),some (.loc,.str small),some (.loc,.str x0),some (.loc,.str y),none] .nx [some (.any,.lst (ds.map .int)),some (.any,.lst (names.map .str)),some (.loc,.str small),some (.loc,.str x1),some (.loc,.str y),none] →
    ∃ x,bb x.cps.toList∧x∉names∧bN Γ (ly md) [.lst (ds.map .int),.lst (names.map .str)]=some (.ok (.loc,.str x)):=fun x1 h1 hr=>by
   obtain ⟨x,st',a1,a2,a3⟩:=mid x1 (some (.loc,.str y)) h1
   refine ⟨x,a1,a2,aL (st0:=[some (.any,.lst (ds.map .int)),some (.any,.lst (names.map .str)),none,none,none,none]) rfl (.inr rfl) rfl (head _ (eh (st1:=[some (.any,.lst (ds.map .int)),some (.any,.lst (names.map .str)),some (.loc,.str small),some (.loc,.str x0),none,none]) ?_ (aw (r:=(.loc,.str y)) (st1:=[some (.any,.lst (ds.map .int)),some (.any,.lst (names.map .str)),some (.loc,.str small),some (.loc,.str x0),none,none]) ?_ aA hr) a3))⟩
   ·repeat' (first|exact mR (by simp;omega)|sizeOf_list_dec)
   ·repeat' (first|exact bc hp|exact aM hat|exact aM i1|exact hsplit|exact hix|sizeOf_list_dec)
  have t1:∀ {c:Bool} {o3 o4:Option (Kd×U)},(dd ds 2 % 4==1)=c→Run (tst Γ (.cmp .eq (.bin .mod (.idx (.var 0) (.cst (.int 2))) (.cst (.int 4))) (.cst (.int 1)))) [some (.any,.lst (ds.map .int)),some (.any,.lst (names.map .str)),some (.loc,.str small),o3,o4,none] c [some (.any,.lst (ds.map .int)),some (.any,.lst (names.map .str)),some (.loc,.str small),o3,o4,none]:=fun hc=>by
   repeat' (first|exact aM i2|exact fm hc|sizeOf_list_dec)
  have t2:∀ {c:Bool} {o3 o4:Option (Kd×U)},(dd ds 2 % 4==2)=c→Run (tst Γ (.cmp .eq (.bin .mod (.idx (.var 0) (.cst (.int 2))) (.cst (.int 4))) (.cst (.int 2)))) [some (.any,.lst (ds.map .int)),some (.any,.lst (names.map .str)),some (.loc,.str small),o3,o4,none] c [some (.any,.lst (ds.map .int)),some (.any,.lst (names.map .str)),some (.loc,.str small),o3,o4,none]:=fun hc=>by
   repeat' (first|exact aM i2|exact fm hc|sizeOf_list_dec)
  by_cases hw1:dd ds 2 % 4=1
  ·have hyx:y.length+x0.length≤sizeLine:=by omega
   have hsl:jy (.loc,.str (y++x0)) none (some 8)=some (.loc,.str (PySem.StrLaws.sliceText (y++x0) none (some 8))):=by
    simp only [jy]
    rw [if_pos (by rw [len_list];show (y.cps++x0.cps).toList.length≤_;rw [Array.toList_append,List.length_append,←len_list,←len_list];omega)]
   refine go (PySem.StrLaws.sliceText (y++x0) none (some 8)) (.inl ?_) ?_
   ·have:=xZ (y++x0) 8
    rw [show ((8:Nat):Int)=8 from rfl] at this
    rw [this]
    show dH ((y.cps++x0.cps).toList.take 8)=true
    rw [Array.toList_append]
    exact qY hst (by rw [hx0];exact hlow)
   ·refine eh (t1 (by simp [hw1])) (aw (p9 (a9 (af rfl) (af rfl) trivial (eM hyx)) p7 (p8 ay) trivial hsl) aA aT) (cj (t2 (by simp [hw1])) aT aT)
  ·by_cases hw2:dd ds 2 % 4=2
   ·have hm1:=Int.emod_nonneg (dd ds 3) (show m≠0 by omega)
    have hm2:=Int.emod_lt_of_pos (dd ds 3) hm0
    have hk0:0≤2+dd ds 3 % m:=by omega
    have hk9:2+dd ds 3 % m≤99:=by omega
    have hnl2:=c_ hk0 hk9
    have hstr:biU .str [(.loc,.int (2+dd ds 3 % m))]=some (.loc,.str (fL (2+dd ds 3 % m))):=by
     simp only [biU,eS,sm]
     rw [if_pos (by
      have:(2+dd ds 3 % m).natAbs<2 ^ 7:=by omega
      have h2:(2+dd ds 3 % m).natAbs≠0:=by omega
      have:=(Nat.log2_lt h2).mpr this
      omega)]
     rfl
    have hsl1:(y++("/":Str)).length=y.length+1:=by rw [len_list,len_list];show (y.cps++_).toList.length=_;rw [Array.toList_append,List.length_append];rfl
    have hnum:Run (ev Γ (.bin .add (.cst (.int 2)) (.bin .mod (.idx (.var 0) (.cst (.int 3))) md))) [some (.any,.lst (ds.map .int)),some (.any,.lst (names.map .str)),some (.loc,.str small),some (.loc,.str x0),some (.loc,.str y),none] (.loc,.int (2+dd ds 3 % m)) [some (.any,.lst (ds.map .int)),some (.any,.lst (names.map .str)),some (.loc,.str small),some (.loc,.str x0),some (.loc,.str y),none]:=a9 ay (a9 (bq (bF rfl) ay trivial (aM i3)) (hmr _ _ _ _ _) trivial (bc hm0)) trivial cQ
    refine go (y++"/"++fL (2+dd ds 3 % m)) (.inr ⟨y.cps.toList,(fL (2+dd ds 3 % m)).cps.toList,2+dd ds 3 % m,?_,hst,by omega,hk9,rfl⟩) ?_
    ·show ((y.cps++#[47])++(fL _).cps).toList=_
     simp
    ·refine cj (t1 (by simp [hw2])) aT (eh (t2 (by simp [hw2])) (aw (a9 (a9 (af rfl) ay trivial (eM (by show y.length+1≤sizeLine;omega))) (cV (ae hnum ao) trivial hstr) trivial (eM (by rw [hsl1];omega))) aA aT) aT)
   ·refine go x0 (.inl hs0) ?_
    exact cj (t1 (by simp [hw1])) aT (cj (t2 (by simp [hw2])) aT aT)
 ·obtain ⟨x,st',a1,a2,a3⟩:=mid x0 none (.inl hs0)
  refine ⟨x,a1,a2,aL (st0:=[some (.any,.lst (ds.map .int)),some (.any,.lst (names.map .str)),none,none,none,none]) rfl (.inr rfl) rfl (head _ (cj (st1:=[some (.any,.lst (ds.map .int)),some (.any,.lst (names.map .str)),some (.loc,.str small),some (.loc,.str x0),none,none]) ?_ aT a3))⟩
  repeat' (first|exact mR (decide_eq_false (by simp only [List.length_map];omega))|sizeOf_list_dec)
end
end TM
namespace TM
open PySem L2 W01
noncomputable def iZ (Γ:Tab):Prop:=∀ (ns:List Int) (k:Nat),k<2 ^ 62→∃ z,Γ "_law_cell" [.lst (ns.map .int),.int (k:Nat)]=some (.ok (.loc,.int z))
noncomputable def gb (Γ:Tab):Prop:=∀ (c:Int) (n:Nat),n<1000→∃ ds:List Int,ds.length=n∧(∀ d∈ds,0≤d)∧Γ "_law_drawn" [.int c,.int (n:Nat)]=some (.ok (.own,.lst (ds.map .int)))
noncomputable def tE (Γ:Tab):Prop:=∀ (ds:List Int) (names:List Str),ds.length=12→(∀ d∈ds,0≤d)→names.length<40→(∀ x∈names,bb x.cps.toList)→∃ x,bb x.cps.toList∧x∉names∧Γ "_law_name" [.lst (ds.map .int),.lst (names.map .str)]=some (.ok (.loc,.str x))
noncomputable def fNames : Fn := ⟨"_law_names", 3, 5,
   [.set 3 (.lst []),
    .for_ false [4] .rng1 [(.var 2)]
      [.app 3 (.call "_law_name" [(.call "_law_drawn" [(.call "_law_cell" [(.var 0), (.bin .add (.var 1) (.var 4))]), (.cst (.int 12))]), (.var 3)])],
    .ret (.var 3)]⟩
theorem rg {Γ : Tab} (hc : iZ Γ) (hd : gb Γ) (hn : tE Γ) {ns : List Int} {b m : Nat} (hb : b < 1000) (hm : m < 40) :
    ∃ names : List Str, names.length = m ∧ names.Nodup ∧ (∀ x ∈ names, bb x.cps.toList) ∧ bN Γ fNames [.lst (ns.map .int), .int (b : Nat), .int (m : Nat)] = some (.ok (.own, .lst (names.map .str))) := by
  have hsz : (1000 : Nat) ≤ sizeLine := by decide
  let I : List (Kd × U) → ak → Prop := fun xs st => ∃ (names : List Str) (us : List U) (o : Option (Kd × U)), st = [some (.any, .lst (ns.map .int)), some (.loc, .int (b : Nat)), some (.loc, .int (m : Nat)), some (.own, .lst us), o] ∧ us = names.map .str ∧ names.Nodup ∧ (∀ x ∈ names, bb x.cps.toList) ∧ names.length + xs.length = m ∧ dc m xs
  have loop := mQ (t := false) (is := [4]) (body := execs Γ [.app 3 (.call "_law_name" [(.call "_law_drawn" [(.call "_law_cell" [(.var 0), (.bin .add (.var 1) (.var 4))]), (.cst (.int 12))]), (.var 3)])]) (rs := [(.loc, .int (m : Nat))]) I (fun _ _ _ => trivial) (fun x xs st hIx => by
    obtain ⟨names, us, o, e, e2, hnd, hw, hl, hr⟩ := hIx
    subst e
    obtain ⟨i, hi, rfl, hr', hlen⟩ := hr.cons
    rw [List.length_cons] at hl
    obtain ⟨z, hz⟩ := hc ns (b + i) (by omega)
    rw [Int.natCast_add] at hz
    obtain ⟨ds, d1, d2, d3⟩ := hd z 12 (by omega)
    obtain ⟨x, x1, x2, x3⟩ := hn ds names d1 d2 (by omega) hw
    rw [← e2] at x3
    refine ⟨[some (.any, .lst (ns.map .int)), some (.loc, .int (b : Nat)), some (.loc, .int (m : Nat)), some (.own, .lst us), some (.loc, .int (i : Nat))], [some (.any, .lst (ns.map .int)), some (.loc, .int (b : Nat)), some (.loc, .int (m : Nat)), some (.own, .lst (us ++ [.str x])), some (.loc, .int (i : Nat))], aA, ?_, ⟨names ++ [x], _, _, rfl, by simp [e2], ?_, ?_, by simp; omega, hr'⟩⟩
    · repeat' (first | exact hz | exact d3 | exact x3 | exact (by rw [e2, List.length_map]; omega) | sizeOf_list_dec)
    · rw [List.nodup_append]
      exact ⟨hnd, by simp, fun y hy w hw' => by have : w = x := by simpa using hw'
                                                subst this; rintro rfl; exact x2 hy⟩
    · intro y hy
      rcases List.mem_append.mp hy with h | h
      · exact hw y h
      · rw [List.mem_singleton.mp h]; exact x1)
  obtain ⟨st', hrun, names, us, o, e, e2, hnd, hw, hl, _⟩ := loop ((List.range m).map fun i : Nat => (Kd.loc, U.int (0 + (i : Int)))) [some (.any, .lst (ns.map .int)), some (.loc, .int (b : Nat)), some (.loc, .int (m : Nat)), some (.own, .lst []), none] ⟨[], [], none, rfl, rfl, by simp, by simp, by simp, dc.all m⟩
  subst e e2
  refine ⟨names, by simpa using hl, hnd, hw, ?_⟩
  apply aL (st0 := [some (.any, .lst (ns.map .int)), some (.loc, .int (b : Nat)), some (.loc, .int (m : Nat)), none, none]) rfl (.inl rfl) rfl
  repeat' sizeOf_list_dec
  have hit := iX (k := .loc) (n := m) (by omega)
  refine' da (rs := [(.loc, .int (m : Nat))]) (st1 := [some (.any, .lst (ns.map .int)), some (.loc, .int (b : Nat)), some (.loc, .int (m : Nat)), some (.own, .lst []), none]) _ trivial hit rfl hrun _
  all_goals repeat' sizeOf_list_dec
noncomputable def gI : Fn := ⟨"_law_told", 2, 6,
   [.set 2 (.bi .len [(.var 1)]),
    .ite (.and [(.cmp .gt (.bin .mod (.idx (.var 0) (.cst (.int 2))) (.cst (.int 3))) (.cst (.int 0))), (.cmp .gt (.bin .mod (.idx (.var 0) (.cst (.int 0))) (.bi .len [(.var 1)])) (.cst (.int 0)))])
      [.set 2 (.bin .mod (.idx (.var 0) (.cst (.int 0))) (.bi .len [(.var 1)]))]
      [],
    .set 3 (.lst []),
    .for_ false [4] .rng1 [(.idx (.lst [(.cst (.int 0)), (.cst (.int 0)), (.cst (.int 1)), (.cst (.int 1)), (.cst (.int 1)), (.cst (.int 2)), (.cst (.int 2)), (.cst (.int 2)), (.cst (.int 3)), (.cst (.int 8))]) (.bin .mod (.idx (.var 0) (.cst (.int 1))) (.cst (.int 10))))]
      [.set 5 (.idx (.var 1) (.bin .mod (.idx (.var 0) (.bin .add (.cst (.int 3)) (.var 4))) (.var 2))),
      .ite (.cmp .notin (.var 5) (.var 3))
        [.app 3 (.var 5)]
        []],
    .ret (.bi .tuple [(.var 3)])]⟩
end TM
namespace TM
open PySem L2 W01
theorem AH:∀ j:Nat,j<10→∃ q:Nat,q≤8∧atI [U.int 0,.int 0,.int 1,.int 1,.int 1,.int 2,.int 2,.int 2,.int 3,.int 8] (j:Int)=some (.int (q:Nat))
 |0,_=>⟨0,by omega,rfl⟩|1,_=>⟨0,by omega,rfl⟩|2,_=>⟨1,by omega,rfl⟩|3,_=>⟨1,by omega,rfl⟩|4,_=>⟨1,by omega,rfl⟩
 |5,_=>⟨2,by omega,rfl⟩|6,_=>⟨2,by omega,rfl⟩|7,_=>⟨2,by omega,rfl⟩|8,_=>⟨3,by omega,rfl⟩|9,_=>⟨8,by omega,rfl⟩
 |n+10,h=>absurd h (by omega)
theorem x6 {α:Type}{xs:List α}{z t:Int} (hz:0≤z) (ht:0<t) (hl:t≤xs.length):∃ x∈xs,atI xs (z % t)=some x:=by
 have h1:=Int.emod_nonneg z (by omega:t≠0)
 have h2:=Int.emod_lt_of_pos z ht
 obtain ⟨j,hj⟩:=Int.eq_ofNat_of_zero_le h1
 have hjl:j<xs.length:=by omega
 refine ⟨xs[j]'hjl,List.getElem_mem hjl,?_⟩
 rw [hj]
 exact bZ (by simp [hjl])
theorem qh {xs:List Str}{z t:Int} (hz:0≤z) (ht:0<t) (hl:t≤xs.length):∃ x∈xs,atI (xs.map U.str) (z % t)=some (.str x):=by
 obtain ⟨u,hu,e⟩:=x6 (xs:=xs.map U.str) hz ht (by simpa using hl)
 obtain ⟨x,hx,rfl⟩:=List.mem_map.mp hu
 exact ⟨x,hx,e⟩
theorem tF {Γ : Tab} {ds : List Int} {names : List Str} (hd : 11 ≤ ds.length) (h0 : ∀ d ∈ ds, 0 ≤ d) (hn : 0 < names.length) :
    ∃ told : List Str, told.length ≤ 8 ∧ told.Nodup ∧ (∀ x ∈ told, x ∈ names) ∧ bN Γ gI [.lst (ds.map .int), .lst (names.map .str)] = some (.ok (.loc, .tup (told.map .str))) := by
  have hsz : (1000 : Nat) ≤ sizeLine := by decide
  have i0 : atI (ds.map U.int) 0 = some (.int (dd ds 0)) := bU (i := 0) (by omega)
  have i1 : atI (ds.map U.int) 1 = some (.int (dd ds 1)) := bU (i := 1) (by omega)
  have i2 : atI (ds.map U.int) 2 = some (.int (dd ds 2)) := bU (i := 2) (by omega)
  have n0 := dO h0 0
  have n1 := dO h0 1
  have n2 := dO h0 2
  have hp : (0 : Int) < ((names.map U.str).length : Nat) := by simp; omega
  have hL : ((names.map U.str).length : Int) = names.length := by simp
  have hm0 := Int.emod_lt_of_pos (dd ds 0) hp
  have hm1 := Int.emod_nonneg (dd ds 0) (by omega : ((names.map U.str).length : Int) ≠ 0)
  let B := fun (t : Int) (us : List U) (o4 o5 : Option (Kd × U)) => ([some (.any, .lst (ds.map .int)), some (.any, .lst (names.map .str)), some (.loc, .int t), some (.own, .lst us), o4, o5] : ak)
  have hj : (dd ds 1 % 10).toNat < 10 := by omega
  obtain ⟨q, hq, hat⟩ := AH _ hj
  rw [Int.toNat_of_nonneg (by omega)] at hat
  have main : ∀ t : Int, 0 < t → t ≤ names.length → ∃ told : List Str, told.length ≤ 8 ∧ told.Nodup ∧ (∀ x ∈ told, x ∈ names) ∧ ∃ st', Run (execs Γ (gI.body.drop 2)) [some (.any, .lst (ds.map .int)), some (.any, .lst (names.map .str)), some (.loc, .int t), none, none, none] (.rt .loc (.tup (told.map .str))) st' := fun t ht htl => by
    let I : List (Kd × U) → ak → Prop := fun xs st => ∃ (told : List Str) (us : List U) (o4 o5 : Option (Kd × U)), st = B t us o4 o5 ∧ us = told.map .str ∧ told.Nodup ∧ (∀ x ∈ told, x ∈ names) ∧ told.length + xs.length ≤ q ∧ dc q xs
    have loop := mQ (t := false) (is := [4]) (body := execs Γ [.set 5 (.idx (.var 1) (.bin .mod (.idx (.var 0) (.bin .add (.cst (.int 3)) (.var 4))) (.var 2))),
      .ite (.cmp .notin (.var 5) (.var 3))
        [.app 3 (.var 5)]
        []]) (rs := [(.loc, .int (q : Nat))]) I (fun _ _ _ => trivial) (fun x xs st hIx => by
      obtain ⟨told, us, o4, o5, e, e2, hnd, hw, hl, hr⟩ := hIx
      subst e
      obtain ⟨i, hi, rfl, hr', hlen⟩ := hr.cons
      rw [List.length_cons] at hl
      have ik : atI (ds.map U.int) (3 + (i : Int)) = some (.int (dd ds (3 + i))) := by
        rw [show (3 + (i : Int)) = ((3 + i : Nat) : Int) by omega]
        exact bU (by omega)
      obtain ⟨x, hx, hxa⟩ := qh (xs := names) (dO h0 (3 + i)) ht htl
      have hni : bz .notin (.str x) (.lst us) = some (decide (x ∉ told)) := by rw [e2]; exact df
      by_cases hin : x ∈ told
      · refine ⟨B t us (some (.loc, .int (i : Nat))) o5, B t us (some (.loc, .int (i : Nat))) (some (.any, .str x)), aA, ?_, ⟨told, us, _, _, rfl, e2, hnd, hw, by omega, hr'⟩⟩
        refine aw (r := (.any, .str x)) (st1 := B t us (some (.loc, .int (i : Nat))) o5) ?_ j5 (cj (st1 := B t us (some (.loc, .int (i : Nat))) (some (.any, .str x))) ?_ aT aT)
        · repeat' (first | exact aM ik | exact bc ht | exact aM hxa | sizeOf_list_dec)
        · have : bz .notin (.str x) (.lst us) = some false := by rw [hni]; simp [hin]
          repeat' (first | exact this | sizeOf_list_dec)
      · refine ⟨B t us (some (.loc, .int (i : Nat))) o5, B t (us ++ [.str x]) (some (.loc, .int (i : Nat))) (some (.any, .str x)), aA, ?_, ⟨told ++ [x], _, _, _, rfl, by simp [e2], ?_, ?_, by simp; omega, hr'⟩⟩
        · refine aw (r := (.any, .str x)) (st1 := B t us (some (.loc, .int (i : Nat))) o5) ?_ j5 (eh (st1 := B t us (some (.loc, .int (i : Nat))) (some (.any, .str x))) (st2 := B t (us ++ [.str x]) (some (.loc, .int (i : Nat))) (some (.any, .str x))) ?_ ?_ aT)
          · repeat' (first | exact aM ik | exact bc ht | exact aM hxa | sizeOf_list_dec)
          · have : bz .notin (.str x) (.lst us) = some true := by rw [hni]; simp [hin]
            repeat' (first | exact this | sizeOf_list_dec)
          · repeat' (first | exact mN rfl | exact (by rw [e2, List.length_map]; omega) | sizeOf_list_dec)
        · rw [List.nodup_append]
          exact ⟨hnd, by simp, fun y hy w hw' => by have : w = x := by simpa using hw'
                                                    subst this; rintro rfl; exact hin hy⟩
        · intro y hy
          rcases List.mem_append.mp hy with h | h
          · exact hw y h
          · rw [List.mem_singleton.mp h]; exact hx)
    obtain ⟨st', hrun, told, us, o4, o5, e, e2, hnd, hw, hl, _⟩ := loop ((List.range q).map fun i : Nat => (Kd.loc, U.int (0 + (i : Int)))) (B t [] none none) ⟨[], [], none, none, rfl, rfl, by simp, by simp, by simp, dc.all q⟩
    subst e e2
    refine ⟨told, by simp at hl; omega, hnd, hw, ?_⟩
    have hit := iX (k := .loc) (n := q) (by omega)
    refine ⟨B t (told.map .str) o4 o5, aw (r := (.own, .lst [])) (ef ao trivial br (Nat.zero_le _)) a_ (da (rs := [(.loc, .int (q : Nat))]) (st1 := B t [] none none) ?_ trivial hit rfl hrun ?_)⟩
    · refine ae (bq (x := (.own, .lst [U.int 0, .int 0, .int 1, .int 1, .int 1, .int 2, .int 2, .int 2, .int 3, .int 8])) (y := (.loc, .int (dd ds 1 % 10))) (st1 := B t [] none none) ?_ ?_ trivial (aM hat)) ao
      · repeat' (first | exact (by decide : (10 : Nat) ≤ sizeLine) | sizeOf_list_dec)
      · repeat' (first | exact aM i1 | sizeOf_list_dec)
    · repeat' sizeOf_list_dec
  have fin : ∀ t : Int, 0 < t → t ≤ names.length → (∀ {f : Fl} {st' : ak}, Run (execs Γ (gI.body.drop 2)) [some (.any, .lst (ds.map .int)), some (.any, .lst (names.map .str)), some (.loc, .int t), none, none, none] f st' → Run (execs Γ gI.body) [some (.any, .lst (ds.map .int)), some (.any, .lst (names.map .str)), none, none, none, none] f st') →
      ∃ told : List Str, told.length ≤ 8 ∧ told.Nodup ∧ (∀ x ∈ told, x ∈ names) ∧ bN Γ gI [.lst (ds.map .int), .lst (names.map .str)] = some (.ok (.loc, .tup (told.map .str))) := fun t ht htl hh => by
    obtain ⟨told, a1, a2, a3, st', a4⟩ := main t ht htl
    exact ⟨told, a1, a2, a3, aL (st0 := [some (.any, .lst (ds.map .int)), some (.any, .lst (names.map .str)), none, none, none, none]) rfl (.inr rfl) rfl (hh a4)⟩
  let S0 : ak := [some (.any, .lst (ds.map .int)), some (.any, .lst (names.map .str)), some (.loc, .int ((names.map U.str).length : Nat)), none, none, none]
  have q1 : ∀ {c : Bool}, decide (0 < dd ds 2 % 3) = c → Run (tst Γ (.cmp .gt (.bin .mod (.idx (.var 0) (.cst (.int 2))) (.cst (.int 3))) (.cst (.int 0)))) S0 c S0 := fun h => by repeat' (first | exact aM i2 | exact mR h | sizeOf_list_dec)
  have q2 : ∀ {c : Bool}, decide (0 < dd ds 0 % ((names.map U.str).length : Nat)) = c → Run (tst Γ (.cmp .gt (.bin .mod (.idx (.var 0) (.cst (.int 0))) (.bi .len [(.var 1)])) (.cst (.int 0)))) S0 c S0 := fun h => by repeat' (first | exact aM i0 | exact bc hp | exact mR h | sizeOf_list_dec)
  have s2 : Run (ev Γ (.bi .len [(.var 1)])) [some (.any, .lst (ds.map .int)), some (.any, .lst (names.map .str)), none, none, none, none] (.loc, .int ((names.map U.str).length : Nat)) [some (.any, .lst (ds.map .int)), some (.any, .lst (names.map .str)), none, none, none, none] := by repeat' sizeOf_list_dec
  have s3 : Run (ev Γ (.bin .mod (.idx (.var 0) (.cst (.int 0))) (.bi .len [(.var 1)]))) S0 (.loc, .int (dd ds 0 % ((names.map U.str).length : Nat))) S0 := by repeat' (first | exact aM i0 | exact bc hp | sizeOf_list_dec)
  by_cases c1 : 0 < dd ds 2 % 3
  · by_cases c2 : 0 < dd ds 0 % ((names.map U.str).length : Nat)
    · exact fin (dd ds 0 % ((names.map U.str).length : Nat)) c2 (by omega) fun h => aw s2 aA (eh (j3 (oK (q1 (decide_eq_true c1)) (dC (q2 (decide_eq_true c2))))) (aw s3 aA aT) h)
    · exact fin ((names.map U.str).length : Nat) hp (by omega) fun h => aw s2 aA (cj (j3 (oK (q1 (decide_eq_true c1)) (dC (q2 (decide_eq_false c2))))) aT h)
  · exact fin ((names.map U.str).length : Nat) hp (by omega) fun h => aw s2 aA (cj (j3 (tf (q1 (decide_eq_false c1)))) aT h)
end TM
namespace TM
open PySem L2 W01
theorem mV {Γ:Tab}{st st1 st2 st3 st4:ak}{i:Nat}{ke ve:E}{ss:List S}{rv rk:Kd×U}{k k':Kd}{uv uk u' u0 u1:U}{f:Fl} (h1:Run (ev Γ ve) st rv st1) (h2:st1[i]?=some (some (k',u'))) (h3:Run (ev Γ ke) st1 rk st2) (h4:Run (cw [rv,rk]) st2 [uv,uk] st3) (h5:st3[i]?=some (some (k,u0))) (hk:k.root=true) (h6:fX uk uv u0=some u1)
  (h7:Run (execs Γ ss) (st3.set i (some (k,u1))) f st4) (hn:k'≠.ownD:=by intro z;cases z):Run (execs Γ (.put i ke ve::ss)) st f st4:=by
 refine iV (ab h1 (ab (iU h2 hn) (ab h3 (ab h4 (ab (a:=()) (st1:=st3.set i (some (k,u1))) ?_ aX))))) h7
 show modS i (pH [uv,uk]) st3=_
 unfold modS
 rw [h5]
 simp only [hk,if_true]
 show (match fX uk uv u0 with|some u'=>_|none=>none)=_
 rw [h6]
noncomputable abbrev Row:=Str×List Str
noncomputable def rwU (r:Row):U:=.tup [.str r.1,.tup (r.2.map .str)]
noncomputable def keyOf (r:Row):Row:=(r.1,bo r.2)
theorem j6 (r:Row):rowOf (rwU r)=some r:=by
 show (strsOf (r.2.map U.str)).map _=_
 rw [cH]
 rfl
theorem sorted_strs {k:Kd}{ss:List Str} (h:ss.length<64):biU .sorted [(k,.tup (ss.map .str))]=some (.own,.lst ((bo ss).map .str)):=by
 show (strsOf (ss.map U.str)).bind _=_
 rw [cH]
 show (if ss.length<64 then _ else _)=_
 rw [if_pos h]
noncomputable def tH : Fn := ⟨"_law_book", 4, 10,
   [.set 4 (.lst []),
    .set 5 (.dnew true),
    .for_ false [6] .rng1 [(.var 3)]
      [.set 7 (.call "_law_drawn" [(.call "_law_cell" [(.var 0), (.bin .add (.var 1) (.var 6))]), (.cst (.int 11))]),
      .set 8 (.tup [(.idx (.var 2) (.bin .mod (.idx (.var 7) (.cst (.int 0))) (.bi .len [(.var 2)]))), (.call "_law_told" [(.var 7), (.var 2)])]),
      .set 9 (.tup [(.idx (.var 8) (.cst (.int 0))), (.bi .tuple [(.bi .sorted [(.idx (.var 8) (.cst (.int 1)))])])]),
      .ite (.cmp .notin (.var 9) (.var 5))
        [.put 5 (.var 9) (.cst (.bl true)),
        .app 4 (.var 8)]
        []],
    .ret (.bi .tuple [(.var 4)])]⟩
noncomputable def tI (Γ:Tab):Prop:=∀ (ds:List Int) (names:List Str),11≤ds.length→(∀ d∈ds,0≤d)→0<names.length →
 ∃ told:List Str,told.length≤8∧told.Nodup∧(∀ x∈told,x∈names)∧Γ "_law_told" [.lst (ds.map .int),.lst (names.map .str)]=some (.ok (.loc,.tup (told.map .str)))
structure cA (names:List Str) (r:Row):Prop where
 word:r.1∈names
 few:r.2.length≤8
 once:r.2.Nodup
 told:∀ x∈r.2,x∈names
theorem tJ {Γ : Tab} (hc : iZ Γ) (hd : gb Γ) (ht : tI Γ) {ns : List Int} {names : List Str} {b m : Nat} (hn : 0 < names.length) (hb : b < 1000) (hm : m < 1000) :
    ∃ rows : List Row, rows.length ≤ m ∧ (rows.map keyOf).Nodup ∧ (∀ r ∈ rows, cA names r) ∧ bN Γ tH [.lst (ns.map .int), .int (b : Nat), .lst (names.map .str), .int (m : Nat)] = some (.ok (.loc, .tup (rows.map rwU))) := by
  have hsz : (1000 : Nat) ≤ sizeLine := by decide
  let B := fun (us : List U) (ks : List dr) (o6 o7 o8 o9 : Option (Kd × U)) => ([some (.any, .lst (ns.map .int)), some (.loc, .int (b : Nat)), some (.any, .lst (names.map .str)), some (.loc, .int (m : Nat)), some (.own, .lst us), some (.own, .rdc ks), o6, o7, o8, o9] : ak)
  let I : List (Kd × U) → ak → Prop := fun xs st => ∃ (rows : List Row) (us : List U) (ks : List dr) (o6 o7 o8 o9 : Option (Kd × U)), st = B us ks o6 o7 o8 o9 ∧ us = rows.map rwU ∧ ks = rows.map keyOf ∧ ks.Nodup ∧ (∀ r ∈ rows, cA names r) ∧ rows.length + xs.length ≤ m ∧ dc m xs
  have hp : (0 : Int) < ((names.map U.str).length : Nat) := by simp; omega
  have loop := mQ (t := false) (is := [6]) (body := execs Γ [.set 7 (.call "_law_drawn" [(.call "_law_cell" [(.var 0), (.bin .add (.var 1) (.var 6))]), (.cst (.int 11))]),
      .set 8 (.tup [(.idx (.var 2) (.bin .mod (.idx (.var 7) (.cst (.int 0))) (.bi .len [(.var 2)]))), (.call "_law_told" [(.var 7), (.var 2)])]),
      .set 9 (.tup [(.idx (.var 8) (.cst (.int 0))), (.bi .tuple [(.bi .sorted [(.idx (.var 8) (.cst (.int 1)))])])]),
      .ite (.cmp .notin (.var 9) (.var 5))
        [.put 5 (.var 9) (.cst (.bl true)),
        .app 4 (.var 8)]
        []]) (rs := [(.loc, .int (m : Nat))]) I (fun _ _ _ => trivial) (fun x xs st hIx => by
    obtain ⟨rows, us, ks, o6, o7, o8, o9, e, e2, e3, hnd, hw, hl, hr⟩ := hIx
    subst e
    obtain ⟨i, hi, rfl, hr', hlen⟩ := hr.cons
    rw [List.length_cons] at hl
    obtain ⟨z, hz⟩ := hc ns (b + i) (by omega)
    rw [Int.natCast_add] at hz
    obtain ⟨ds, d1, d2, d3⟩ := hd z 11 (by omega)
    obtain ⟨told, t1, t2, t3, t4⟩ := ht ds names (by omega) d2 hn
    have i0 : atI (ds.map U.int) 0 = some (.int (dd ds 0)) := bU (i := 0) (by omega)
    obtain ⟨nm, hnm, hna⟩ := qh (xs := names) (t := ((names.map U.str).length : Nat)) (dO d2 0) hp (by simp)
    have hrow : cA names (nm, told) := ⟨hnm, t1, t2, t3⟩
    have j0 : eR (.loc, rwU (nm, told)) (.int 0) = some (.loc, .str nm) := rfl
    have j1 : eR (.loc, rwU (nm, told)) (.int 1) = some (.loc, .tup (told.map .str)) := rfl
    have srt := sorted_strs (k := .loc) (ss := told) (by omega)
    let i6 : Option (Kd × U) := some (.loc, .int (i : Nat))
    let i7 : Option (Kd × U) := some (.own, .lst (ds.map .int))
    let i8 : Option (Kd × U) := some (.loc, rwU (nm, told))
    let i9 : Option (Kd × U) := some (.loc, rwU (keyOf (nm, told)))
    have g7 : Run (ev Γ (.call "_law_drawn" [(.call "_law_cell" [(.var 0), (.bin .add (.var 1) (.var 6))]), (.cst (.int 11))])) (B us ks i6 o7 o8 o9) (.own, .lst (ds.map .int)) (B us ks i6 o7 o8 o9) := by repeat' (first | exact hz | exact d3 | sizeOf_list_dec)
    have g8 : Run (ev Γ (.tup [(.idx (.var 2) (.bin .mod (.idx (.var 7) (.cst (.int 0))) (.bi .len [(.var 2)]))), (.call "_law_told" [(.var 7), (.var 2)])])) (B us ks i6 i7 o8 o9) (.loc, rwU (nm, told)) (B us ks i6 i7 o8 o9) := by
      repeat' (first | exact aM i0 | exact bc hp | exact aM hna | exact t4 | exact mN rfl | exact (by decide : (2 : Nat) ≤ sizeLine) | sizeOf_list_dec)
    have g9 : Run (ev Γ (.tup [(.idx (.var 8) (.cst (.int 0))), (.bi .tuple [(.bi .sorted [(.idx (.var 8) (.cst (.int 1)))])])])) (B us ks i6 i7 i8 o9) (.loc, rwU (keyOf (nm, told))) (B us ks i6 i7 i8 o9) := by
      repeat' (first | exact j0 | exact j1 | exact srt | exact (by decide : (2 : Nat) ≤ sizeLine) | sizeOf_list_dec)
    have hni : bz .notin (rwU (keyOf (nm, told))) (.rdc ks) = some (decide (keyOf (nm, told) ∉ ks)) := by
      show (((rowOf (rwU (keyOf (nm, told)))).map fun r => decide (r ∈ ks))).map (!·) = _
      rw [j6]
      simp
    by_cases hin : keyOf (nm, told) ∈ ks
    · refine ⟨B us ks i6 o7 o8 o9, B us ks i6 i7 i8 i9, aA, aw g7 a_ (aw g8 aA (aw g9 aA (cj ?_ aT aT))), ⟨rows, us, ks, _, _, _, _, rfl, e2, e3, hnd, hw, by omega, hr'⟩⟩
      have : bz .notin (rwU (keyOf (nm, told))) (.rdc ks) = some false := by rw [hni]; simp [hin]
      exact b9 (af rfl) (av rfl) ⟨⟨.own, rfl, rfl⟩, trivial⟩ this
    · refine ⟨B us ks i6 o7 o8 o9, B (us ++ [rwU (nm, told)]) (ks ++ [keyOf (nm, told)]) i6 i7 i8 i9, aA, aw g7 a_ (aw g8 aA (aw g9 aA (eh (st1 := B us ks i6 i7 i8 i9) (st2 := B (us ++ [rwU (nm, told)]) (ks ++ [keyOf (nm, told)]) i6 i7 i8 i9) ?_ ?_ aT))), ⟨rows ++ [(nm, told)], _, _, _, _, _, _, rfl, by simp [e2], by simp [e3], ?_, ?_, by simp; omega, hr'⟩⟩
      · have : bz .notin (rwU (keyOf (nm, told))) (.rdc ks) = some true := by rw [hni]; simp [hin]
        exact b9 (af rfl) (av rfl) ⟨⟨.own, rfl, rfl⟩, trivial⟩ this
      · have hput : fX (rwU (keyOf (nm, told))) (.bl true) (.rdc ks) = some (.rdc (ks ++ [keyOf (nm, told)])) := by
          show (match rowOf (rwU (keyOf (nm, told))), U.bl true with | some r, .bl true => if r ∉ ks ∧ ks.length ≤ 1000 then some (U.rdc (ks ++ [r])) else none | _, _ => none) = _
          rw [j6]
          show (if keyOf (nm, told) ∉ ks ∧ ks.length ≤ 1000 then _ else _) = _
          rw [if_pos ⟨hin, by rw [e3, List.length_map]; omega⟩]
        exact mV (st1 := B us ks i6 i7 i8 i9) (st2 := B us ks i6 i7 i8 i9) (st3 := B us ks i6 i7 i8 i9) (k := .own) (k' := .own) ay rfl (af rfl) (aK aS (aK aS br)) rfl rfl hput
          (gH (st1 := B us (ks ++ [keyOf (nm, told)]) i6 i7 i8 i9) (st2 := B us (ks ++ [keyOf (nm, told)]) i6 i7 i8 i9) (k := .own) (k' := .own) (us := us) (us' := us) rfl (af rfl) aS rfl rfl (by rw [e2, List.length_map]; omega) aT)
      · rw [List.nodup_append]
        exact ⟨hnd, by simp, fun y hy w hw' => by have : w = keyOf (nm, told) := by simpa using hw'
                                                  subst this; rintro rfl; exact hin hy⟩
      · intro y hy
        rcases List.mem_append.mp hy with h | h
        · exact hw y h
        · rw [List.mem_singleton.mp h]; exact hrow)
  obtain ⟨st', hrun, rows, us, ks, o6, o7, o8, o9, e, e2, e3, hnd, hw, hl, _⟩ := loop ((List.range m).map fun i : Nat => (Kd.loc, U.int (0 + (i : Int)))) (B [] [] none none none none) ⟨[], [], [], none, none, none, none, rfl, rfl, rfl, by simp, by simp, by simp, dc.all m⟩
  subst e e2 e3
  refine ⟨rows, by simpa using hl, hnd, hw, ?_⟩
  have hit := iX (k := .loc) (n := m) (by omega)
  exact aL (st0 := [some (.any, .lst (ns.map .int)), some (.loc, .int (b : Nat)), some (.any, .lst (names.map .str)), some (.loc, .int (m : Nat)), none, none, none, none, none, none]) rfl (.inr rfl) rfl
    (aw (r := (.own, .lst [])) (ef ao trivial br (Nat.zero_le _)) a_ (aw (r := (.own, .rdc [])) oJ a_ (da (rs := [(.loc, .int (m : Nat))]) (st1 := B [] [] none none none none) (ae (af rfl) ao) trivial hit rfl hrun
      (cE (cV (ae (av rfl) ao) ⟨⟨.own, rfl, rfl⟩, trivial⟩ rfl) dN))))
end TM
namespace TM
open PySem L2 W01
noncomputable def qi (Γ:Tab):Prop:=∀ (ns:List Int) (b m:Nat),b<1000→m<40→∃ names:List Str,names.length=m∧names.Nodup∧(∀ x∈names,bb x.cps.toList)∧Γ "_law_names" [.lst (ns.map .int),.int (b:Nat),.int (m:Nat)]=some (.ok (.own,.lst (names.map .str)))
noncomputable def tK (Γ:Tab):Prop:=∀ (ns:List Int) (names:List Str) (b m:Nat),0<names.length→b<1000→m<1000 →
 ∃ rows:List Row,rows.length≤m∧(rows.map keyOf).Nodup∧(∀ r∈rows,cA names r)∧Γ "_law_book" [.lst (ns.map .int),.int (b:Nat),.lst (names.map .str),.int (m:Nat)]=some (.ok (.loc,.tup (rows.map rwU)))
section
variable {Pg : List Fn} {d : Nat}
noncomputable def Has (Pg:List Fn) (f:Str) (fn:Fn):Prop:=(Pg.find? fun g=>decide (g.name=f))=some fn
theorem aE {fn:Fn}{f:Str} (h:Has Pg f fn) (us:List U):sem Pg (d+1) f us=bN (sem Pg d) fn us:=by
 show (match Pg.find? fun g=>decide (g.name=f) with|some fn=>bN (sem Pg d) fn us|none=>none)=_
 rw [show _=some fn from h]
theorem wj (h:Has Pg "_law_mix" qZ):tw (sem Pg (d+1)):=fun c k h0 h1=>by rw [aE h];exact vA h0 h1
theorem i_ (h:Has Pg "_law_mix" qZ) (h2:Has Pg "_law_cell" qf):iZ (sem Pg (d+2)):=fun ns k hk=>⟨_,by rw [aE h2];exact tB (wj h) hk⟩
theorem drawnOk (h:Has Pg "_law_mix" qZ) (h2:Has Pg "_law_drawn" lu):gb (sem Pg (d+2)):=fun c n hn=>by
 obtain ⟨ds,a,b,e⟩:=q9 (wj (d:=d) h) (c:=c) hn
 exact ⟨ds,a,b,by rw [aE h2];exact e⟩
theorem x8 {md:E} (hmd:vB md) (h:Has Pg "_law_name" (ly md)):tE (sem Pg (d+1)):=fun ds names a b c e=>by
 obtain ⟨x,p,q,r⟩:=tD (Γ:=sem Pg d) hmd a b c e
 exact ⟨x,p,q,by rw [aE h];exact r⟩
theorem x9 (h:Has Pg "_law_told" gI):tI (sem Pg (d+1)):=fun ds names a b c=>by
 obtain ⟨x,p,q,r,s⟩:=tF (Γ:=sem Pg d) a b c
 exact ⟨x,p,q,r,by rw [aE h];exact s⟩
structure cu (md:E) (Pg:List Fn):Prop where
 mix:Has Pg "_law_mix" qZ
 cell:Has Pg "_law_cell" qf
 drawn:Has Pg "_law_drawn" lu
 name:Has Pg "_law_name" (ly md)
 names:Has Pg "_law_names" fNames
 told:Has Pg "_law_told" gI
 book:Has Pg "_law_book" tH
theorem cu.i_ {md:E} (M:cu md Pg):iZ (sem Pg (d+2)):=TM.i_ M.mix M.cell
theorem cu.drawnOk {md:E} (M:cu md Pg):gb (sem Pg (d+2)):=TM.drawnOk M.mix M.drawn
theorem cu.tL {md:E} (hmd:vB md) (M:cu md Pg):qi (sem Pg (d+3)):=fun ns b m hb hm=>by
 obtain ⟨names,p,q,r,s⟩:=rg (Γ:=sem Pg (d+2)) M.i_ M.drawnOk (TM.x8 hmd M.name) (ns:=ns) hb hm
 exact ⟨names,p,q,r,by rw [aE M.names];exact s⟩
theorem cu.x_ {md:E} (M:cu md Pg):tK (sem Pg (d+3)):=fun ns names b m hn hb hm=>by
 obtain ⟨rows,p,q,r,s⟩:=tJ (Γ:=sem Pg (d+2)) M.i_ M.drawnOk (TM.x9 M.told) (ns:=ns) hn hb hm
 exact ⟨rows,p,q,r,by rw [aE M.book];exact s⟩
end
end TM
namespace TM
open PySem L2 W01
section
variable {Γ : Tab} {st st1 st2 st3 st4 : ak}
theorem j8 {a ss:List S}{f:Fl} (h:Run (execs Γ (a++ss)) st f st2):(∃ s1,Run (execs Γ a) st .nx s1∧Run (execs Γ ss) s1 f st2)∨(Run (execs Γ a) st f st2∧f≠.nx):=by
 induction a generalizing st with
 |nil=>exact .inl ⟨st,aT,h⟩
 |cons s a ih =>
  have h':M.bind (exec Γ s) (fun f=>match f with|.nx=>execs Γ (a++ss)|f=>pure f) st=some (.ok f,st2):=h
  unfold M.bind at h'
  cases e:exec Γ s st with
  |none=>rw [e] at h';cases h'
  |some p =>
   obtain ⟨x,s1⟩:=p
   rw [e] at h'
   cases x with
   |exc c=>cases h'
   |ok g =>
    cases g with
    |nx =>
     rcases ih h' with ⟨s2,h1,h2⟩|⟨h1,h2⟩
     ·exact .inl ⟨s2,iV e h1,h2⟩
     ·exact .inr ⟨iV e h1,h2⟩
    |rt k u=>cases h';exact .inr ⟨tp e,fun z=>nomatch z⟩
    |bk=>cases h';exact .inr ⟨ab (show Run (exec Γ s) st Fl.bk _ from e) aX,fun z=>nomatch z⟩
    |ct=>cases h';exact .inr ⟨ab (show Run (exec Γ s) st Fl.ct _ from e) aX,fun z=>nomatch z⟩
theorem zl {s:S}{ss:List S}{f:Fl} (h1:Run (exec Γ s) st f st1) (hf:f≠.nx):Run (execs Γ (s::ss)) st f st1:=by
 cases f with
 |nx=>exact absurd rfl hf
 |rt k u=>exact tp h1
 |bk=>exact ab h1 aX
 |ct=>exact ab h1 aX
theorem gc {c:E}{a b ss:List S}{p:Bool}{f:Fl} (h1:Run (tst Γ c) st p st1) (hT:p=true→Run (execs Γ (a++ss)) st1 f st2) (hF:p=false→Run (execs Γ (b++ss)) st1 f st2):Run (execs Γ (.ite c a b::ss)) st f st2:=by
 cases p with
 |true =>
  rcases j8 (hT rfl) with ⟨s1,h2,h3⟩|⟨h2,h3⟩
  ·exact iV (lp h1 h2) h3
  ·exact zl (lp h1 h2) h3
 |false =>
  rcases j8 (hF rfl) with ⟨s1,h2,h3⟩|⟨h2,h3⟩
  ·exact iV (oM h1 h2) h3
  ·exact zl (oM h1 h2) h3
theorem zm {e e2:E}{es:List E}{p q:Bool} (h:Run (tst Γ e) st p st) (h2:p=false→Run (d7 Γ (e2::es)) st q st):Run (d7 Γ (e::e2::es)) st (p||q) st:=by
 cases p with
 |true=>exact zg h
 |false=>exact qa h (h2 rfl)
theorem oO {e e2:E}{es:List E}{p q:Bool} (h:Run (tst Γ e) st p st) (h2:p=true→Run (aU Γ (e2::es)) st q st):Run (aU Γ (e::e2::es)) st (p&&q) st:=by
 cases p with
 |true=>exact oK h (h2 rfl)
 |false=>exact tf h
theorem ja {α:Type}{cond:M Bool}{elt:M (Kd×U)}{src:List (Kd×U)} (h:ba src st) (k:Kd) (hk:k=.loc∨k=.any) (enc g:α→U) (kd:Kd) (hc:∀ y,Run cond (some (k,enc y)::st) true (some (k,enc y)::st)):∀ (ys:List α) (acc:List U),acc.length+ys.length≤sizeLine →
  (∀ y∈ys,Run elt (some (k,enc y)::st) (kd,g y) (some (k,enc y)::st)∧Run (lift (kd,g y)) (some (k,enc y)::st) (g y) (some (k,enc y)::st))→Run (bA 1 false cond elt src (ys.map fun y=>(k,enc y)) acc) st (acc++ys.map g) st
 |[],acc,_,_=>by rw [List.map_nil,List.map_nil,List.append_nil];exact qd h
 |y::ys,acc,hl,hx=>by
  obtain ⟨h2,h3⟩:=hx y (by simp)
  rw [List.length_cons] at hl
  refine lq (s1:=some (k,enc y)::st) (s2:=some (k,enc y)::st) (s3:=some (k,enc y)::st) (s4:=some (k,enc y)::st) h ?_ (hc y) h2 h3 (by omega) ?_
  ·rcases hk with rfl|rfl
   ·exact cm aA
   ·exact cm j5
  ·have:=ja h k hk enc g kd hc ys (acc++[g y]) (by simp;omega) fun z hz=>hx z (by simp [hz])
   rw [List.map_cons]
   simpa using this
theorem jb {α:Type}{cond:M Bool}{elt:M (Kd×U)}{src:List (Kd×U)} (h:ba src st) (k:Kd) (hk:k=.loc∨k=.any) (enc g:α→U) (p:α→Bool) (kd:Kd):∀ (ys:List α) (acc:List U),acc.length+ys.length≤sizeLine →
  (∀ y∈ys,Run cond (some (k,enc y)::st) (p y) (some (k,enc y)::st)∧(p y=true→Run elt (some (k,enc y)::st) (kd,g y) (some (k,enc y)::st)∧Run (lift (kd,g y)) (some (k,enc y)::st) (g y) (some (k,enc y)::st)))→Run (bA 1 false cond elt src (ys.map fun y=>(k,enc y)) acc) st (acc++(ys.filter p).map g) st
 |[],acc,_,_=>by rw [List.map_nil,List.filter_nil,List.map_nil,List.append_nil];exact qd h
 |y::ys,acc,hl,hx=>by
  obtain ⟨h1,h23⟩:=hx y (by simp)
  rw [List.length_cons] at hl
  have ht:Run (c7 false (List.range 1) (k,enc y)) (List.replicate 1 none++st) () (some (k,enc y)::st):=by
   rcases hk with rfl|rfl
   ·exact cm aA
   ·exact cm j5
  cases hp:p y with
  |true =>
   rw [hp] at h1
   obtain ⟨h2,h3⟩:=h23 hp
   refine lq (s1:=some (k,enc y)::st) (s2:=some (k,enc y)::st) (s3:=some (k,enc y)::st) (s4:=some (k,enc y)::st) h ht h1 h2 h3 (by omega) ?_
   have:=jb h k hk enc g p kd ys (acc++[g y]) (by simp;omega) fun z hz=>hx z (by simp [hz])
   rw [List.filter_cons,if_pos hp,List.map_cons]
   simpa using this
  |false =>
   rw [hp] at h1
   refine tq (s1:=some (k,enc y)::st) (s2:=some (k,enc y)::st) h ht h1 ?_
   have:=jb h k hk enc g p kd ys acc (by omega) fun z hz=>hx z (by simp [hz])
   rw [List.filter_cons,if_neg (by simp [hp])]
   exact this
theorem fo {α:Type}{t:Bool}{is:List Nat}{body:M Fl}{rs:List (Kd×U)} (it:α→Kd×U) (I:List α→List α→ak→Prop) (hs:∀ d r st,I d r st→ba rs st)
  (step:∀ d y r st,I d (y::r) st→∃ st1 st2,Run (c7 t is (it y)) st () st1∧Run body st1 .nx st2∧I (d++[y]) r st2):∀ (r d:List α) (st:ak),I d r st→∃ st',Run (forM t is body rs (r.map it)) st .nx st'∧I (d++r) [] st'
 |[],d,st,h=>⟨st,mO (hs _ _ _ h),by rw [List.append_nil];exact h⟩
 |y::r,d,st,h=>by
  obtain ⟨s1,s2,h1,h2,h3⟩:=step d y r st h
  obtain ⟨s3,h4,h5⟩:=fo it I hs step r (d++[y]) s2 h3
  exact ⟨s3,mP (hs _ _ _ h) h1 h2 h4,by simpa using h5⟩
theorem tM {f:Str}{es:List E}{rs:List (Kd×U)}{r:Kd×U}{b:Bool} (h1:Run (bB Γ es) st rs st1) (h2:ba rs st1) (h3:Γ f (rs.map (·.2))=some (.ok r)) (h4:jz r.2=some b):Run (tst Γ (.call f es)) st b st1:=ab h1 (ab (aW h2) (ab (p_ h3) (cL h4)))
theorem ya {f:Bf}{es:List E}{k:Kd}{b:Bool} (h:Run (ev Γ (.bi f es)) st (k,.bl b) st1):Run (tst Γ (.bi f es)) st b st1:=by
 have h':(bB Γ es >>= fun rs=>ar rs >>= fun _=>M.ofO (biU f rs)) st=some (.ok (k,.bl b),st1):=h
 obtain ⟨rs,s1,e1,e2,s2,e3,r,s3,e4,e5⟩:∃ rs s1,bB Γ es st=some (.ok rs,s1)∧∃ (a:Unit) (s2:ak),ar rs s1=some (.ok a,s2)∧∃ r s3,M.ofO (biU f rs) s2=some (.ok r,s3)∧(r,s3)=((k,U.bl b),st1):=by
  have w:W (bB Γ es >>= fun rs=>ar rs >>= fun _=>M.ofO (biU f rs)) st fun r s=>(r,s)=((k,U.bl b),st1):=⟨_,_,h',rfl⟩
  rw [ag] at w
  obtain ⟨rs,s1,e1,w⟩:=w
  rw [ag] at w
  obtain ⟨a,s2,e2,w⟩:=w
  obtain ⟨r,s3,e3,w⟩:=w
  exact ⟨rs,s1,e1,a,s2,e2,r,s3,e3,w⟩
 cases e5
 exact ab e1 (ab (a:=e2) e3 (ab e4 (cL rfl)))
theorem zo {i:Nat}{e:E}{ss:List S}{k k':Kd}{r:Kd×U}{us us' zs:List U}{f:Fl} (h0:st[i]?=some (some (k',.lst us'))) (h1:Run (ev Γ e) st r st1) (h3:st1[i]?=some (some (k,.lst us))) (hk:k.root=true) (hr:jB r (.lst us)=some (.lst zs))
  (h4:Run (execs Γ ss) (st1.set i (some (k,.lst zs))) f st3) (hn:k'≠.ownD:=by intro z;cases z):Run (execs Γ (.ext i e::ss)) st f st3:=by
 refine iV (ab (iU h0 hn) (ab (a:=()) (st1:=st) rfl (ab h1 (ab (a:=()) (st1:=st1.set i (some (k,.lst zs))) ?_ aX)))) h4
 show modS i (jB r) st1=_
 unfold modS
 rw [h3]
 simp only [hk,if_true]
 rw [hr]
end
theorem vD {k:Kd}{xs ys:List U} (h:xs.length+ys.length≤sizeLine) (hs:fV k ys=true):jB (k,.tup ys) (.lst xs)=some (.lst (xs++ys)):=by
 show (if xs.length+ys.length≤sizeLine∧fV k ys=true then _ else _)=_
 rw [if_pos ⟨h,hs⟩]
end TM
namespace TM
open PySem L2 W01
theorem j_:∀ ss:List Str,fU (ss.map U.str)=true
 |[]=>by simp [fU]
 |s::ss=>by simp [fU,imm,j_ ss]
theorem eN (r:Row):imm (rwU r)=true:=by simp [rwU,imm,fU,j_]
theorem bX:∀ rs:List Row,fU (rs.map rwU)=true
 |[]=>by simp [fU]
 |r::rs=>by simp [fU,eN,bX rs]
theorem fq:∀ (a b:List Str),bH (a.map U.str) (b.map U.str)=decide (a=b)
 |[],[]=>by simp [bH]
 |[],_::_=>by simp [bH]
 |_::_,[]=>by simp [bH]
 |x::a,y::b=>by
  rw [List.map_cons,List.map_cons,bH,fq a b]
  simp only [a5]
  by_cases h:x=y
  ·subst h;simp
  ·simp [h]
theorem rh (a b:Row):a5 (rwU a) (rwU b)=decide (a=b):=by
 obtain ⟨a1,a2⟩:=a
 obtain ⟨b1,b2⟩:=b
 simp only [rwU,a5,bH,Bool.and_true,fq]
 by_cases h:a1=b1
 ·subst h;simp
 ·simp [h]
theorem qj (r:Row):eqD 50 (rwU r)=true:=by
 simp [rwU,eqD,b8,de]
theorem vE {op:Bool}{a b:Row}:bz .eq (rwU a) (rwU b)=some (decide (a=b)):=by
 simp only [bz]
 rw [if_pos ⟨qj a,qj b⟩,rh]
theorem ft (ss:List Str) (n:Nat):eqD (n+1) (.lst (ss.map U.str))=true:=by simp [eqD,de]
theorem tN {a b:List Str}:bz .eq (.lst (a.map U.str)) (.lst (b.map U.str))=some (decide (a=b)):=by
 simp only [bz]
 rw [if_pos ⟨ft a 49,ft b 49⟩]
 simp only [a5,fq]
theorem vF {a b:Str}:bz .eq (.str a) (.str b)=some (decide (a=b)):=by
 simp only [bz]
 rw [if_pos ⟨rfl,rfl⟩]
 simp only [a5]
 by_cases h:a=b
 ·subst h;simp
 ·simp [h]
theorem qk {α β:Type} (f:α→β) (xs:List α) (lo hi:Option Int):cut (xs.map f) lo hi=(cut xs lo hi).map f:=by simp [cut,List.map_take,List.map_drop]
theorem ql {α:Type} (xs:List α) (lo hi:Option Int):(cut xs lo hi).length≤xs.length:=by simp [cut];omega
theorem qm {k:Kd}{ss:List Str}{lo hi:Option Int} (h:fV k (ss.map U.str)=true):jy (k,.lst (ss.map .str)) lo hi=some (.own,.lst ((cut ss lo hi).map .str)):=by
 simp only [jy]
 rw [if_pos h,qk]
theorem qo {α:Type}{xs:List α}{lo hi:Option Int}{x:α} (h:x∈cut xs lo hi):x∈xs:=List.mem_of_mem_drop (List.mem_of_mem_take h)
end TM
namespace TM
open PySem L2 W01
theorem mW {k:Kd}{acc:List Str} (h:acc.length<4000) (h2:(aJ acc).length<64):oh .sset [(k,.lst (acc.map .str))]=some (.own,.lst ((bo (aJ acc)).map .str)):=by
 have e:mG (.lst (acc.map U.str))=some (aJ acc):=by
  show (strsOf (acc.map U.str)).bind _=_
  rw [cH]
  show (if acc.length+1<scanBound then _ else _)=_
  rw [if_pos (by show acc.length+1<4096;omega)]
 show (mG (.lst (acc.map U.str))).bind _=_
 rw [e]
 show (if (aJ acc).length<64 then _ else _)=_
 rw [if_pos h2]
theorem gJ {α β:Type}{f:α→β}:∀ {l:List α},(∀ x∈l,∀ y∈l,f x=f y→x=y)→l.Nodup→(l.map f).Nodup
 |[],_,_=>List.nodup_nil
 |a::l,h,n=>by
  rw [List.nodup_cons] at n
  rw [List.map_cons,List.nodup_cons]
  refine ⟨fun z=>?_,gJ (fun x hx y hy=>h x (by simp [hx]) y (by simp [hy])) n.2⟩
  obtain ⟨b,hb,e⟩:=List.mem_map.mp z
  exact n.1 (h b (by simp [hb]) a (by simp) e ▸ hb)
theorem tP (l:List Str):(bo (aJ l)).Nodup:=(b_ _).nodup_iff.mpr (fQ l)
theorem yb (l:List Str) (x:Str):x∈bo (aJ l)↔x∈l:=by rw [(b_ _).mem_iff,iu]
theorem oP {l names:List Str} (h:∀ x∈l,x∈names):(aJ l).length≤names.length:=f_ (fQ l) fun x hx=>h x ((iu l x).mp hx)
section
variable {Γ : Tab}
end
structure AW (names:List Str) (rows:List Row) (n:Nat):Prop where
 pos:0<names.length
 few:names.length≤14
 once:names.Nodup
 word:∀ x∈names,bb x.cps.toList
 len:rows.length≤n
 keys:(rows.map keyOf).Nodup
 ok:∀ r∈rows,cA names r
end TM
namespace TM
open PySem L2 W01
section
variable {Γ : Tab} {st st1 st2 : ak}
theorem zp {out:Str}:Run (evF Γ [] out) st out st:=rfl
theorem oQ {e:E}{es:List E}{x:Kd×U}{out y z:Str} (h1:Run (ev Γ e) st x st1) (h2:jA x.2 out=some y) (h3:Run (evF Γ es y) st1 z st2):Run (evF Γ (e::es) out) st z st2:=ab h1 (ab (cL h2) h3)
theorem zq {es:List E}{z:Str} (h:Run (evF Γ es Str.empty) st z st1):Run (ev Γ (.fst es)) st (.loc,.str z) st1:=ab h aX
theorem tQ {a:E}{T:Ty5}{x:Kd×U}{b:Bool} (h1:Run (ev Γ a) st x st1) (h2:oi x.2 T=some b):Run (tst Γ (.isi a T)) st b st1:=ab h1 (cL h2)
end
theorem ei {k k':Kd}{xs ys:List U} (h:xs.length+ys.length≤sizeLine) (h1:fV k xs=true) (h2:fV k' ys=true):opU .add (k,.lst xs) (k',.lst ys)=some (.own,.lst (xs++ys)):=by
 simp only [opU,qP]
 rw [if_pos ⟨h,h1,h2⟩]
theorem lA (x y:Str):(x++y).cps.toList=x.cps.toList++y.cps.toList:=by
 show (x.cps++y.cps).toList=_
 simp
theorem str_len (x y:Str):(x++y).length=x.length+y.length:=by rw [len_list,len_list,len_list,lA,List.length_append]
theorem eE {x y:Str} (h:x.cps.toList=y.cps.toList):x=y:=by
 obtain ⟨a⟩:=x
 obtain ⟨b⟩:=y
 have:a=b:=Array.toList_inj.mp h
 rw [this]
theorem empty_app (x:Str):Str.empty++x=x:=eE (by rw [lA];rfl)
theorem qp {y out:Str} (h1:y.length≤1000) (h2:out.length≤1000):jA (.str y) out=some (out++y):=by
 have hsz:(4000:Nat)≤sizeLine:=by decide
 simp only [jA]
 rw [if_pos ⟨by omega,by rw [str_len];omega⟩]
theorem vG {k:Int}{out:Str} (h0:0≤k) (h9:k≤99) (h2:out.length≤1000):jA (.int k) out=some (out++fL k):=by
 have hsz:(4000:Nat)≤sizeLine:=by decide
 have hl:=c_ h0 h9
 simp only [jA]
 rw [if_pos ⟨by
  by_cases hz:k=0
  ·subst hz;decide
  ·have:k.natAbs<2 ^ 7:=by omega
   have h2:k.natAbs≠0:=by omega
   have:=(Nat.log2_lt h2).mpr this
   omega,by rw [str_len];show out.length+(fL k).length≤sizeLine;omega⟩]
 rfl
theorem rj {x:Str} (h:bb x.cps.toList):∃ y r,Txt.split x dU=y::r∧(Txt.partition x dU).1=y∧y.length≤8:=by
 rcases h with h|⟨a,b,k,e,h,_⟩
 ·exact ⟨x,[],ig (cZ h),by rw [show dU=⟨#[47]⟩ from rfl,W01.gi (cZ h)],by rw [len_list];exact ((bM _).mp h).2.1⟩
 ·obtain ⟨r,e'⟩:=l7 e (cZ h) (by decide)
  exact ⟨_,r,e',by rw [show dU=⟨#[47]⟩ from rfl,W01.uD e (cZ h)],by rw [len_list];simpa using ((bM _).mp h).2.1⟩
noncomputable def bt (rows:List Row):List Str:=(rows.map fun r=>r.1::r.2).flatten
noncomputable def au (rows:List Row):List Str:=bo (aJ (bt rows))
theorem gK (d:List Row) (y:Row):bt (d++[y])=bt d++[y.1]++y.2:=by simp [bt]
theorem fu {rows:List Row}{x:Str}:x∈bt rows↔∃ r∈rows,x=r.1∨x∈r.2:=by
 simp only [bt,List.mem_flatten,List.mem_map]
 constructor
 ·rintro ⟨l,⟨r,hr,rfl⟩,hx⟩
  exact ⟨r,hr,List.mem_cons.mp hx⟩
 ·rintro ⟨r,hr,hx⟩
  exact ⟨_,⟨r,hr,rfl⟩,List.mem_cons.mpr hx⟩
theorem cF {rows:List Row}{names:List Str} (h:∀ r∈rows,cA names r):∀ x∈bt rows,x∈names:=by
 intro x hx
 obtain ⟨r,hr,hx⟩:=fu.mp hx
 rcases hx with rfl|hx
 ·exact (h r hr).word
 ·exact (h r hr).told x hx
theorem dE {rows:List Row} (h:∀ r∈rows,r.2.length≤8):(bt rows).length≤9 * rows.length:=by
 induction rows with
 |nil=>simp [bt]
 |cons r rows ih =>
  have h1:=h r (by simp)
  have h2:=ih fun s hs=>h s (by simp [hs])
  simp only [bt,List.map_cons,List.flatten_cons,List.length_append,List.length_cons] at h2 ⊢
  omega
theorem fv {rows:List Row}{x:Str}:x∈au rows↔x∈bt rows:=yb _ _
theorem dF (rows:List Row):(au rows).Nodup:=tP _
theorem cn {rows:List Row}{names:List Str} (h:∀ r∈rows,cA names r):(au rows).length≤names.length:=by
 show (bo (aJ (bt rows))).length≤_
 rw [dt]
 exact oP (cF h)
noncomputable def lB : Fn := ⟨"words_of", 1, 3,
   [.set 1 (.lst []),
    .for_ false [2] .seq [(.var 0)]
      [.app 1 (.idx (.var 2) (.cst (.int 0))),
      .ext 1 (.idx (.var 2) (.cst (.int 1)))],
    .ret (.bi2 .sset [(.var 1)])]⟩
theorem gf {Γ:Tab}{rows:List Row}{names:List Str} (hl:rows.length≤100) (hr:∀ r∈rows,cA names r) (hn:names.length<64):bN Γ lB [.tup (rows.map rwU)]=some (.ok (.own,.lst ((au rows).map .str))):=by
 have hsz:(4000:Nat)≤sizeLine:=by decide
 have hst:TM.start [.tup (rows.map rwU)] 3=[some (.loc,.tup (rows.map rwU)),none,none]:=by simp [TM.start,imm,bX]
 have h8:∀ r∈rows,r.2.length≤8:=fun r h=>(hr r h).few
 obtain ⟨st',hrun,_,o2,e⟩:=fo (t:=false) (is:=[2]) (body:=execs Γ [.app 1 (.idx (.var 2) (.cst (.int 0))),.ext 1 (.idx (.var 2) (.cst (.int 1)))]) (rs:=[(.loc,.tup (rows.map rwU))]) (fun r:Row=>(Kd.loc,rwU r))
  (fun d r st=>d++r=rows∧∃ o2,st=[some (.loc,.tup (rows.map rwU)),some (.own,.lst ((bt d).map .str)),o2]) (fun _ _ _ _=>trivial) (fun d y r st hIx=>by
   obtain ⟨hdr,o2,e⟩:=hIx
   subst e
   have hy:y∈rows:=by rw [←hdr];simp
   have hd8:=dE (rows:=d) fun s hs=>h8 s (by rw [←hdr];simp [hs])
   have hdl:d.length≤100:=by have:=congrArg List.length hdr;simp at this;omega
   have hy8:=h8 y hy
   refine ⟨[some (.loc,.tup (rows.map rwU)),some (.own,.lst ((bt d).map .str)),some (.loc,rwU y)],[some (.loc,.tup (rows.map rwU)),some (.own,.lst ((bt d).map .str++[.str y.1]++y.2.map .str)),some (.loc,rwU y)],cm aA,?_,by rw [←hdr];simp,some (.loc,rwU y),?_⟩
   ·exact gH (k:=.own) (k':=.own) (r:=(.loc,.str y.1)) rfl (bq (x:=(.loc,rwU y)) (af rfl) ay trivial rfl) aS rfl rfl (by rw [List.length_map];omega)
     (zo (k:=.own) rfl (bq (x:=(.loc,rwU y)) (af rfl) ay trivial rfl) rfl rfl (vD (by simp;omega) rfl) aT)
   ·rw [gK];simp) rows [] [some (.loc,.tup (rows.map rwU)),some (.own,.lst []),none] ⟨rfl,none,rfl⟩
 subst e
 have e5:(rows.map rwU).map (fun u=>(kE .loc,u))=rows.map fun r=>(Kd.loc,rwU r):=by rw [List.map_map];rfl
 have hwl:=dE h8
 have hdl:=oP (cF hr)
 exact aL rfl (.inl rfl) hst (aw (r:=(.own,.lst [])) (ef ao trivial br (Nat.zero_le _)) a_ (da (rs:=[(.loc,.tup (rows.map rwU))]) (ae (af rfl) ao) trivial rfl rfl (by rw [e5];exact hrun) (cE (s_ (ae (av rfl) ao) ⟨⟨.own,rfl,rfl⟩,trivial⟩ (mW (by omega) (by omega))) qb)))
theorem mX {ks:List Str}{us:List U}{x z:Str}{u:U}:z∈(dput ks us x u).1↔z∈ks∨z=x:=by
 unfold dput
 by_cases h:x∈ks
 ·rw [if_pos h]
  exact ⟨.inl,fun q=>q.elim id fun e=>e ▸ h⟩
 ·rw [if_neg h]
  simp
theorem mY {ks:List Str}{us:List U}{x:Str}{u:U}:(dput ks us x u).1.length≤ks.length+1:=by
 unfold dput
 by_cases h:x∈ks
 ·rw [if_pos h];exact Nat.le_succ _
 ·rw [if_neg h];simp
theorem gX {ks:List Str}{us:List U}{x:Str}{u:U} (h:ks.length<1000):fX (.str x) u (.dic ks us)=some (.dic (dput ks us x u).1 (dput ks us x u).2):=by
 have hsz:(1000:Nat)≤sizeLine:=by decide
 show (if ks.length<sizeLine then _ else _)=_
 rw [if_pos (by omega)]
end TM
namespace K
open PySem L2 TM
noncomputable def top (i:Nat):Stmt:=PySem.Challenge.pw_primer_k62_laid_rows.main.body.getD i (.Pass ⟨0,0,0,0⟩)
noncomputable def dg : Fn := ⟨"stem_of", 1, 1,
   [.ret (.idx (.mth .partition (.var 0) [(.cst (.str "/"))]) (.cst (.int 0)))]⟩
noncomputable def bu : Fn := ⟨"in_one_order", 1, 1,
   [.ret (.tup [(.idx (.var 0) (.cst (.int 0))), (.bi .tuple [(.bi .sorted [(.idx (.var 0) (.cst (.int 1)))])])])]⟩
noncomputable def eO : Fn := ⟨"alike", 2, 2,
   [.ret (.cmp .eq (.call "in_one_order" [(.var 0)]) (.call "in_one_order" [(.var 1)]))]⟩
noncomputable def fw:Fn:=TM.lB
noncomputable def cB : Fn := ⟨"free_name", 2, 4,
   [.for_ false [2] .rng2 [(.bin .add (.glb "FIRST_SENSE" (.int 1)) (.cst (.int 1))), (.bin .add (.glb "LAST_SENSE" (.int 99)) (.cst (.int 1)))]
      [.set 3 (.fst [(.var 0), (.cst (.str "/")), (.var 2)]),
      .ite (.cmp .notin (.var 3) (.var 1))
        [.ret (.var 3)]
        []],
    .bad]⟩
noncomputable def cC : Fn := ⟨"new_names", 3, 9,
   [.set 3 (.call "words_of" [(.var 0)]),
    .set 4 (.call "words_of" [(.var 1)]),
    .set 5 (.dnew false),
    .for_ false [6] .seq [(.bin .add (.var 3) (.var 4))]
      [.put 5 (.var 6) (.cst (.bl true))],
    .set 7 (.lst []),
    .for_ false [6] .seq [(.var 4)]
      [.set 8 (.var 6),
      .ite (.and [(.cmp .isin (.var 6) (.var 3)), (.cmp .notin (.var 6) (.var 2))])
        [.set 8 (.call "free_name" [(.call "stem_of" [(.var 6)]), (.var 5)]),
        .put 5 (.var 8) (.cst (.bl true))]
        [],
      .app 7 (.tup [(.var 6), (.var 8)])],
    .ret (.var 7)]⟩
noncomputable def dh : Fn := ⟨"renamed", 2, 2,
   [.ret (.tup [(.idx (.var 1) (.idx (.var 0) (.cst (.int 0)))), (.bi .tuple [(.comp 1 false .seq [(.idx (.var 0) (.cst (.int 1)))] [] (.idx (.var 2) (.var 0)))])])]⟩
noncomputable def jc : Fn := ⟨"laid", 3, 7,
   [.set 3 (.bi .dict [(.call "new_names" [(.var 0), (.var 1), (.var 2)])]),
    .set 4 (.bi .list [(.var 0)]),
    .for_ false [5] .seq [(.var 1)]
      [.set 6 (.call "renamed" [(.var 5), (.var 3)]),
      .ite (.not (.bi .any [(.comp 1 false .seq [(.var 4)] [] (.call "alike" [(.var 0), (.var 7)]))]))
        [.app 4 (.var 6)]
        []],
    .ite (.cmp .gt (.bi .len [(.var 4)]) (.glb "MOST_ROWS" (.int 60)))
      [.bad]
      [],
    .ret (.bi .tuple [(.var 4)])]⟩
noncomputable def gv:Fn:=TM.qZ
noncomputable def fy:Fn:=TM.qf
noncomputable def eu:Fn:=TM.lu
noncomputable def fz : Fn := ⟨"_law_name", 2, 6,
   [.set 2 (.cst (.str "abcdefghijklmnopqrstuvwxyz")),
    .set 3 (.mth .join (.cst (.str "")) [(.comp 1 false .rng1 [(.bin .add (.cst (.int 1)) (.bin .mod (.idx (.var 0) (.cst (.int 0))) (.cst (.int 8))))] [] (.idx (.var 3) (.bin .mod (.idx (.var 1) (.bin .add (.cst (.int 4)) (.var 0))) (.cst (.int 26)))))]),
    .ite (.cmp .gt (.bi .len [(.var 1)]) (.cst (.int 0)))
      [.set 4 (.idx (.mth .split (.idx (.var 1) (.bin .mod (.idx (.var 0) (.cst (.int 1))) (.bi .len [(.var 1)]))) [(.cst (.str "/"))]) (.cst (.int 0))),
      .ite (.cmp .eq (.bin .mod (.idx (.var 0) (.cst (.int 2))) (.cst (.int 4))) (.cst (.int 1)))
        [.set 3 (.slc (.bin .add (.var 4) (.var 3)) [] [(.cst (.int 8))])]
        [],
      .ite (.cmp .eq (.bin .mod (.idx (.var 0) (.cst (.int 2))) (.cst (.int 4))) (.cst (.int 2)))
        [.set 3 (.bin .add (.bin .add (.var 4) (.cst (.str "/"))) (.bi .str [(.bin .add (.cst (.int 2)) (.bin .mod (.idx (.var 0) (.cst (.int 3))) (.idx (.lst [(.cst (.int 3)), (.cst (.int 98))]) (.bin .mod (.bin .fdv (.idx (.var 0) (.cst (.int 3))) (.cst (.int 8))) (.cst (.int 2))))))]))]
        []]
      [],
    .set 5 (.bin .add (.lst [(.var 3)]) (.comp 1 false .rng1 [(.cst (.int 40))] [] (.bin .add (.idx (.var 3) (.bin .fdv (.var 0) (.cst (.int 26)))) (.idx (.var 3) (.bin .mod (.var 0) (.cst (.int 26))))))),
    .ret (.idx (.comp 1 false .seq [(.var 5)] [(.cmp .notin (.var 0) (.var 2))] (.var 0)) (.cst (.int 0)))]⟩
noncomputable def ez:Fn:=TM.fNames
noncomputable def fA:Fn:=TM.gI
noncomputable def fB:Fn:=TM.tH
noncomputable def bY : Fn := ⟨"_law_words", 1, 4,
   [.set 1 (.lst []),
    .for_ true [2, 3] .seq [(.var 0)]
      [.set 1 (.bin .add (.bin .add (.var 1) (.lst [(.var 2)])) (.bi .list [(.var 3)]))],
    .ret (.bi2 .sset [(.var 1)])]⟩
noncomputable def b7 : Fn := ⟨"_law_stands", 2, 2,
   [.ret (.cmp .ne (.comp 1 false .seq [(.var 0)] [(.and [(.cmp .eq (.idx (.var 0) (.cst (.int 0))) (.idx (.var 2) (.cst (.int 0)))), (.cmp .eq (.bi .sorted [(.idx (.var 0) (.cst (.int 1)))]) (.bi .sorted [(.idx (.var 2) (.cst (.int 1)))]))])] (.var 0)) (.lst []))]⟩
noncomputable def bS : Fn := ⟨"_law_renamed", 3, 9,
   [.set 3 (.call "_law_words" [(.var 0)]),
    .set 4 (.call "_law_words" [(.var 1)]),
    .set 5 (.dnew false),
    .for_ false [6] .seq [(.var 4)]
      [.put 5 (.var 6) (.var 6),
      .ite (.and [(.cmp .isin (.var 6) (.var 3)), (.cmp .notin (.var 6) (.var 2))])
        [.set 7 (.comp 1 false .rng2 [(.cst (.int 2)), (.cst (.int 100))] [] (.bin .add (.bin .add (.idx (.mth .split (.var 7) [(.cst (.str "/"))]) (.cst (.int 0))) (.cst (.str "/"))) (.bi .str [(.var 0)]))),
        .set 8 (.bin .add (.bin .add (.var 3) (.var 4)) (.vls 5)),
        .put 5 (.var 6) (.idx (.comp 1 false .seq [(.var 7)] [(.cmp .notin (.var 0) (.var 9))] (.var 0)) (.cst (.int 0)))]
        []],
    .ret (.var 5)]⟩
noncomputable def di : Fn := ⟨"_law_due", 3, 8,
   [.set 3 (.call "_law_renamed" [(.var 0), (.var 1), (.var 2)]),
    .set 4 (.bi .list [(.var 0)]),
    .for_ true [5, 6] .seq [(.var 1)]
      [.set 7 (.tup [(.idx (.var 3) (.var 5)), (.bi .tuple [(.comp 1 false .seq [(.var 6)] [] (.idx (.var 4) (.var 0)))])]),
      .ite (.not (.call "_law_stands" [(.var 4), (.var 7)]))
        [.app 4 (.var 7)]
        []],
    .ret (.bi .tuple [(.var 4)])]⟩
noncomputable def cM : Fn := ⟨"_law_both", 3, 7,
   [.set 3 (.bi .list [(.var 1)]),
    .for_ true [4, 5] .seq [(.slc (.var 0) [] [(.var 2)])]
      [.set 6 (.tup [(.var 4), (.bi2 .revT [(.var 5)])]),
      .ite (.not (.call "_law_stands" [(.var 3), (.var 6)]))
        [.app 3 (.var 6)]
        []],
    .ret (.bi .tuple [(.var 3)])]⟩
noncomputable def e_ : Fn := ⟨"law", 1, 12,
   [.set 1 (.call "_law_drawn" [(.call "_law_cell" [(.var 0), (.cst (.int 0))]), (.cst (.int 22))]),
    .set 2 (.call "_law_names" [(.var 0), (.cst (.int 1)), (.bin .add (.cst (.int 1)) (.bin .mod (.idx (.var 1) (.cst (.int 0))) (.cst (.int 14))))]),
    .set 3 (.slc (.var 2) [] [(.bin .add (.cst (.int 1)) (.bin .mod (.idx (.var 1) (.cst (.int 1))) (.bi .len [(.var 2)])))]),
    .set 4 (.slc (.var 2) [(.bin .mod (.idx (.var 1) (.cst (.int 2))) (.bi .len [(.var 2)]))] []),
    .set 5 (.call "_law_book" [(.var 0), (.cst (.int 20)), (.var 3), (.bin .mod (.idx (.var 1) (.cst (.int 3))) (.cst (.int 17)))]),
    .set 6 (.call "_law_book" [(.var 0), (.cst (.int 36)), (.var 4), (.bin .mod (.idx (.var 1) (.cst (.int 4))) (.cst (.int 17)))]),
    .ite (.cmp .eq (.bin .mod (.idx (.var 1) (.cst (.int 5))) (.cst (.int 2))) (.cst (.int 1)))
      [.set 6 (.call "_law_both" [(.var 5), (.var 6), (.bin .mod (.bin .fdv (.idx (.var 1) (.cst (.int 5))) (.cst (.int 2))) (.cst (.int 7)))])]
      [],
    .set 7 (.comp 1 false .rng1 [(.bi .len [(.var 2)])] [(.or [(.cmp .eq (.bin .mod (.idx (.var 2) (.bin .add (.cst (.int 6)) (.var 0))) (.cst (.int 3))) (.cst (.int 0))), (.cmp .eq (.bin .mod (.idx (.var 2) (.cst (.int 20))) (.cst (.int 4))) (.cst (.int 1)))])] (.idx (.var 3) (.var 0))),
    .set 8 (.bi .list [(.var 7)]),
    .set 9 (.call "_law_due" [(.var 5), (.var 6), (.var 7)]),
    .set 10 (.call "laid" [(.var 5), (.var 6), (.var 7)]),
    .ite (.or [(.not (.isi (.var 10) .tuple)), (.cmp .ne (.var 10) (.var 9)), (.cmp .ne (.var 7) (.var 8))])
      [.ret (.cst (.bl false))]
      [],
    .for_ false [11] .seq [(.var 10)]
      [.ite (.or [(.not (.isi (.var 11) .tuple)), (.not (.isi (.idx (.var 11) (.cst (.int 1))) .tuple))])
        [.ret (.cst (.bl false))]
        []],
    .ret (.cst (.bl true))]⟩
noncomputable def prog:List Fn:=[dg,bu,eO,fw,cB,cC,dh,jc,gv,fy,eu,fz,ez,fA,fB,bY,b7,bS,di,cM,e_]
noncomputable def ck:Ck:=⟨prog.map (·.name),[("FIRST_SENSE",(.int 1)),("LAST_SENSE",(.int 99)),("MOST_ROWS",(.int 60))]⟩
theorem oR:aD ["word"] ["word"] (aa (top 6)):=⟨rfl,rfl,rfl,by decide +kernel,rfl,by decide +kernel,by decide +kernel⟩
theorem oS:aV ck dg.body ["word"] (aa (top 6)) (aj (top 6))=true:=by decide +kernel
theorem gP:aD ["row"] ["row"] (aa (top 9)):=⟨rfl,rfl,rfl,by decide +kernel,rfl,by decide +kernel,by decide +kernel⟩
theorem gQ:aV ck bu.body ["row"] (aa (top 9)) (aj (top 9))=true:=by decide +kernel
theorem tR:aD ["row","other"] ["row","other"] (aa (top 10)):=⟨rfl,rfl,rfl,by decide +kernel,rfl,by decide +kernel,by decide +kernel⟩
theorem tS:aV ck eO.body ["row","other"] (aa (top 10)) (aj (top 10))=true:=by decide +kernel
theorem mZ:aD ["book","words","row"] ["book"] (aa (top 11)):=⟨rfl,rfl,rfl,by decide +kernel,rfl,by decide +kernel,by decide +kernel⟩
theorem m6:aV ck fw.body ["book","words","row"] (aa (top 11)) (aj (top 11))=true:=by decide +kernel
theorem lC:aD ["stem","taken","number","name"] ["stem","taken"] (aa (top 13)):=⟨rfl,rfl,rfl,by decide +kernel,rfl,by decide +kernel,by decide +kernel⟩
theorem lD:aV ck cB.body ["stem","taken","number","name"] (aa (top 13)) (aj (top 13))=true:=by decide +kernel
theorem lE:aD ["one","other","same","of_one","of_other","taken","word","names","name"] ["one","other","same"] (aa (top 14)):=⟨rfl,rfl,rfl,by decide +kernel,rfl,by decide +kernel,by decide +kernel⟩
theorem lF:aV ck cC.body ["one","other","same","of_one","of_other","taken","word","names","name"] (aa (top 14)) (aj (top 14))=true:=by decide +kernel
theorem oU:aD ["row","names"] ["row","names"] (aa (top 15)):=⟨rfl,rfl,rfl,by decide +kernel,rfl,by decide +kernel,by decide +kernel⟩
theorem oV:aV ck dh.body ["row","names"] (aa (top 15)) (aj (top 15))=true:=by decide +kernel
theorem vH:aD ["one","other","same","names","rows","row","new_row"] ["one","other","same"] (aa (top 16)):=⟨rfl,rfl,rfl,by decide +kernel,rfl,by decide +kernel,by decide +kernel⟩
theorem vI:aV ck jc.body ["one","other","same","names","rows","row","new_row"] (aa (top 16)) (aj (top 16))=true:=by decide +kernel
theorem oW:aD ["_law_cell_here","_law_k","_law_by"] ["_law_cell_here","_law_k"] (aa (top 18)):=⟨rfl,rfl,rfl,by decide +kernel,rfl,by decide +kernel,by decide +kernel⟩
theorem oX:aV ck gv.body ["_law_cell_here","_law_k","_law_by"] (aa (top 18)) (aj (top 18))=true:=by decide +kernel
theorem m7:aD ["_law_script","_law_k","_law_seed"] ["_law_script","_law_k"] (aa (top 19)):=⟨rfl,rfl,rfl,by decide +kernel,rfl,by decide +kernel,by decide +kernel⟩
theorem m8:aV ck fy.body ["_law_script","_law_k","_law_seed"] (aa (top 19)) (aj (top 19))=true:=by decide +kernel
theorem lG:aD ["_law_cell_here","_law_many","_law_found","_law_left","_law_k"] ["_law_cell_here","_law_many"] (aa (top 20)):=⟨rfl,rfl,rfl,by decide +kernel,rfl,by decide +kernel,by decide +kernel⟩
theorem lH:aV ck eu.body ["_law_cell_here","_law_many","_law_found","_law_left","_law_k"] (aa (top 20)) (aj (top 20))=true:=by decide +kernel
theorem m9:aD ["_law_drawn_here","_law_names_here","_law_letters","_law_name_here","_law_stem","_law_spare"] ["_law_drawn_here","_law_names_here"] (aa (top 21)):=⟨rfl,rfl,rfl,by decide +kernel,rfl,by decide +kernel,by decide +kernel⟩
theorem m_:aV ck fz.body ["_law_drawn_here","_law_names_here","_law_letters","_law_name_here","_law_stem","_law_spare"] (aa (top 21)) (aj (top 21))=true:=by decide +kernel
theorem lI:aD ["_law_script","_law_base","_law_many","_law_names_here","_law_k"] ["_law_script","_law_base","_law_many"] (aa (top 22)):=⟨rfl,rfl,rfl,by decide +kernel,rfl,by decide +kernel,by decide +kernel⟩
theorem lJ:aV ck ez.body ["_law_script","_law_base","_law_many","_law_names_here","_law_k"] (aa (top 22)) (aj (top 22))=true:=by decide +kernel
theorem ng:aD ["_law_drawn_here","_law_names_here","_law_top","_law_told_here","_law_k","_law_one"] ["_law_drawn_here","_law_names_here"] (aa (top 23)):=⟨rfl,rfl,rfl,by decide +kernel,rfl,by decide +kernel,by decide +kernel⟩
theorem nh:aV ck fA.body ["_law_drawn_here","_law_names_here","_law_top","_law_told_here","_law_k","_law_one"] (aa (top 23)) (aj (top 23))=true:=by decide +kernel
theorem ni:aD ["_law_script","_law_base","_law_names_here","_law_many","_law_rows","_law_met","_law_k","_law_drawn_here","_law_row","_law_key"] ["_law_script","_law_base","_law_names_here","_law_many"] (aa (top 24)):=⟨rfl,rfl,rfl,by decide +kernel,rfl,by decide +kernel,by decide +kernel⟩
theorem nj:aV ck fB.body ["_law_script","_law_base","_law_names_here","_law_many","_law_rows","_law_met","_law_k","_law_drawn_here","_law_row","_law_key"] (aa (top 24)) (aj (top 24))=true:=by decide +kernel
theorem lK:aD ["_law_book_here","_law_found","_law_word","_law_told_here"] ["_law_book_here"] (aa (top 25)):=⟨rfl,rfl,rfl,by decide +kernel,rfl,by decide +kernel,by decide +kernel⟩
theorem lL:aV ck bY.body ["_law_book_here","_law_found","_law_word","_law_told_here"] (aa (top 25)) (aj (top 25))=true:=by decide +kernel
theorem jC:aD ["_law_rows","_law_row"] ["_law_rows","_law_row"] (aa (top 26)):=⟨rfl,rfl,rfl,by decide +kernel,rfl,by decide +kernel,by decide +kernel⟩
theorem jD:aV ck b7.body ["_law_rows","_law_row"] (aa (top 26)) (aj (top 26))=true:=by decide +kernel
theorem jd:aD ["_law_one","_law_other","_law_same","_law_mine","_law_theirs","_law_given","_law_word","_law_some","_law_met"] ["_law_one","_law_other","_law_same"] (aa (top 27)):=⟨rfl,rfl,rfl,by decide +kernel,rfl,by decide +kernel,by decide +kernel⟩
theorem je:aV ck bS.body ["_law_one","_law_other","_law_same","_law_mine","_law_theirs","_law_given","_law_word","_law_some","_law_met"] (aa (top 27)) (aj (top 27))=true:=by decide +kernel
theorem oY:aD ["_law_one","_law_other","_law_same","_law_given","_law_rows","_law_word","_law_told_here","_law_row"] ["_law_one","_law_other","_law_same"] (aa (top 28)):=⟨rfl,rfl,rfl,by decide +kernel,rfl,by decide +kernel,by decide +kernel⟩
theorem oZ:aV ck di.body ["_law_one","_law_other","_law_same","_law_given","_law_rows","_law_word","_law_told_here","_law_row"] (aa (top 28)) (aj (top 28))=true:=by decide +kernel
theorem nq:aD ["_law_one","_law_other","_law_cut","_law_rows","_law_word","_law_told_here","_law_row"] ["_law_one","_law_other","_law_cut"] (aa (top 29)):=⟨rfl,rfl,rfl,by decide +kernel,rfl,by decide +kernel,by decide +kernel⟩
theorem nu:aV ck cM.body ["_law_one","_law_other","_law_cut","_law_rows","_law_word","_law_told_here","_law_row"] (aa (top 29)) (aj (top 29))=true:=by decide +kernel
theorem tT:aD ["_law_script","_law_drawn_here","_law_names_here","_law_mine","_law_theirs","_law_one","_law_other","_law_same","_law_kept","_law_due_here","_law_found","_law_row"] ["_law_script"] (aa (top 30)):=⟨rfl,rfl,rfl,by decide +kernel,rfl,by decide +kernel,by decide +kernel⟩
theorem tU:aV ck e_.body ["_law_script","_law_drawn_here","_law_names_here","_law_mine","_law_theirs","_law_one","_law_other","_law_same","_law_kept","_law_due_here","_law_found","_law_row"] (aa (top 30)) (aj (top 30))=true:=by decide +kernel
end K
namespace TM
open PySem L2 W01
noncomputable abbrev Pr:=Str×Str
noncomputable def prU (p:Pr):U:=.tup [.str p.1,.str p.2]
noncomputable def nm (aN:Str) (i:Nat):Str:=aN++dU++fL (2+(i:Int))
theorem tV:∀ i j:Nat,i<98→j<98→fL (2+(i:Int))=fL (2+(j:Int))→i=j:=by
 have h:∀ i:_root_.Fin 98,∀ j:_root_.Fin 98,(fL (2+((i:Nat):Int))).cps.toList=(fL (2+((j:Nat):Int))).cps.toList→i=j:=by decide +kernel
 intro i j hi hj e
 have:=h ⟨i,hi⟩ ⟨j,hj⟩ (by rw [e])
 exact congrArg _root_.Fin.val this
theorem yc {aN:Str}{i j:Nat} (hi:i<98) (hj:j<98) (e:nm aN i=nm aN j):i=j:=by
 refine tV i j hi hj (eE ?_)
 have h:=congrArg (fun x:Str=>x.cps.toList) e
 simp only [nm,lA] at h
 exact List.append_cancel_left h
noncomputable def cands (aN:Str):List Str:=(List.range 98).map (nm aN)
theorem nv (aN:Str):(cands aN).Nodup:=gJ (fun i hi j hj e=>yc (List.mem_range.mp hi) (List.mem_range.mp hj) e) List.nodup_range
noncomputable def dk (aN:Str) (L:List Str):Str:=((cands aN).find? fun x=>decide (x∉L)).getD ""
theorem gw (aN:Str) {L:List Str} (h:L.length<98):(cands aN).find? (fun x=>decide (x∉L))=some (dk aN L)∧dk aN L∉L:=by
 cases e:(cands aN).find? fun x=>decide (x∉L) with
 |none =>
  have h1:∀ x∈cands aN,x∈L:=fun x hx=>by
   have:=List.find?_eq_none.mp e x hx
   simpa using this
  have:=f_ (nv aN) h1
  simp [cands] at this
  omega
 |some x =>
  have hx:=List.find?_some e
  have:dk aN L=x:=by unfold dk;rw [e];rfl
  rw [this]
  exact ⟨rfl,by simpa using hx⟩
theorem jf (aN:Str) {L M:List Str} (h:∀ x,x∈L↔x∈M):dk aN L=dk aN M:=by
 unfold dk
 have:(fun x=>decide (x∉L))=fun x=>decide (x∉M):=by funext x;simp [h x]
 rw [this]
noncomputable def stemOf (w:Str):Str:=(Txt.partition w dU).1
noncomputable def newName (mine theirs same:List Str) (acc:List Pr) (w:Str):Str:=if w∈mine∧w∉same then dk (stemOf w) (mine++theirs++acc.map (·.2)) else w
noncomputable def gR (mine theirs same:List Str):List Pr→List Str→List Pr
 |acc,[]=>acc
 |acc,w::ws=>gR mine theirs same (acc++[(w,newName mine theirs same acc w)]) ws
structure ny (mine theirs:List Str) (acc:List Pr) (rest:List Str):Prop where
 all:acc.map (·.1)++rest=theirs
 own:∀ p∈acc,p.2=p.1∨p.2∉mine++theirs
 once:(acc.map (·.2)).Nodup
theorem ny.step {mine theirs same:List Str}{acc:List Pr}{w:Str}{ws:List Str} (h:ny mine theirs acc (w::ws)) (hnd:theirs.Nodup) (hl:mine.length+theirs.length+acc.length<98):ny mine theirs (acc++[(w,newName mine theirs same acc w)]) ws:=by
 have hw:w∈theirs:=by rw [←h.all];simp
 have hw1:w∉acc.map (·.1):=fun z=>by
  have:=hnd
  rw [←h.all,List.nodup_append] at this
  exact this.2.2 w z w (by simp) rfl
 have hf:=(gw (stemOf w) (L:=mine++theirs++acc.map (·.2)) (by simp;omega)).2
 have hnew:newName mine theirs same acc w=w∨newName mine theirs same acc w∉mine++theirs:=by
  unfold newName
  split
  ·exact .inr fun z=>hf (List.mem_append_left _ z)
  ·exact .inl rfl
 have hni:newName mine theirs same acc w∉acc.map (·.2):=by
  unfold newName
  split
  ·exact fun z=>hf (List.mem_append_right _ z)
  ·intro z
   obtain ⟨p,hp,e⟩:=List.mem_map.mp z
   rcases h.own p hp with q|q
   ·exact hw1 (List.mem_map.mpr ⟨p,hp,by rw [←q,e]⟩)
   ·exact q (by rw [e];exact List.mem_append_right _ hw)
 refine ⟨by rw [←h.all];simp,fun p hp=>?_,?_⟩
 ·rcases List.mem_append.mp hp with hp|hp
  ·exact h.own p hp
  ·rw [List.mem_singleton.mp hp];exact hnew
 ·rw [List.map_append,List.nodup_append]
  refine ⟨h.once,by simp,fun a ha b hb e=>?_⟩
  have:b=newName mine theirs same acc w:=by simpa using hb
  subst this
  subst e
  exact hni ha
theorem qq {mine theirs same:List Str} (hnd:theirs.Nodup) (hl:mine.length+theirs.length+theirs.length<98):∀ (ws:List Str) (acc:List Pr),ny mine theirs acc ws→ny mine theirs (gR mine theirs same acc ws) []
 |[],acc,h=>h
 |w::ws,acc,h=>qq hnd hl ws _ (h.step hnd (by have:=congrArg List.length h.all;simp at this;omega))
theorem ka {w:Str} (h:bb w.cps.toList):(stemOf w).length≤8∧∃ r,Txt.split w dU=stemOf w::r:=by
 obtain ⟨y,r,h1,h2,h3⟩:=rj h
 unfold stemOf
 rw [h2]
 exact ⟨h3,r,h1⟩
theorem yd {aN:Str} (h:aN.length≤8) {i:Nat} (hi:i<98):(nm aN i).length≤11:=by
 have:=c_ (k:=2+(i:Int)) (by omega) (by omega)
 rw [nm,str_len,str_len]
 have:dU.length=1:=rfl
 omega
end TM
namespace K
open PySem L2 TM W01
section
variable {Γ : Tab}
theorem nz {w:Str} (h:w.length≤1000):bN Γ dg [.str w]=some (.ok (.loc,.str (stemOf w))):=by
 have hsz:(1000:Nat)≤sizeLine:=by decide
 have hp:fW .partition (.str w) [(.loc,.str "/")]=some (.loc,.tup [.str (Txt.partition w "/").1,.str (Txt.partition w "/").2.1,.str (Txt.partition w "/").2.2]):=by
  show (if (Str.length "/"==0)=false∧w.length≤sizeLine then _ else _)=_
  rw [if_pos ⟨by decide,by omega⟩]
 exact aL (st0:=[some (.loc,.str w)]) rfl (.inr rfl) rfl (cE (bq (mM (af rfl) (ae ay ao) trivial hp) ay trivial rfl) dN)
noncomputable def tW:List TM.S:=[.set 3 (.fst [(.var 0),(.cst (.str "/")),(.var 2)]),
   .ite (.cmp .notin (.var 3) (.var 1))
    [.ret (.var 3)]
    []]
theorem kb {aN:Str} (hs:aN.length≤8) {ks:List Str}{vs:List U}{rs:List (Kd×U)} (hrs:∀ st,ba rs st) {x:Str}:∀ (is:List Nat) (o2 o3:Option (Kd×U)),(∀ i∈is,i<98)→(is.map (nm aN)).find? (fun x=>decide (x∉ks))=some x →
  ∃ st',Run (forM false [2] (execs Γ tW) rs (is.map fun i:Nat=>(Kd.loc,U.int (2+(i:Int))))) [some (.loc,.str aN),some (.any,.dic ks vs),o2,o3] (.rt .loc (.str x)) st'
 |[],_,_,_,h=>by simp at h
 |i::is,o2,o3,hi,h=>by
  have hi98:=hi i (by simp)
  let S:=fun (o3:Option (Kd×U))=>([some (.loc,.str aN),some (.any,.dic ks vs),some (.loc,.int (2+(i:Int))),o3]:ak)
  have hnl:=yd hs hi98
  have g3:Run (ev Γ (.fst [(.var 0),(.cst (.str "/")),(.var 2)])) (S o3) (.loc,.str (nm aN i)) (S o3):=by
   have e0:Str.empty++aN=aN:=empty_app aN
   have f1:=qp (y:=aN) (out:=Str.empty) (by omega) (by decide)
   rw [e0] at f1
   have f2:=qp (y:="/") (out:=aN) (by decide) (by omega)
   have f3:=vG (k:=2+(i:Int)) (out:=aN++("/":Str)) (by omega) (by omega) (by rw [str_len];have:Str.length "/"=1:=rfl;omega)
   exact zq (oQ (af rfl) f1 (oQ ay f2 (oQ (af rfl) f3 zp)))
  have tc:Run (tst Γ (.cmp .notin (.var 3) (.var 1))) (S (some (.loc,.str (nm aN i)))) (!decide (nm aN i∈ks)) (S (some (.loc,.str (nm aN i)))):=b9 (af rfl) (bF rfl) trivial rfl
  have htg:Run (c7 false [2] (.loc,.int (2+(i:Int)))) [some (.loc,.str aN),some (.any,.dic ks vs),o2,o3] () (S o3):=cm aA
  rw [List.map_cons,List.find?_cons] at h
  by_cases hin:nm aN i∈ks
  ·rw [decide_eq_false (fun z=>z hin)] at h
   rw [decide_eq_true hin] at tc
   obtain ⟨st',hr⟩:=kb hs hrs is (some (.loc,.int (2+(i:Int)))) (some (.loc,.str (nm aN i))) (fun j hj=>hi j (by simp [hj])) h
   exact ⟨st',mP (hrs _) htg (aw g3 aA (gc tc (fun h=>by cases h) fun _=>aT)) hr⟩
  ·rw [decide_eq_true hin] at h
   rw [decide_eq_false hin] at tc
   cases h
   exact ⟨_,AG (hrs _) htg (aw g3 aA (gc tc (fun _=>cE (af rfl) dN) fun h=>by cases h))⟩
theorem tX {aN:Str} (hs:aN.length≤8) {ks:List Str}{vs:List U} (hk:ks.length<98):bN Γ cB [.str aN,.dic ks vs]=some (.ok (.loc,.str (dk aN ks))):=by
 have hst:TM.start [.str aN,.dic ks vs] 4=[some (.loc,.str aN),some (.any,.dic ks vs),none,none]:=rfl
 obtain ⟨st',hr⟩:=kb (Γ:=Γ) hs (ks:=ks) (vs:=vs) (rs:=[(.loc,.int (1+1)),(.loc,.int (99+1))]) (fun _=>trivial) (List.range 98) none none (fun i hi=>List.mem_range.mp hi) (gw aN hk).1
 exact aL rfl (.inr rfl) hst (tp (wd (rs:=[(.loc,.int (1+1)),(.loc,.int (99+1))]) (ae (a9 sZ ay trivial cQ) (ae (a9 sZ ay trivial cQ) ao)) trivial rfl rfl hr))
end
end K
namespace TM
open PySem L2 W01
theorem kf:∀ u:U,∀ n,eqD n u=true→a5 u u=true
 |.non,_,_=>rfl
 |.bl b,_,_=>by simp [a5]
 |.int i,_,_=>by simp [a5]
 |.str x,_,_=>by simp [a5]
 |.tup xs,0,h=>by simp [eqD] at h
 |.lst xs,0,h=>by simp [eqD] at h
 |.tup xs,n+1,h=>by rw [a5];exact go xs n (by simpa [eqD] using h)
 |.lst xs,n+1,h=>by rw [a5];exact go xs n (by simpa [eqD] using h)
 |.dic _ _,_,h=>by simp [eqD] at h
 |.rdc _,_,h=>by simp [eqD] at h
where go:∀ (us:List U) (n:Nat),b8 n us=true→bH us us=true
 |[],_,_=>rfl
 |u::us,n,h=>by
  have h':eqD n u=true∧b8 n us=true:=by simpa [b8] using h
  rw [bH,kf u n h'.1,go us n h'.2]
  rfl
theorem kg {u:U} (h:eqD 50 u=true):bz .ne u u=some false:=by
 simp only [bz]
 rw [if_pos ⟨h,h⟩,kf u 50 h]
 rfl
theorem wm {x:Str}{ss:List Str}:bz .isin (.str x) (.lst (ss.map U.str))=some (decide (x∈ss)):=by
 have h:=@df x ss
 have e:bz .notin (.str x) (.lst (ss.map U.str))=(bz .isin (.str x) (.lst (ss.map U.str))).map (!·):=rfl
 rw [e,Option.map_eq_some_iff] at h
 obtain ⟨b,h1,h2⟩:=h
 rw [h1]
 congr 1
 cases b <;> simp_all
end TM
namespace K
open PySem L2 TM W01
section
variable {Γ : Tab} {one other : List Row} {same : List Str}
theorem jg {o0 o1 o2 o3 o4 o7 o8:Option (Kd×U)}{src:List (Kd×U)} (hs:∀ st,ba src st):∀ (ws:List Str) (ks:List Str) (vs:List U) (o6:Option (Kd×U)),ks.length+ws.length<1000 →
  ∃ ks' vs' o6',(∀ x,x∈ks'↔x∈ks∨x∈ws)∧ks'.length≤ks.length+ws.length∧Run (forM false [6] (execs Γ [.put 5 (.var 6) (.cst (.bl true))]) src (ws.map fun x=>(Kd.loc,U.str x))) [o0,o1,o2,o3,o4,some (.own,.dic ks vs),o6,o7,o8] .nx [o0,o1,o2,o3,o4,some (.own,.dic ks' vs'),o6',o7,o8]
 |[],ks,vs,o6,_=>⟨ks,vs,o6,by simp,by simp,mO (hs _)⟩
 |w::ws,ks,vs,o6,hl=>by
  rw [List.length_cons] at hl
  have hdl:=mY (ks:=ks) (us:=vs) (x:=w) (u:=.bl true)
  obtain ⟨ks',vs',o6',h1,h2,h3⟩:=jg (o0:=o0) (o1:=o1) (o2:=o2) (o3:=o3) (o4:=o4) (o7:=o7) (o8:=o8) hs ws (dput ks vs w (.bl true)).1 (dput ks vs w (.bl true)).2 (some (.loc,.str w)) (by omega)
  refine ⟨ks',vs',o6',fun x=>?_,by simp;omega,mP (hs _) (cm aA) (mV (st1:=[o0,o1,o2,o3,o4,some (.own,.dic ks vs),some (.loc,.str w),o7,o8]) (st2:=[o0,o1,o2,o3,o4,some (.own,.dic ks vs),some (.loc,.str w),o7,o8]) (st3:=[o0,o1,o2,o3,o4,some (.own,.dic ks vs),some (.loc,.str w),o7,o8]) (k:=.own) (k':=.own) ay rfl (af rfl) (aK aS (aK aS br)) rfl rfl (gX (by omega)) aT) h3⟩
  rw [h1,mX,List.mem_cons,or_assoc]
noncomputable def tY:List TM.S:=[.set 8 (.var 6),
   .ite (.and [(.cmp .isin (.var 6) (.var 3)),(.cmp .notin (.var 6) (.var 2))])
    [.set 8 (.call "free_name" [(.call "stem_of" [(.var 6)]),(.var 5)]),
    .put 5 (.var 8) (.cst (.bl true))]
    [],
   .app 7 (.tup [(.var 6),(.var 8)])]
theorem fC {mine theirs:List Str}{o0 o1:Option (Kd×U)}{k2:Kd}{u2:U} (hk2:k2=.loc∨k2=.any) (hu2:∀ x:Str,bz .notin (.str x) u2=some (decide (x∉same)))
  (hstem:∀ w:Str,bb w.cps.toList→Γ "stem_of" [.str w]=some (.ok (.loc,.str (stemOf w)))) (hfree:∀ (aN:Str) (ks:List Str) (vs:List U),aN.length≤8→ks.length<98→Γ "free_name" [.str aN,.dic ks vs]=some (.ok (.loc,.str (dk aN ks))))
  (hm:mine.length≤14) (ht:theirs.length≤14) (hw:∀ x∈theirs,bb x.cps.toList):∀ (ws:List Str) (acc:List Pr) (ks:List Str) (vs:List U) (o6 o8:Option (Kd×U)),(∀ x,x∈ks↔x∈mine++theirs++acc.map (·.2))→ks.length≤28+acc.length→acc.map (·.1)++ws=theirs →
  ∃ ks' vs' o6' o8',Run (forM false [6] (execs Γ tY) [(.bor 4,.lst (theirs.map .str))] (ws.map fun x=>(Kd.loc,U.str x))) [o0,o1,some (k2,u2),some (.own,.lst (mine.map .str)),some (.own,.lst (theirs.map .str)),some (.own,.dic ks vs),o6,some (.own,.lst (acc.map prU)),o8] .nx
   [o0,o1,some (k2,u2),some (.own,.lst (mine.map .str)),some (.own,.lst (theirs.map .str)),some (.own,.dic ks' vs'),o6',some (.own,.lst ((gR mine theirs same acc ws).map prU)),o8']
 |[],acc,ks,vs,o6,o8,_,_,_=>⟨ks,vs,o6,o8,mO ⟨⟨.own,rfl,rfl⟩,trivial⟩⟩
 |w::ws,acc,ks,vs,o6,o8,hks,hkl,hacc=>by
  have hsz:(1000:Nat)≤sizeLine:=by decide
  have hwt:w∈theirs:=by rw [←hacc];simp
  have hal:acc.length<14:=by have:=congrArg List.length hacc;simp at this;omega
  have hwc:=hw w hwt
  let S:=fun (ks:List Str) (vs:List U) (acc:List Pr) (o8:Option (Kd×U))=>([o0,o1,some (k2,u2),some (.own,.lst (mine.map .str)),some (.own,.lst (theirs.map .str)),some (.own,.dic ks vs),some (.loc,.str w),some (.own,.lst (acc.map prU)),o8]:ak)
  have hv2:Run (ev Γ (.var 2)) (S ks vs acc (some (.loc,.str w))) (k2,u2) (S ks vs acc (some (.loc,.str w))):=by
   rcases hk2 with rfl|rfl
   ·exact af rfl
   ·exact bF rfl
  have hst2:∀ st,ba [(.loc,.str w),(k2,u2)] st:=fun st=>by rcases hk2 with rfl|rfl <;> trivial
  have tc:Run (tst Γ (.and [(.cmp .isin (.var 6) (.var 3)),(.cmp .notin (.var 6) (.var 2))])) (S ks vs acc (some (.loc,.str w))) (decide (w∈mine)&&decide (w∉same)) (S ks vs acc (some (.loc,.str w))) :=
   j3 (oO (b9 (af rfl) (av rfl) ⟨⟨.own,rfl,rfl⟩,trivial⟩ wm) fun _=>dC (b9 (af rfl) hv2 (hst2 _) (hu2 w)))
  have app:∀ (ks:List Str) (vs:List U) (x:Str),Run (execs Γ [.app 7 (.tup [(.var 6),(.var 8)])]) (S ks vs acc (some (.loc,.str x))) .nx (S ks vs (acc++[(w,x)]) (some (.loc,.str x))):=fun ks vs x=>by
   have e:(acc++[(w,x)]).map prU=acc.map prU++[prU (w,x)]:=by simp
   show Run _ _ _ [o0,o1,some (k2,u2),some (.own,.lst (mine.map .str)),some (.own,.lst (theirs.map .str)),some (.own,.dic ks vs),some (.loc,.str w),some (.own,.lst ((acc++[(w,x)]).map prU)),some (.loc,.str x)]
   rw [e]
   exact gH (k:=.own) (k':=.own) (r:=(.loc,prU (w,x))) rfl (jY (ae (af rfl) (ae (af rfl) ao)) trivial (aK aS (aK aS br)) (by show 2≤sizeLine;omega)) aS rfl rfl (by rw [List.length_map];omega) aT
  by_cases hc:w∈mine∧w∉same
  ·have hb:(decide (w∈mine)&&decide (w∉same))=true:=by simp [hc.1,hc.2]
   rw [hb] at tc
   have hs:=(ka hwc).1
   have hf:=hfree (stemOf w) ks vs hs (by omega)
   rw [jf (stemOf w) hks] at hf
   have hx:newName mine theirs same acc w=dk (stemOf w) (mine++theirs++acc.map (·.2)):=by unfold newName;rw [if_pos hc]
   rw [←hx] at hf
   let x:=newName mine theirs same acc w
   obtain ⟨ks',vs',o6',o8',hr⟩:=fC (o0:=o0) (o1:=o1) hk2 hu2 hstem hfree hm ht hw ws (acc++[(w,x)]) (dput ks vs x (.bl true)).1 (dput ks vs x (.bl true)).2 (some (.loc,.str w)) (some (.loc,.str x)) (fun z=>by
    rw [mX,hks]
    simp [or_assoc]) (by have:=mY (ks:=ks) (us:=vs) (x:=x) (u:=.bl true);simp;omega) (by rw [←hacc];simp)
   refine ⟨ks',vs',o6',o8',mP ⟨⟨.own,rfl,rfl⟩,trivial⟩ (cm aA) (aw (r:=(.loc,.str w)) (af rfl) aA (gc tc (fun _=>?_) fun h=>by cases h)) hr⟩
   exact aw (r:=(.loc,.str x)) (bG (ae (bG (ae (af rfl) ao) trivial (hstem w hwc)) (ae (av rfl) ao)) ⟨⟨.own,rfl,rfl⟩,trivial⟩ hf) aA
    (mV (st1:=S ks vs acc (some (.loc,.str x))) (st2:=S ks vs acc (some (.loc,.str x))) (st3:=S ks vs acc (some (.loc,.str x))) (k:=.own) (k':=.own) ay rfl (af rfl) (aK aS (aK aS br)) rfl rfl (gX (by omega)) (app _ _ x))
  ·have hb:(decide (w∈mine)&&decide (w∉same))=false:=by
    rw [Bool.eq_false_iff]
    intro z
    simp only [Bool.and_eq_true,decide_eq_true_eq] at z
    exact hc z
   rw [hb] at tc
   have hx:newName mine theirs same acc w=w:=by unfold newName;rw [if_neg hc]
   obtain ⟨ks',vs',o6',o8',hr⟩:=fC (o0:=o0) (o1:=o1) hk2 hu2 hstem hfree hm ht hw ws (acc++[(w,w)]) ks vs (some (.loc,.str w)) (some (.loc,.str w)) (fun z=>by
    rw [hks]
    simp only [List.map_append,List.map_cons,List.map_nil,List.mem_append,List.mem_singleton]
    exact ⟨fun q=>q.elim .inl fun q=>.inr (.inl q),fun q=>q.elim .inl fun q=>q.elim .inr fun e=>.inl (.inr (e ▸ hwt))⟩) (by simp;omega) (by rw [←hacc];simp)
   refine ⟨ks',vs',o6',o8',mP ⟨⟨.own,rfl,rfl⟩,trivial⟩ (cm aA) (aw (r:=(.loc,.str w)) (af rfl) aA (gc tc (fun h=>by cases h) fun _=>app ks vs w)) ?_⟩
   rw [gR,hx]
   exact hr
end
end K
namespace K
open PySem L2 TM W01
section
variable {Γ : Tab} {one other : List Row} {same : List Str}
theorem lM {k:Kd}{ss:List Str} (hk:kE k=.loc):itU .seq [(k,.lst (ss.map .str))]=some (ss.map fun x=>(Kd.loc,U.str x)):=by
 show some ((ss.map U.str).map fun u=>(kE k,u))=_
 rw [List.map_map,hk]
 rfl
theorem jE {k2:Kd}{u2:U} (hk2:(if imm u2=true then Kd.loc else Kd.any)=k2) (hu2:∀ x:Str,bz .notin (.str x) u2=some (decide (x∉same)))
  (hwords:∀ rows,rows=one∨rows=other→Γ "words_of" [.tup (rows.map rwU)]=some (.ok (.own,.lst ((au rows).map .str))))
  (hstem:∀ w:Str,bb w.cps.toList→Γ "stem_of" [.str w]=some (.ok (.loc,.str (stemOf w)))) (hfree:∀ (aN:Str) (ks:List Str) (vs:List U),aN.length≤8→ks.length<98→Γ "free_name" [.str aN,.dic ks vs]=some (.ok (.loc,.str (dk aN ks))))
  (hm:(au one).length≤14) (ht:(au other).length≤14) (hw:∀ x∈au other,bb x.cps.toList) :
  bN Γ cC [.tup (one.map rwU),.tup (other.map rwU),u2]=some (.ok (.own,.lst ((gR (au one) (au other) same [] (au other)).map prU))):=by
 have hsz:(1000:Nat)≤sizeLine:=by decide
 have hk2':k2=.loc∨k2=.any:=by rw [←hk2];split <;> simp
 let mine:=au one
 let theirs:=au other
 have hm':mine.length≤14:=hm
 have ht':theirs.length≤14:=ht
 let r0:Option (Kd×U):=some (.loc,.tup (one.map rwU))
 let r1:Option (Kd×U):=some (.loc,.tup (other.map rwU))
 have hst:TM.start [.tup (one.map rwU),.tup (other.map rwU),u2] 9=[r0,r1,some (k2,u2),none,none,none,none,none,none]:=by simp [TM.start,imm,bX,hk2,r0,r1]
 let m3:Option (Kd×U):=some (.own,.lst (mine.map .str))
 let m4:Option (Kd×U):=some (.own,.lst (theirs.map .str))
 obtain ⟨ks,vs,o6,h1,h2,h3⟩:=jg (Γ:=Γ) (o0:=r0) (o1:=r1) (o2:=some (k2,u2)) (o3:=m3) (o4:=m4) (o7:=none) (o8:=none) (src:=[(.own,.lst ((mine++theirs).map .str))]) (fun _=>trivial) (mine++theirs) [] [] none (by simp;omega)
 have hl2:ks.length≤28:=by simp at h2;omega
 obtain ⟨ks',vs',q6,q8,h4⟩:=fC (Γ:=Γ) (mine:=mine) (theirs:=theirs) (same:=same) (o0:=r0) (o1:=r1) hk2' hu2 hstem hfree hm ht hw theirs [] ks vs o6 none (fun x=>by rw [h1];simp) (by simpa using hl2) rfl
 have ad:opU .add (.bor 3,.lst (mine.map .str)) (.bor 4,.lst (theirs.map .str))=some (.own,.lst ((mine++theirs).map .str)):=by
  rw [List.map_append]
  exact ei (by simp;omega) rfl rfl
 exact aL rfl (.inl rfl) hst (aw (r:=(.own,.lst (mine.map .str))) (bG (ae (af rfl) ao) trivial (hwords one (.inl rfl))) a_ (aw (r:=(.own,.lst (theirs.map .str))) (bG (ae (af rfl) ao) trivial (hwords other (.inr rfl))) a_
  (aw (r:=(.own,.dic [] [])) oJ a_ (da (rs:=[(.own,.lst ((mine++theirs).map .str))]) (ae (a9 (av rfl) (av rfl) ⟨⟨.own,rfl,rfl⟩,⟨.own,rfl,rfl⟩,trivial⟩ ad) ao) trivial (lM rfl) rfl h3
   (aw (r:=(.own,.lst [])) (ef ao trivial br (Nat.zero_le _)) a_ (da (rs:=[(.bor 4,.lst (theirs.map .str))]) (ae (av rfl) ao) ⟨⟨.own,rfl,rfl⟩,trivial⟩ (lM rfl) rfl h4 (cE (av rfl) (qc rfl))))))))
theorem fb {rows:List Row}{names:List Str} (hl:rows.length≤100) (hr:∀ r∈rows,cA names r) (hn:names.length<64):bN Γ bY [.tup (rows.map rwU)]=some (.ok (.own,.lst ((au rows).map .str))):=by
 have hsz:(4000:Nat)≤sizeLine:=by decide
 have hst:TM.start [.tup (rows.map rwU)] 4=[some (.loc,.tup (rows.map rwU)),none,none,none]:=by simp [TM.start,imm,bX]
 have h8:∀ r∈rows,r.2.length≤8:=fun r h=>(hr r h).few
 obtain ⟨st',hrun,_,o2,o3,e⟩:=fo (t:=true) (is:=[2,3]) (body:=execs Γ [.set 1 (.bin .add (.bin .add (.var 1) (.lst [(.var 2)])) (.bi .list [(.var 3)]))]) (rs:=[(.loc,.tup (rows.map rwU))]) (fun r:Row=>(Kd.loc,rwU r))
  (fun d r st=>d++r=rows∧∃ o2 o3,st=[some (.loc,.tup (rows.map rwU)),some (.own,.lst ((bt d).map .str)),o2,o3]) (fun _ _ _ _=>trivial) (fun d y r st hIx=>by
   obtain ⟨hdr,o2,o3,e⟩:=hIx
   subst e
   have hy:y∈rows:=by rw [←hdr];simp
   have hd8:=dE (rows:=d) fun s hs=>h8 s (by rw [←hdr];simp [hs])
   have hdl:d.length≤100:=by have:=congrArg List.length hdr;simp at this;omega
   have hy8:=h8 y hy
   let S:=fun (us:List U)=>([some (.loc,.tup (rows.map rwU)),some (.own,.lst us),some (.loc,.str y.1),some (.loc,.tup (y.2.map .str))]:ak)
   refine ⟨S ((bt d).map .str),S ((bt d).map .str++[.str y.1]++y.2.map .str),ab (a:=()) aA (ab (a:=()) aA aX),?_,by rw [←hdr];simp,some (.loc,.str y.1),some (.loc,.tup (y.2.map .str)),?_⟩
   ·refine aw (r:=(.own,.lst ((bt d).map .str++[.str y.1]++y.2.map .str))) (st1:=S ((bt d).map .str)) (a9 (a9 (av rfl) (ef (us:=[.str y.1]) (ae (af rfl) ao) trivial (aK aS br) (by show 1≤sizeLine;omega)) ⟨⟨.own,rfl,rfl⟩,trivial⟩ (ei (by simp;omega) rfl rfl)) (cV (ae (af rfl) ao) trivial rfl) trivial (ei (by simp;omega) rfl rfl)) a_ aT
   ·rw [gK];simp [S]) rows [] [some (.loc,.tup (rows.map rwU)),some (.own,.lst []),none,none] ⟨rfl,none,none,rfl⟩
 subst e
 have e5:(rows.map rwU).map (fun u=>(kE .loc,u))=rows.map fun r=>(Kd.loc,rwU r):=by rw [List.map_map];rfl
 have hwl:=dE h8
 have hdl:=oP (cF hr)
 exact aL rfl (.inl rfl) hst (aw (r:=(.own,.lst [])) (ef ao trivial br (Nat.zero_le _)) a_ (da (rs:=[(.loc,.tup (rows.map rwU))]) (ae (af rfl) ao) trivial rfl rfl (by rw [e5];exact hrun) (cE (s_ (ae (av rfl) ao) ⟨⟨.own,rfl,rfl⟩,trivial⟩ (mW (by omega) (by omega))) qb)))
end
end K
namespace TM
open PySem L2 W01
theorem ye {α:Type} (xs:List α) (k:Nat):cut xs none (some (k:Int))=xs.take k:=by
 unfold cut
 have e0:HT.sIx xs.length 0 none=0:=rfl
 rw [e0,HT.pj,List.drop_zero,Nat.sub_zero]
 by_cases h:k≤xs.length
 ·rw [Nat.min_eq_left h]
 ·rw [Nat.min_eq_right (by omega),List.take_of_length_le (Nat.le_refl _),List.take_of_length_le (by omega)]
theorem tZ {α:Type} (xs:List α) (k:Nat):cut xs (some (k:Int)) none=xs.drop k:=by
 unfold cut
 have e0:HT.sIx xs.length xs.length none=xs.length:=rfl
 rw [e0,HT.pj]
 by_cases h:k≤xs.length
 ·rw [Nat.min_eq_left h,List.take_of_length_le (by simp)]
 ·rw [Nat.min_eq_right (by omega),List.drop_of_length_le (Nat.le_refl _),List.drop_of_length_le (by omega)]
  simp
noncomputable def yf:E:=.idx (.lst [(.cst (.int 3)),(.cst (.int 98))]) (.bin .mod (.bin .fdv (.idx (.var 0) (.cst (.int 3))) (.cst (.int 8))) (.cst (.int 2)))
theorem vJ:vB yf:=fun Γ ds hd h0=>by
 have hsz:(1000:Nat)≤sizeLine:=by decide
 have i3:atI (ds.map U.int) 3=some (.int (dd ds 3)):=bU (i:=3) (by omega)
 have hq:dd ds 3 / 8 % 2=0∨dd ds 3 / 8 % 2=1:=by omega
 have go:∀ (z:Int),dd ds 3 / 8 % 2=z→(∃ m:Int,atI [U.int 3,.int 98] z=some (.int m)∧0<m∧m≤98)→∃ m:Int,0<m∧m≤98∧∀ o1 o2 o3 o4 o5,Run (ev Γ yf) [some (.any,.lst (ds.map .int)),o1,o2,o3,o4,o5] (.loc,.int m) [some (.any,.lst (ds.map .int)),o1,o2,o3,o4,o5]:=fun z hz hIx=>by
  obtain ⟨m,h1,h2,h3⟩:=hIx
  subst hz
  refine ⟨m,h2,h3,fun o1 o2 o3 o4 o5=>?_⟩
  exact bq (ef (us:=[.int 3,.int 98]) (ae ay (ae ay ao)) trivial (aK aS (aK aS br)) (by show 2≤sizeLine;omega)) (a9 (a9 (bq (bF rfl) ay trivial (aM i3)) ay trivial (lr (by decide))) ay trivial (bc (by decide))) trivial (aM h1)
 rcases hq with hq|hq
 ·exact go 0 hq ⟨3,rfl,by decide,by decide⟩
 ·exact go 1 hq ⟨98,rfl,by decide,by decide⟩
end TM
namespace TM
open PySem L2 W01
noncomputable def gg:List Pr→Str→Str
 |[],x=>x
 |p::ps,x=>if p.1=x then p.2 else gg ps x
theorem nA {x:Str}:∀ {ps:List Pr},x∈ps.map (·.1)→kU (ps.map (·.1)) (ps.map fun p=>U.str p.2) x=some (.str (gg ps x))
 |[],h=>by cases h
 |p::ps,h=>by
  simp only [List.map_cons,kU,gg]
  by_cases e:p.1=x
  ·rw [if_pos e,if_pos e]
  ·rw [if_neg e,if_neg e]
   exact nA (by simpa [Ne.symm e] using h)
noncomputable def cD (ps:List Pr) (r:Row):Row:=(gg ps r.1,r.2.map (gg ps))
noncomputable def alk (r s:Row):Bool:=decide (keyOf r=keyOf s)
noncomputable def dG (rows:List Row) (r:Row):List Row:=if (rows.any fun s=>alk s r)=true then rows else rows++[r]
noncomputable def aP:List Row→List Row→List Row
 |rows,[]=>rows
 |rows,r::rs=>aP (dG rows r) rs
theorem eB (rows:List Row) (r:Row):∀ (d:List Row),aP rows (d++[r])=dG (aP rows d) r:=fun d=>by
 induction d generalizing rows with
 |nil=>rfl
 |cons x d ih=>exact ih _
theorem t5 {rows:List Row}{r x:Row} (h:x∈dG rows r):x∈rows∨x=r:=by
 unfold dG at h
 split at h
 ·exact .inl h
 ·simpa using h
theorem t6 (rows:List Row) (r:Row):(dG rows r).length≤rows.length+1:=by
 unfold dG
 split <;> simp
theorem fD {x:Row}:∀ {d rows:List Row},x∈aP rows d→x∈rows∨x∈d
 |[],rows,h=>.inl h
 |r::d,rows,h=>by
  rcases fD (d:=d) h with z|z
  ·rcases t5 z with z|z
   ·exact .inl z
   ·exact .inr (by simp [z])
  ·exact .inr (by simp [z])
theorem cq:∀ (d rows:List Row),(aP rows d).length≤rows.length+d.length
 |[],rows=>by simp [aP]
 |r::d,rows=>by
  have h1:=cq d (dG rows r)
  have h2:=t6 rows r
  simp only [aP,List.length_cons]
  omega
theorem vK {k:Kd} (bs:List Bool):biU .any [(k,.lst (bs.map .bl))]=some (.loc,.bl (bs.any id)):=by
 show (iE (bs.map U.bl)).map _=_
 have:∀ bs:List Bool,iE (bs.map U.bl)=some bs:=fun bs=>by
  induction bs with
  |nil=>rfl
  |cons b bs ih=>show (iE (bs.map U.bl)).map _=_;rw [ih];rfl
 rw [this]
 rfl
theorem vL {k:Kd}{ps:List Pr} (h:(ps.map (·.1)).Nodup):biU .dict [(k,.lst (ps.map prU))]=some (.own,.dic (ps.map (·.1)) (ps.map fun p=>.str p.2)):=by
 have e:∀ ps:List Pr,iF (ps.map prU)=some ps:=fun ps=>by
  induction ps with
  |nil=>rfl
  |cons p ps ih =>
   show (iF (ps.map prU)).map ((p.1,p.2)::·)=_
   rw [ih]
   rfl
 show (iF (ps.map prU)).bind _=_
 rw [e]
 show (if (ps.map (·.1)).Nodup then _ else _)=_
 rw [if_pos h]
theorem gY {k:Kd}{ps:List Pr}{x:Str} (h:x∈ps.map (·.1)):eR (k,.dic (ps.map (·.1)) (ps.map fun p=>.str p.2)) (.str x)=some (kE k,.str (gg ps x)):=by
 show (kU _ _ x).map _=_
 rw [nA h]
 rfl
theorem eQ {k:Kd}{rows:List Row} (t:Bool):itU .seq [(k,if t=true then .tup (rows.map rwU) else .lst (rows.map rwU))]=some (rows.map fun r=>(kE k,rwU r)):=by
 cases t <;> (show some ((rows.map rwU).map _)=_;rw [List.map_map];rfl)
theorem gL (l:List Row):bz .ne (.lst (l.map rwU)) (.lst [])=some !l.isEmpty:=by
 simp only [bz]
 rw [if_pos ⟨by simp only [eqD];exact eqDL49 l,by simp [eqD,b8]⟩]
 cases l <;> simp [a5,bH]
where eqDL49:∀ rs:List Row,b8 49 (rs.map rwU)=true
 |[]=>by simp [b8]
 |r::rs=>by rw [List.map_cons,b8,eqDL49 rs];simp [rwU,eqD,b8,de]
end TM
namespace K
open PySem L2 TM W01
section
variable {Γ : Tab}
theorem rl {r:Row} (h:r.2.length<64):bN Γ bu [rwU r]=some (.ok (.loc,rwU (keyOf r))):=by
 have srt:=sorted_strs (k:=.loc) (ss:=r.2) h
 have j0:eR (.loc,rwU r) (.int 0)=some (.loc,.str r.1):=rfl
 have j1:eR (.loc,rwU r) (.int 1)=some (.loc,.tup (r.2.map .str)):=rfl
 apply aL (st0:=[some (.loc,rwU r)]) rfl (.inr rfl) (by simp [TM.start,eN,bu])
 repeat' (first|exact j0|exact j1|exact srt|exact (by decide:(2:Nat)≤sizeLine)|sizeOf_list_dec)
theorem rm (hΓ:∀ r:Row,r.2.length<64→Γ "in_one_order" [rwU r]=some (.ok (.loc,rwU (keyOf r)))) {r s:Row} (h:r.2.length<64) (h2:s.2.length<64):bN Γ eO [rwU r,rwU s]=some (.ok (.loc,.bl (alk r s))):=by
 apply aL (st0:=[some (.loc,rwU r),some (.loc,rwU s)]) rfl (.inr rfl) (by simp [TM.start,eN,eO])
 repeat' (first|exact hΓ r h|exact hΓ s h2|exact vE (op:=true)|sizeOf_list_dec)
theorem nB {r:Row}{ps:List Pr} (h8:r.2.length≤8) (h1:r.1∈ps.map (·.1)) (h2:∀ x∈r.2,x∈ps.map (·.1)):bN Γ dh [rwU r,.dic (ps.map (·.1)) (ps.map fun p=>.str p.2)]=some (.ok (.loc,rwU (cD ps r))):=by
 have hsz:(1000:Nat)≤sizeLine:=by decide
 let S:ak:=[some (.loc,rwU r),some (.any,.dic (ps.map (·.1)) (ps.map fun p=>.str p.2))]
 have hst:TM.start [rwU r,.dic (ps.map (·.1)) (ps.map fun p=>.str p.2)] 2=S:=by simp [TM.start,eN,imm,S]
 have hx:=ja (cond:=aU Γ []) (elt:=ev Γ (.idx (.var 2) (.var 0))) (src:=[(.loc,.tup (r.2.map .str))]) (st:=S) trivial .loc (.inl rfl) U.str (fun x=>.str (gg ps x)) .any (fun _=>j4) r.2 [] (by simp;omega)
  (fun x hx=>⟨bq (bF rfl) (af rfl) trivial (gY (h2 x hx)),mN rfl⟩)
 rw [List.nil_append] at hx
 have hc:Run (ev Γ (.comp 1 false .seq [(.idx (.var 0) (.cst (.int 1)))] [] (.idx (.var 2) (.var 0)))) S (.own,.lst (r.2.map fun x=>.str (gg ps x))) S :=
  cW (rs:=[(.loc,.tup (r.2.map .str))]) (ae (bq (x:=(.loc,rwU r)) (af rfl) ay trivial rfl) ao) trivial (by show some _=_;rw [List.map_map];rfl) hx
 have e:rwU (cD ps r)=.tup [.str (gg ps r.1),.tup (r.2.map fun x=>.str (gg ps x))]:=by simp [rwU,cD,List.map_map,Function.comp_def]
 rw [e]
 exact aL rfl (.inr rfl) hst (cE (jY (ae (bq (bF rfl) (bq (x:=(.loc,rwU r)) (af rfl) ay trivial rfl) trivial (gY h1)) (ae (cV (ae hc ao) trivial rfl) ao)) trivial (aK (mN rfl) (aK aS br)) (by show 2≤sizeLine;omega)) dN)
theorem o_ {rows:List Row}{r:Row} (hl:rows.length≤100) (h8:∀ s∈rows,s.2.length≤8) (hr:r.2.length≤8):bN Γ b7 [.lst (rows.map rwU),rwU r]=some (.ok (.loc,.bl (rows.any fun s=>alk s r))):=by
 have hsz:(1000:Nat)≤sizeLine:=by decide
 let S:ak:=[some (.any,.lst (rows.map rwU)),some (.loc,rwU r)]
 have hst:TM.start [.lst (rows.map rwU),rwU r] 2=S:=by simp [TM.start,eN,imm,S]
 have hx:=jb (cond:=aU Γ [(.and [(.cmp .eq (.idx (.var 0) (.cst (.int 0))) (.idx (.var 2) (.cst (.int 0)))),(.cmp .eq (.bi .sorted [(.idx (.var 0) (.cst (.int 1)))]) (.bi .sorted [(.idx (.var 2) (.cst (.int 1)))]))])]) (elt:=ev Γ (.var 0)) (src:=[(.any,.lst (rows.map rwU))]) (st:=S) trivial .any (.inr rfl) rwU rwU (fun s=>alk s r) .any rows [] (by simp;omega)
  (fun s hs=>⟨by
   have e:alk s r=(decide (s.1=r.1)&&decide (bo s.2=bo r.2)):=by
    unfold alk keyOf
    rw [Bool.eq_iff_iff]
    simp
   rw [e]
   exact dC (j3 (oO (b9 (bq (x:=(.any,rwU s)) (bF rfl) ay trivial rfl) (bq (x:=(.loc,rwU r)) (af rfl) ay trivial rfl) trivial vF) fun _=>dC (b9 (cV (ae (bq (x:=(.any,rwU s)) (bF rfl) ay trivial rfl) ao) trivial (sorted_strs (by have:=h8 s hs;omega))) (cV (ae (bq (x:=(.loc,rwU r)) (af rfl) ay trivial rfl) ao) trivial (sorted_strs (by omega))) trivial tN))),fun _=>⟨bF rfl,mN (eN s)⟩⟩)
 rw [List.nil_append] at hx
 have hc:=cW (Γ:=Γ) (k:=1) (t:=false) (ik:=.seq) (src:=[(.var 0)]) (st:=S) (st1:=S) (rs:=[(.any,.lst (rows.map rwU))]) (ae (bF rfl) ao) trivial (eQ (k:=.any) (rows:=rows) false) hx
 have e:(rows.any fun s=>alk s r)=!(rows.filter fun s=>alk s r).isEmpty:=by
  rw [Bool.eq_iff_iff]
  simp [List.any_eq_true,List.isEmpty_iff,List.filter_eq_nil_iff]
 rw [e]
 exact aL rfl (.inr rfl) hst (cE (s9 hc (ef ao trivial br (Nat.zero_le _)) trivial (gL _)) dN)
end
end K
namespace K
open PySem L2 TM W01
section
variable {Γ : Tab}
theorem vM {ps:List Pr}{r:Row} (h:r.2.length≤8):(cD ps r).2.length≤8:=by simpa [cD] using h
theorem yg {n:Nat}{one:List Row}{d:List Row} (h1:∀ r∈one,r.2.length≤n) (h2:∀ r∈d,r.2.length≤n):∀ r∈aP one d,r.2.length≤n:=fun r hr=>(fD hr).elim (h1 r) (h2 r)
theorem t7 {one other:List Row}{same:List Str}{ps:List Pr} (hnew:Γ "new_names" [.tup (one.map rwU),.tup (other.map rwU),.lst (same.map .str)]=some (.ok (.own,.lst (ps.map prU)))) (hnd:(ps.map (·.1)).Nodup)
  (hren:∀ r:Row,r.2.length≤8→r.1∈ps.map (·.1)→(∀ x∈r.2,x∈ps.map (·.1))→Γ "renamed" [rwU r,.dic (ps.map (·.1)) (ps.map fun p=>.str p.2)]=some (.ok (.loc,rwU (cD ps r))))
  (hal:∀ r s:Row,r.2.length<64→s.2.length<64→Γ "alike" [rwU r,rwU s]=some (.ok (.loc,.bl (alk r s))))
  (h1:∀ r∈one,r.2.length≤8) (h2:∀ r∈other,r.2.length≤8) (hk:∀ r∈other,r.1∈ps.map (·.1)∧∀ x∈r.2,x∈ps.map (·.1)) (hl:one.length+other.length≤60) :
  bN Γ jc [.tup (one.map rwU),.tup (other.map rwU),.lst (same.map .str)]=some (.ok (.loc,.tup ((aP one (other.map (cD ps))).map rwU))):=by
 have hsz:(1000:Nat)≤sizeLine:=by decide
 let D:U:=.dic (ps.map (·.1)) (ps.map fun p=>.str p.2)
 let S:=fun (us:List U) (o5 o6:Option (Kd×U))=>([some (.loc,.tup (one.map rwU)),some (.loc,.tup (other.map rwU)),some (.any,.lst (same.map .str)),some (.own,D),some (.own,.lst us),o5,o6]:ak)
 have hst:TM.start [.tup (one.map rwU),.tup (other.map rwU),.lst (same.map .str)] 7=[some (.loc,.tup (one.map rwU)),some (.loc,.tup (other.map rwU)),some (.any,.lst (same.map .str)),none,none,none,none]:=by simp [TM.start,imm,bX]
 obtain ⟨st',hrun,_,o5,o6,e⟩:=fo (t:=false) (is:=[5]) (body:=execs Γ [.set 6 (.call "renamed" [(.var 5),(.var 3)]),.ite (.not (.bi .any [(.comp 1 false .seq [(.var 4)] [] (.call "alike" [(.var 0),(.var 7)]))])) [.app 4 (.var 6)] []]) (rs:=[(.loc,.tup (other.map rwU))]) (fun r:Row=>(Kd.loc,rwU r))
  (fun d r st=>d++r=other∧∃ o5 o6,st=S ((aP one (d.map (cD ps))).map rwU) o5 o6) (fun _ _ _ _=>trivial) (fun d y r st hIx=>by
   obtain ⟨hdr,o5,o6,e⟩:=hIx
   subst e
   have hy:y∈other:=by rw [←hdr];simp
   obtain ⟨k1,k2⟩:=hk y hy
   have hdl:d.length<other.length:=by have:=congrArg List.length hdr;simp at this;omega
   let R:=aP one (d.map (cD ps))
   have hR8:∀ s∈R,s.2.length≤8:=yg h1 fun s hs=>by
    obtain ⟨t,ht,rfl⟩:=List.mem_map.mp hs
    exact vM (h2 t (by rw [←hdr];simp [ht]))
   have hRl:R.length≤60:=by
    have:=cq (d.map (cD ps)) one
    rw [List.length_map] at this
    show (aP one (d.map (cD ps))).length≤60
    omega
   let y':=cD ps y
   have hy8:y'.2.length≤8:=vM (h2 y hy)
   let i5:Option (Kd×U):=some (.loc,rwU y)
   let i6:Option (Kd×U):=some (.loc,rwU y')
   have g6:Run (ev Γ (.call "renamed" [(.var 5),(.var 3)])) (S (R.map rwU) i5 o6) (.loc,rwU y') (S (R.map rwU) i5 o6):=bG (ae (af rfl) (ae (av rfl) ao)) ⟨⟨.own,rfl,rfl⟩,trivial⟩ (hren y (h2 y hy) k1 k2)
   have hx:=ja (cond:=aU Γ []) (elt:=ev Γ (.call "alike" [(.var 0),(.var 7)])) (src:=[(.bor 4,.lst (R.map rwU))]) (st:=S (R.map rwU) i5 i6) ⟨⟨.own,rfl,rfl⟩,trivial⟩ .loc (.inl rfl) rwU (fun s=>.bl (alk s y')) .loc (fun _=>j4) R [] (by simp;omega)
    (fun s hs=>⟨bG (ae (af rfl) (ae (af rfl) ao)) trivial (hal s y' (by have:=hR8 s hs;omega) (by omega)),aS⟩)
   rw [List.nil_append] at hx
   have hc:=cW (Γ:=Γ) (k:=1) (t:=false) (ik:=.seq) (src:=[(.var 4)]) (st:=S (R.map rwU) i5 i6) (st1:=S (R.map rwU) i5 i6) (rs:=[(.bor 4,.lst (R.map rwU))]) (ae (av rfl) ao) ⟨⟨.own,rfl,rfl⟩,trivial⟩ (eQ (k:=.bor 4) (rows:=R) false) hx
   have ha:biU .any [(.own,.lst (R.map fun s=>U.bl (alk s y')))]=some (.loc,.bl (R.any fun s=>alk s y')):=by
    have:=vK (k:=.own) (R.map fun s=>alk s y')
    rw [List.map_map,List.any_map] at this
    exact this
   have tc:Run (tst Γ (.not (.bi .any [(.comp 1 false .seq [(.var 4)] [] (.call "alike" [(.var 0),(.var 7)]))]))) (S (R.map rwU) i5 i6) (!R.any fun s=>alk s y') (S (R.map rwU) i5 i6):=jZ (ya (cV (ae hc ao) trivial ha))
   have hA:(aP one ((d++[y]).map (cD ps)))=dG R y':=by rw [List.map_append];exact eB _ _ _
   refine ⟨S (R.map rwU) i5 o6,S ((dG R y').map rwU) i5 i6,cm aA,aw g6 aA (gc tc (fun h=>?_) fun h=>?_),by rw [←hdr];simp,i5,i6,by rw [hA]⟩
   ·have hn:¬ (R.any fun s=>alk s y')=true:=by simpa using h
    rw [dG,if_neg hn,List.map_append]
    exact gH (k:=.own) (k':=.own) (r:=(.loc,rwU y')) (us:=R.map rwU) rfl (af rfl) aS rfl rfl (by rw [List.length_map];omega) aT
   ·have hn:(R.any fun s=>alk s y')=true:=by simpa using h
    rw [dG,if_pos hn]
    exact aT) other [] (S (one.map rwU) none none) ⟨rfl,none,none,rfl⟩
 subst e
 rw [List.nil_append] at hrun
 let R:=aP one (other.map (cD ps))
 have hRl:R.length≤60:=by
  have:=cq (other.map (cD ps)) one
  rw [List.length_map] at this
  show (aP one (other.map (cD ps))).length≤60
  omega
 have tg:Run (tst Γ (.cmp .gt (.bi .len [(.var 4)]) (.glb "MOST_ROWS" (.int 60)))) (S (R.map rwU) o5 o6) false (S (R.map rwU) o5 o6):=by
  refine b9 (cV (ae (av rfl) ao) ⟨⟨.own,rfl,rfl⟩,trivial⟩ rfl) sZ trivial ?_
  show some (decide ((60:Int)<((R.map rwU).length:Nat)))=_
  rw [List.length_map,decide_eq_false (by omega)]
 exact aL rfl (.inr rfl) hst (aw (r:=(.own,D)) (cV (ae (bG (ae (af rfl) (ae (af rfl) (ae (bF rfl) ao))) trivial hnew) ao) trivial (vL hnd)) a_
  (aw (r:=(.own,.lst (one.map rwU))) (cV (ae (af rfl) ao) trivial rfl) a_
   (da (rs:=[(.loc,.tup (other.map rwU))]) (ae (af rfl) ao) trivial (eQ (k:=.loc) (rows:=other) true) rfl hrun
    (gc tg (fun h=>by cases h) fun _=>cE (cV (ae (av rfl) ao) ⟨⟨.own,rfl,rfl⟩,trivial⟩ rfl) dN))))
theorem vN {one other:List Row}{same:List Str}{ps:List Pr} (hnew:Γ "_law_renamed" [.tup (one.map rwU),.tup (other.map rwU),.lst (same.map .str)]=some (.ok (.own,.dic (ps.map (·.1)) (ps.map fun p=>.str p.2))))
  (hstd:∀ (rows:List Row) (r:Row),rows.length≤100→(∀ s∈rows,s.2.length≤8)→r.2.length≤8→Γ "_law_stands" [.lst (rows.map rwU),rwU r]=some (.ok (.loc,.bl (rows.any fun s=>alk s r))))
  (h1:∀ r∈one,r.2.length≤8) (h2:∀ r∈other,r.2.length≤8) (hk:∀ r∈other,r.1∈ps.map (·.1)∧∀ x∈r.2,x∈ps.map (·.1)) (hl:one.length+other.length≤60) :
  bN Γ di [.tup (one.map rwU),.tup (other.map rwU),.lst (same.map .str)]=some (.ok (.loc,.tup ((aP one (other.map (cD ps))).map rwU))):=by
 have hsz:(1000:Nat)≤sizeLine:=by decide
 let D:U:=.dic (ps.map (·.1)) (ps.map fun p=>.str p.2)
 let S:=fun (us:List U) (o5 o6 o7:Option (Kd×U))=>([some (.loc,.tup (one.map rwU)),some (.loc,.tup (other.map rwU)),some (.any,.lst (same.map .str)),some (.own,D),some (.own,.lst us),o5,o6,o7]:ak)
 have hst:TM.start [.tup (one.map rwU),.tup (other.map rwU),.lst (same.map .str)] 8=[some (.loc,.tup (one.map rwU)),some (.loc,.tup (other.map rwU)),some (.any,.lst (same.map .str)),none,none,none,none,none]:=by simp [TM.start,imm,bX]
 obtain ⟨st',hrun,_,o5,o6,o7,e⟩:=fo (t:=true) (is:=[5,6]) (body:=execs Γ [.set 7 (.tup [(.idx (.var 3) (.var 5)),(.bi .tuple [(.comp 1 false .seq [(.var 6)] [] (.idx (.var 4) (.var 0)))])]),.ite (.not (.call "_law_stands" [(.var 4),(.var 7)])) [.app 4 (.var 7)] []]) (rs:=[(.loc,.tup (other.map rwU))]) (fun r:Row=>(Kd.loc,rwU r))
  (fun d r st=>d++r=other∧∃ o5 o6 o7,st=S ((aP one (d.map (cD ps))).map rwU) o5 o6 o7) (fun _ _ _ _=>trivial) (fun d y r st hIx=>by
   obtain ⟨hdr,o5,o6,o7,e⟩:=hIx
   subst e
   have hy:y∈other:=by rw [←hdr];simp
   obtain ⟨k1,k2⟩:=hk y hy
   have hy2:=h2 y hy
   have hdl:d.length<other.length:=by have:=congrArg List.length hdr;simp at this;omega
   let R:=aP one (d.map (cD ps))
   have hR8:∀ s∈R,s.2.length≤8:=yg h1 fun s hs=>by
    obtain ⟨t,ht,rfl⟩:=List.mem_map.mp hs
    exact vM (h2 t (by rw [←hdr];simp [ht]))
   have hRl:R.length≤60:=by
    have:=cq (d.map (cD ps)) one
    rw [List.length_map] at this
    show (aP one (d.map (cD ps))).length≤60
    omega
   let y':=cD ps y
   have hy8:y'.2.length≤8:=vM hy2
   let i5:Option (Kd×U):=some (.loc,.str y.1)
   let i6:Option (Kd×U):=some (.loc,.tup (y.2.map .str))
   let i7:Option (Kd×U):=some (.loc,rwU y')
   have hx:=ja (cond:=aU Γ []) (elt:=ev Γ (.idx (.var 4) (.var 0))) (src:=[(.loc,.tup (y.2.map .str))]) (st:=S (R.map rwU) i5 i6 o7) trivial .loc (.inl rfl) U.str (fun x=>.str (gg ps x)) .loc (fun _=>j4) y.2 [] (by simp;omega)
    (fun x hx=>⟨bq (av rfl) (af rfl) ⟨⟨.own,rfl,rfl⟩,trivial⟩ (gY (k:=.bor 4) (k2 x hx)),aS⟩)
   rw [List.nil_append] at hx
   have hc:Run (ev Γ (.comp 1 false .seq [(.var 6)] [] (.idx (.var 4) (.var 0)))) (S (R.map rwU) i5 i6 o7) (.own,.lst (y.2.map fun x=>.str (gg ps x))) (S (R.map rwU) i5 i6 o7) :=
    cW (rs:=[(.loc,.tup (y.2.map .str))]) (ae (af rfl) ao) trivial (by show some _=_;rw [List.map_map];rfl) hx
   have ey:rwU y'=.tup [.str (gg ps y.1),.tup (y.2.map fun x=>.str (gg ps x))]:=by simp [rwU,y',cD,List.map_map,Function.comp_def]
   have g7:Run (ev Γ (.tup [(.idx (.var 3) (.var 5)),(.bi .tuple [(.comp 1 false .seq [(.var 6)] [] (.idx (.var 4) (.var 0)))])])) (S (R.map rwU) i5 i6 o7) (.loc,rwU y') (S (R.map rwU) i5 i6 o7):=by
    rw [ey]
    exact jY (ae (bq (av rfl) (af rfl) ⟨⟨.own,rfl,rfl⟩,trivial⟩ (gY (k:=.bor 3) k1)) (ae (cV (ae hc ao) trivial rfl) ao)) trivial (aK aS (aK aS br)) (by show 2≤sizeLine;omega)
   have tc:Run (tst Γ (.not (.call "_law_stands" [(.var 4),(.var 7)]))) (S (R.map rwU) i5 i6 i7) (!R.any fun s=>alk s y') (S (R.map rwU) i5 i6 i7):=jZ (tM (ae (av rfl) (ae (af rfl) ao)) ⟨⟨.own,rfl,rfl⟩,trivial⟩ (hstd R y' (by omega) hR8 hy8) rfl)
   have hA:(aP one ((d++[y]).map (cD ps)))=dG R y':=by rw [List.map_append];exact eB _ _ _
   refine ⟨S (R.map rwU) i5 i6 o7,S ((dG R y').map rwU) i5 i6 i7,ab (a:=()) aA (ab (a:=()) aA aX),aw g7 aA (gc tc (fun h=>?_) fun h=>?_),by rw [←hdr];simp,i5,i6,i7,by rw [hA]⟩
   ·have hn:¬ (R.any fun s=>alk s y')=true:=by simpa using h
    rw [dG,if_neg hn,List.map_append]
    exact gH (k:=.own) (k':=.own) (r:=(.loc,rwU y')) (us:=R.map rwU) rfl (af rfl) aS rfl rfl (by rw [List.length_map];omega) aT
   ·have hn:(R.any fun s=>alk s y')=true:=by simpa using h
    rw [dG,if_pos hn]
    exact aT) other [] (S (one.map rwU) none none none) ⟨rfl,none,none,none,rfl⟩
 subst e
 rw [List.nil_append] at hrun
 exact aL rfl (.inr rfl) hst (aw (r:=(.own,D)) (bG (ae (af rfl) (ae (af rfl) (ae (bF rfl) ao))) trivial hnew) a_
  (aw (r:=(.own,.lst (one.map rwU))) (cV (ae (af rfl) ao) trivial rfl) a_
   (da (rs:=[(.loc,.tup (other.map rwU))]) (ae (af rfl) ao) trivial (eQ (k:=.loc) (rows:=other) true) rfl hrun
    (cE (cV (ae (av rfl) ao) ⟨⟨.own,rfl,rfl⟩,trivial⟩ rfl) dN))))
noncomputable def fE (r:Row):Row:=(r.1,r.2.reverse)
theorem t8 {one other:List Row}{k:Int}
  (hstd:∀ (rows:List Row) (r:Row),rows.length≤100→(∀ s∈rows,s.2.length≤8)→r.2.length≤8→Γ "_law_stands" [.lst (rows.map rwU),rwU r]=some (.ok (.loc,.bl (rows.any fun s=>alk s r))))
  (h1:∀ r∈one,r.2.length≤8) (h2:∀ r∈other,r.2.length≤8) (hl:one.length+other.length≤60) :
  bN Γ cM [.tup (one.map rwU),.tup (other.map rwU),.int k]=some (.ok (.loc,.tup ((aP other ((cut one none (some k)).map fE)).map rwU))):=by
 have hsz:(1000:Nat)≤sizeLine:=by decide
 let S:=fun (us:List U) (o4 o5 o6:Option (Kd×U))=>([some (.loc,.tup (one.map rwU)),some (.loc,.tup (other.map rwU)),some (.loc,.int k),some (.own,.lst us),o4,o5,o6]:ak)
 have hst:TM.start [.tup (one.map rwU),.tup (other.map rwU),.int k] 7=[some (.loc,.tup (one.map rwU)),some (.loc,.tup (other.map rwU)),some (.loc,.int k),none,none,none,none]:=by simp [TM.start,imm,bX]
 let C:=cut one none (some k)
 have hCl:C.length≤one.length:=ql one none (some k)
 have hC8:∀ r∈C,r.2.length≤8:=fun r hr=>h1 r (qo hr)
 obtain ⟨st',hrun,_,o5,o6,o7,e⟩:=fo (t:=true) (is:=[4,5]) (body:=execs Γ [.set 6 (.tup [(.var 4),(.bi2 .revT [(.var 5)])]),.ite (.not (.call "_law_stands" [(.var 3),(.var 6)])) [.app 3 (.var 6)] []]) (rs:=[(.loc,.tup (C.map rwU))]) (fun r:Row=>(Kd.loc,rwU r))
  (fun d r st=>d++r=C∧∃ o5 o6 o7,st=S ((aP other (d.map fE)).map rwU) o5 o6 o7) (fun _ _ _ _=>trivial) (fun d y r st hIx=>by
   obtain ⟨hdr,o5,o6,o7,e⟩:=hIx
   subst e
   have hy:y∈C:=by rw [←hdr];simp
   have hy2:=hC8 y hy
   have hdl:d.length<C.length:=by have:=congrArg List.length hdr;simp at this;omega
   let R:=aP other (d.map fE)
   have hR8:∀ s∈R,s.2.length≤8:=yg h2 fun s hs=>by
    obtain ⟨t,ht,rfl⟩:=List.mem_map.mp hs
    simpa [fE] using hC8 t (by rw [←hdr];simp [ht])
   have hRl:R.length≤60:=by
    have:=cq (d.map fE) other
    rw [List.length_map] at this
    show (aP other (d.map fE)).length≤60
    omega
   let y':=fE y
   have hy8:y'.2.length≤8:=by simpa [y',fE] using hy2
   let i4:Option (Kd×U):=some (.loc,.str y.1)
   let i5:Option (Kd×U):=some (.loc,.tup (y.2.map .str))
   let i6:Option (Kd×U):=some (.loc,rwU y')
   have ey:rwU y'=.tup [.str y.1,.tup (y.2.map .str).reverse]:=by simp [rwU,y',fE]
   have g6:Run (ev Γ (.tup [(.var 4),(.bi2 .revT [(.var 5)])])) (S (R.map rwU) i4 i5 o7) (.loc,rwU y') (S (R.map rwU) i4 i5 o7):=by
    rw [ey]
    exact jY (ae (af rfl) (ae (s_ (ae (af rfl) ao) trivial rfl) ao)) trivial (aK aS (aK aS br)) (by show 2≤sizeLine;omega)
   have tc:Run (tst Γ (.not (.call "_law_stands" [(.var 3),(.var 6)]))) (S (R.map rwU) i4 i5 i6) (!R.any fun s=>alk s y') (S (R.map rwU) i4 i5 i6):=jZ (tM (ae (av rfl) (ae (af rfl) ao)) ⟨⟨.own,rfl,rfl⟩,trivial⟩ (hstd R y' (by omega) hR8 hy8) rfl)
   have hA:(aP other ((d++[y]).map fE))=dG R y':=by rw [List.map_append];exact eB _ _ _
   refine ⟨S (R.map rwU) i4 i5 o7,S ((dG R y').map rwU) i4 i5 i6,ab (a:=()) aA (ab (a:=()) aA aX),aw g6 aA (gc tc (fun h=>?_) fun h=>?_),by rw [←hdr];simp,i4,i5,i6,by rw [hA]⟩
   ·have hn:¬ (R.any fun s=>alk s y')=true:=by simpa using h
    rw [dG,if_neg hn,List.map_append]
    exact gH (k:=.own) (k':=.own) (r:=(.loc,rwU y')) (us:=R.map rwU) rfl (af rfl) aS rfl rfl (by rw [List.length_map];omega) aT
   ·have hn:(R.any fun s=>alk s y')=true:=by simpa using h
    rw [dG,if_pos hn]
    exact aT) C [] (S (other.map rwU) none none none) ⟨rfl,none,none,none,rfl⟩
 subst e
 rw [List.nil_append] at hrun
 have hsl:jy (.loc,.tup (one.map rwU)) none (some k)=some (.loc,.tup (C.map rwU)):=by
  show some (Kd.loc,U.tup (cut (one.map rwU) none (some k)))=_
  rw [qk]
 exact aL rfl (.inr rfl) hst (aw (r:=(.own,.lst (other.map rwU))) (cV (ae (af rfl) ao) trivial rfl) a_
  (da (rs:=[(.loc,.tup (C.map rwU))]) (ae (p9 (af rfl) p7 (p8 (af rfl)) trivial hsl) ao) trivial (eQ (k:=.loc) (rows:=C) true) rfl hrun
   (cE (cV (ae (av rfl) ao) ⟨⟨.own,rfl,rfl⟩,trivial⟩ rfl) dN)))
end
end K
namespace TM
open PySem L2 W01
noncomputable def DD (ps:List Pr):U:=.dic (ps.map (·.1)) (ps.map fun p=>.str p.2)
theorem vO {ps:List Pr}{w x:Str} (h:w∉ps.map (·.1)) (hl:ps.length<1000):fX (.str w) (.str x) (DD ps)=some (DD (ps++[(w,x)])):=by
 unfold DD
 rw [gX (by rw [List.length_map];exact hl)]
 unfold dput
 rw [if_neg h]
 simp
theorem vP {ps:List Pr}{w x y:Str} (h:w∉ps.map (·.1)) (hl:ps.length<900):fX (.str w) (.str y) (DD (ps++[(w,x)]))=some (DD (ps++[(w,y)])):=by
 unfold DD
 rw [gX (by rw [List.length_map,List.length_append];simp;omega)]
 unfold dput
 rw [if_pos (by simp)]
 have e:∀ ps:List Pr,w∉ps.map (·.1)→((ps.map (·.1)).zip (ps.map fun p=>U.str p.2)).map (fun p=>if p.1=w then U.str y else p.2)=ps.map fun p=>U.str p.2:=fun ps=>by
  induction ps with
  |nil=>intro _;rfl
  |cons p ps ih =>
   intro h
   have h':¬ w=p.1∧w∉ps.map (·.1):=by simpa using h
   rw [List.map_cons,List.map_cons,List.zip_cons_cons,List.map_cons,ih h'.2,if_neg (fun z=>h'.1 z.symm)]
 have e2:(((ps++[(w,x)]).map (·.1)).zip ((ps++[(w,x)]).map fun p=>U.str p.2)).map (fun p=>if p.1=w then U.str y else p.2)=(ps.map fun p=>U.str p.2)++[.str y]:=by
  rw [List.map_append,List.map_append,List.zip_append (by simp),List.map_append,e ps h]
  simp
 rw [e2]
 simp
section
variable {Γ : Tab} {st : ak}
theorem zr {i:Nat}{u:U}{r:Kd×U} (h0:st[i]?=some (some (.own,u))) (h1:so u=some r):Run (ev Γ (.vls i)) st r st:=ab (iU h0) (cL h1)
end
theorem vQ (ps:List Pr):so (DD ps)=some (.own,.lst ((ps.map (·.2)).map .str)):=by
 have e:(ps.map fun p=>U.str p.2)=(ps.map (·.2)).map .str:=by rw [List.map_map];rfl
 show (strsOf (ps.map fun p=>U.str p.2)).map _=_
 rw [e,cH]
 rfl
end TM
namespace K
open PySem L2 TM W01
section
variable {Γ : Tab} {one other : List Row} {same : List Str}
noncomputable def vR:List TM.S:=[.put 5 (.var 6) (.var 6),
   .ite (.and [(.cmp .isin (.var 6) (.var 3)),(.cmp .notin (.var 6) (.var 2))])
    [.set 7 (.comp 1 false .rng2 [(.cst (.int 2)),(.cst (.int 100))] [] (.bin .add (.bin .add (.idx (.mth .split (.var 7) [(.cst (.str "/"))]) (.cst (.int 0))) (.cst (.str "/"))) (.bi .str [(.var 0)]))),
    .set 8 (.bin .add (.bin .add (.var 3) (.var 4)) (.vls 5)),
    .put 5 (.var 6) (.idx (.comp 1 false .seq [(.var 7)] [(.cmp .notin (.var 0) (.var 9))] (.var 0)) (.cst (.int 0)))]
    []]
theorem jh {mine theirs:List Str}{o0 o1:Option (Kd×U)} (hm:mine.length≤14) (ht:theirs.length≤14) (hnd:theirs.Nodup) (hw:∀ x∈theirs,bb x.cps.toList):∀ (ws:List Str) (acc:List Pr) (o6 o7 o8:Option (Kd×U)),acc.map (·.1)++ws=theirs →
  ∃ o6' o7' o8',Run (forM false [6] (execs Γ vR) [(.bor 4,.lst (theirs.map .str))] (ws.map fun x=>(Kd.loc,U.str x))) [o0,o1,some (.any,.lst (same.map .str)),some (.own,.lst (mine.map .str)),some (.own,.lst (theirs.map .str)),some (.own,DD acc),o6,o7,o8] .nx
   [o0,o1,some (.any,.lst (same.map .str)),some (.own,.lst (mine.map .str)),some (.own,.lst (theirs.map .str)),some (.own,DD (gR mine theirs same acc ws)),o6',o7',o8']
 |[],acc,o6,o7,o8,_=>⟨o6,o7,o8,mO ⟨⟨.own,rfl,rfl⟩,trivial⟩⟩
 |w::ws,acc,o6,o7,o8,hacc=>by
  have hsz:(1000:Nat)≤sizeLine:=by decide
  have hwt:w∈theirs:=by rw [←hacc];simp
  have hal:acc.length<14:=by have:=congrArg List.length hacc;simp at this;omega
  have hwn:w∉acc.map (·.1):=fun z=>by
   have:=hnd
   rw [←hacc,List.nodup_append] at this
   exact this.2.2 w z w (by simp) rfl
  have hwc:=hw w hwt
  let S:=fun (d:U) (o7 o8:Option (Kd×U))=>([o0,o1,some (.any,.lst (same.map .str)),some (.own,.lst (mine.map .str)),some (.own,.lst (theirs.map .str)),some (.own,d),some (.loc,.str w),o7,o8]:ak)
  let A1:=acc++[(w,w)]
  have tc:Run (tst Γ (.and [(.cmp .isin (.var 6) (.var 3)),(.cmp .notin (.var 6) (.var 2))])) (S (DD A1) o7 o8) (decide (w∈mine)&&decide (w∉same)) (S (DD A1) o7 o8) :=
   j3 (oO (b9 (af rfl) (av rfl) ⟨⟨.own,rfl,rfl⟩,trivial⟩ wm) fun _=>dC (b9 (af rfl) (bF rfl) trivial df))
  have put1:∀ {rest:List TM.S} {f:Fl} {st':ak},Run (execs Γ rest) (S (DD A1) o7 o8) f st'→Run (execs Γ (.put 5 (.var 6) (.var 6)::rest)) (S (DD acc) o7 o8) f st':=fun h =>
   mV (st1:=S (DD acc) o7 o8) (st2:=S (DD acc) o7 o8) (st3:=S (DD acc) o7 o8) (k:=.own) (k':=.own) (af rfl) rfl (af rfl) (aK aS (aK aS br)) rfl rfl (vO hwn (by omega)) h
  by_cases hc:w∈mine∧w∉same
  ·have hb:(decide (w∈mine)&&decide (w∉same))=true:=by simp [hc.1,hc.2]
   rw [hb] at tc
   obtain ⟨hs,r,hsp⟩:=ka hwc
   have hwl:w.length≤11:=by rw [len_list];exact hwc.len.2
   let L:=mine++theirs++A1.map (·.2)
   have hx:newName mine theirs same acc w=dk (stemOf w) L:=by
    unfold newName
    rw [if_pos hc]
    refine jf _ fun x=>?_
    show _↔x∈mine++theirs++(acc++[(w,w)]).map (·.2)
    simp only [List.map_append,List.map_cons,List.map_nil,List.mem_append,List.mem_singleton]
    exact ⟨fun q=>q.elim .inl fun q=>.inr (.inl q),fun q=>q.elim .inl fun q=>q.elim .inr fun e=>.inl (.inr (e ▸ hwt))⟩
   let x:=newName mine theirs same acc w
   have hsplit:fW .split (.str w) [(.loc,.str "/")]=some (.own,.lst ((stemOf w::r).map U.str)):=by
    show (if (Str.length "/"==0)=false∧w.length+2≤sizeLine then some (Kd.own,U.lst ((Txt.split w "/").map .str)) else none)=_
    rw [if_pos ⟨by decide,by omega⟩,show ("/":Str)=dU from rfl,hsp]
   have hix:eR (.own,.lst ((stemOf w::r).map U.str)) (.int 0)=some (.loc,.str (stemOf w)):=aM (by show atI _ ((0:Nat):Int)=_;exact bZ rfl)
   have g7:Run (ev Γ (.comp 1 false .rng2 [(.cst (.int 2)),(.cst (.int 100))] [] (.bin .add (.bin .add (.idx (.mth .split (.var 7) [(.cst (.str "/"))]) (.cst (.int 0))) (.cst (.str "/"))) (.bi .str [(.var 0)])))) (S (DD A1) o7 o8) (.own,.lst ((cands (stemOf w)).map .str)) (S (DD A1) o7 o8):=by
    have hx:=ja (cond:=aU Γ []) (elt:=ev Γ (.bin .add (.bin .add (.idx (.mth .split (.var 7) [(.cst (.str "/"))]) (.cst (.int 0))) (.cst (.str "/"))) (.bi .str [(.var 0)]))) (src:=[(.loc,.int 2),(.loc,.int 100)]) (st:=S (DD A1) o7 o8) trivial .loc (.inl rfl) (fun i:Nat=>U.int (2+(i:Int))) (fun i=>.str (nm (stemOf w) i)) .loc (fun _=>j4) (List.range 98) [] (by simp;omega)
     (fun i hi=>by
      have hi98:=List.mem_range.mp hi
      have hnl:=c_ (k:=2+(i:Int)) (by omega) (by omega)
      have hstr:biU .str [(.loc,.int (2+(i:Int)))]=some (.loc,.str (fL (2+(i:Int)))):=by
       simp only [biU,eS,sm]
       rw [if_pos (by
        have:(2+(i:Int)).natAbs<2 ^ 7:=by omega
        have h2:(2+(i:Int)).natAbs≠0:=by omega
        have:=(Nat.log2_lt h2).mpr this
        omega)]
       rfl
      have hsl1:(stemOf w++("/":Str)).length=(stemOf w).length+1:=str_len _ _
      exact ⟨a9 (a9 (bq (mM (af rfl) (ae ay ao) trivial hsplit) ay trivial hix) ay trivial (eM (by show (stemOf w).length+1≤sizeLine;omega))) (cV (ae (af rfl) ao) trivial hstr) trivial (eM (by rw [hsl1];omega)),aS⟩)
    rw [List.nil_append] at hx
    have e2:(cands (stemOf w)).map U.str=(List.range 98).map fun i=>U.str (nm (stemOf w) i):=by unfold cands;rw [List.map_map];rfl
    rw [e2]
    exact cW (rs:=[(.loc,.int 2),(.loc,.int 100)]) (ae ay (ae ay ao)) trivial rfl hx
   let i7:Option (Kd×U):=some (.own,.lst ((cands (stemOf w)).map .str))
   have g8:Run (ev Γ (.bin .add (.bin .add (.var 3) (.var 4)) (.vls 5))) (S (DD A1) i7 o8) (.own,.lst (L.map .str)) (S (DD A1) i7 o8):=by
    refine a9 (a9 (av rfl) (av rfl) ⟨⟨.own,rfl,rfl⟩,⟨.own,rfl,rfl⟩,trivial⟩ (ei (by simp;omega) rfl rfl)) (zr rfl (vQ A1)) trivial ?_
    rw [ei (by simp [A1];omega) rfl rfl]
    show _=some (Kd.own,U.lst ((mine++theirs++A1.map (·.2)).map U.str))
    simp only [List.map_append]
   let i8:Option (Kd×U):=some (.own,.lst (L.map .str))
   have g5:Run (ev Γ (.idx (.comp 1 false .seq [(.var 7)] [(.cmp .notin (.var 0) (.var 9))] (.var 0)) (.cst (.int 0)))) (S (DD A1) i7 i8) (.loc,.str x) (S (DD A1) i7 i8):=by
    have hLl:L.length≤43:=by show (mine++theirs++(acc++[(w,w)]).map (·.2)).length≤43;simp;omega
    have hx0:=jb (cond:=aU Γ [(.cmp .notin (.var 0) (.var 9))]) (elt:=ev Γ (.var 0)) (src:=[(.bor 7,.lst ((cands (stemOf w)).map .str))]) (st:=S (DD A1) i7 i8) ⟨⟨.own,rfl,rfl⟩,trivial⟩ .loc (.inl rfl) U.str U.str (fun z=>decide (z∉L)) .loc (cands (stemOf w)) [] (by simp [cands];omega)
     (fun z _=>⟨dC (b9 (af rfl) (av rfl) ⟨⟨.own,rfl,rfl⟩,trivial⟩ df),fun _=>⟨af rfl,aS⟩⟩)
    rw [List.nil_append] at hx0
    have e:((cands (stemOf w)).map U.str).map (fun u=>(kE (.bor 7),u))=(cands (stemOf w)).map fun p=>(Kd.loc,U.str p):=by rw [List.map_map];rfl
    have hf:=(gw (stemOf w) (L:=L) (by omega)).1
    rw [←hx,←List.head?_filter] at hf
    have ha:atI (((cands (stemOf w)).filter fun z=>decide (z∉L)).map U.str) 0=some (.str x):=by
     show atI _ ((0:Nat):Int)=_
     refine bZ ?_
     rw [List.getElem?_map,←List.head?_eq_getElem?,hf]
     rfl
    exact bq (cW (rs:=[(.bor 7,.lst ((cands (stemOf w)).map .str))]) (ae (av rfl) ao) ⟨⟨.own,rfl,rfl⟩,trivial⟩ (by show some _=_;rw [e]) hx0) ay trivial (aM ha)
   obtain ⟨q6,q7,q8,hr⟩:=jh (o0:=o0) (o1:=o1) hm ht hnd hw ws (acc++[(w,x)]) (some (.loc,.str w)) i7 i8 (by rw [←hacc];simp)
   exact ⟨q6,q7,q8,mP ⟨⟨.own,rfl,rfl⟩,trivial⟩ (cm aA) (put1 (gc tc (fun _=>aw g7 a_ (aw g8 a_ (mV (st1:=S (DD A1) i7 i8) (st2:=S (DD A1) i7 i8) (st3:=S (DD A1) i7 i8) (k:=.own) (k':=.own) g5 rfl (af rfl) (aK aS (aK aS br)) rfl rfl (vP hwn (by omega)) aT))) fun h=>by cases h)) hr⟩
  ·have hb:(decide (w∈mine)&&decide (w∉same))=false:=by
    rw [Bool.eq_false_iff]
    intro z
    simp only [Bool.and_eq_true,decide_eq_true_eq] at z
    exact hc z
   rw [hb] at tc
   have hx:newName mine theirs same acc w=w:=by unfold newName;rw [if_neg hc]
   obtain ⟨q6,q7,q8,hr⟩:=jh (o0:=o0) (o1:=o1) hm ht hnd hw ws (acc++[(w,w)]) (some (.loc,.str w)) o7 o8 (by rw [←hacc];simp)
   refine ⟨q6,q7,q8,mP ⟨⟨.own,rfl,rfl⟩,trivial⟩ (cm aA) (put1 (gc tc (fun h=>by cases h) fun _=>aT)) ?_⟩
   rw [gR,hx]
   exact hr
theorem lN (hwords:∀ rows,rows=one∨rows=other→Γ "_law_words" [.tup (rows.map rwU)]=some (.ok (.own,.lst ((au rows).map .str)))) (hm:(au one).length≤14) (ht:(au other).length≤14) (hw:∀ x∈au other,bb x.cps.toList) :
  bN Γ bS [.tup (one.map rwU),.tup (other.map rwU),.lst (same.map .str)]=some (.ok (.own,DD (gR (au one) (au other) same [] (au other)))):=by
 let r0:Option (Kd×U):=some (.loc,.tup (one.map rwU))
 let r1:Option (Kd×U):=some (.loc,.tup (other.map rwU))
 have hst:TM.start [.tup (one.map rwU),.tup (other.map rwU),.lst (same.map .str)] 9=[r0,r1,some (.any,.lst (same.map .str)),none,none,none,none,none,none]:=by simp [TM.start,imm,bX,r0,r1]
 obtain ⟨q6,q7,q8,hr⟩:=jh (Γ:=Γ) (mine:=au one) (theirs:=au other) (same:=same) (o0:=r0) (o1:=r1) hm ht (dF other) hw (au other) [] none none none rfl
 exact aL rfl (.inl rfl) hst (aw (r:=(.own,.lst ((au one).map .str))) (bG (ae (af rfl) ao) trivial (hwords one (.inl rfl))) a_ (aw (r:=(.own,.lst ((au other).map .str))) (bG (ae (af rfl) ao) trivial (hwords other (.inr rfl))) a_
  (aw (r:=(.own,.dic [] [])) oJ a_ (da (rs:=[(.bor 4,.lst ((au other).map .str))]) (ae (av rfl) ao) ⟨⟨.own,rfl,rfl⟩,trivial⟩ (lM rfl) rfl hr (cE (av rfl) (qc rfl))))))
end
end K
namespace K
open PySem L2 TM W01
theorem makers:cu yf prog:=⟨rfl,rfl,rfl,rfl,rfl,rfl,rfl⟩
section
variable {Γ : Tab}
noncomputable def t9 (one other:List Row) (same:List Str):List Row:=aP one (other.map (cD (gR (au one) (au other) same [] (au other))))
noncomputable def t_ (Γ:Tab) (f:Str):Prop:=∀ (one other:List Row) (same names:List Str),one.length+other.length≤60→names.length≤14→(∀ r∈one,cA names r)→(∀ r∈other,cA names r)→(∀ x∈names,bb x.cps.toList)→Γ f [.tup (one.map rwU),.tup (other.map rwU),.lst (same.map .str)]=some (.ok (.loc,.tup ((t9 one other same).map rwU)))
theorem vS {ns:List Int} (hcell:iZ Γ) (hdrawn:gb Γ) (hnames:qi Γ) (hbook:tK Γ) (hdue:t_ Γ "_law_due") (hlaid:t_ Γ "laid")
  (hboth:∀ (one other:List Row) (k:Int),(∀ r∈one,r.2.length≤8)→(∀ r∈other,r.2.length≤8)→one.length+other.length≤60→Γ "_law_both" [.tup (one.map rwU),.tup (other.map rwU),.int k]=some (.ok (.loc,.tup ((aP other ((cut one none (some k)).map fE)).map rwU)))) :
  bN Γ e_ [.lst (ns.map .int)]=some (.ok (.loc,.bl true)):=by
 have hsz:(1000:Nat)≤sizeLine:=by decide
 have hst:TM.start [.lst (ns.map .int)] 12=[some (.any,.lst (ns.map .int)),none,none,none,none,none,none,none,none,none,none,none]:=rfl
 obtain ⟨z,hz⟩:=hcell ns 0 (by omega)
 obtain ⟨ds,d1,d2,d3⟩:=hdrawn z 22 (by omega)
 have ix:∀ i:Nat,i<22→atI (ds.map U.int) (i:Int)=some (.int (dd ds i)):=fun i hi=>bU (by omega)
 have nn:=fun i=>dO d2 i
 have n0:=nn 0
 obtain ⟨names,a1,a2,a3,a4⟩:=hnames ns 1 (1+dd ds 0 % 14).toNat (by omega) (by omega)
 rw [Int.toNat_of_nonneg (by omega)] at a4
 have hnl:names.length≤14:=by omega
 have hnp:0<names.length:=by omega
 have hp:(0:Int)<((names.map U.str).length:Nat):=by simp;omega
 let a:=(dd ds 1 % ((names.map U.str).length:Nat)).toNat
 let b:=(dd ds 2 % ((names.map U.str).length:Nat)).toNat
 have ha:dd ds 1 % ((names.map U.str).length:Nat)=(a:Int):=(Int.toNat_of_nonneg (Int.emod_nonneg _ (by omega))).symm
 have hb:dd ds 2 % ((names.map U.str).length:Nat)=(b:Int):=(Int.toNat_of_nonneg (Int.emod_nonneg _ (by omega))).symm
 have hbl:b<names.length:=by
  have:=Int.emod_lt_of_pos (dd ds 2) hp
  rw [hb,List.length_map] at this
  omega
 let mine:=names.take (1+a)
 let theirs:=names.drop b
 have hmp:0<mine.length:=by show 0<(names.take (1+a)).length;rw [List.length_take];omega
 have htp:0<theirs.length:=by show 0<(names.drop b).length;rw [List.length_drop];omega
 have n3:=nn 3
 have n4:=nn 4
 obtain ⟨one,p1,p2,p3,p4⟩:=hbook ns mine 20 (dd ds 3 % 17).toNat hmp (by omega) (by omega)
 rw [Int.toNat_of_nonneg (by omega)] at p4
 obtain ⟨other,q1,q2,q3,q4⟩:=hbook ns theirs 36 (dd ds 4 % 17).toNat htp (by omega) (by omega)
 rw [Int.toNat_of_nonneg (by omega)] at q4
 have hone:∀ r∈one,cA names r:=fun r hr=>⟨List.mem_of_mem_take (p3 r hr).word,(p3 r hr).few,(p3 r hr).once,fun x hx=>List.mem_of_mem_take ((p3 r hr).told x hx)⟩
 have hother:∀ r∈other,cA names r:=fun r hr=>⟨List.mem_of_mem_drop (q3 r hr).word,(q3 r hr).few,(q3 r hr).once,fun x hx=>List.mem_of_mem_drop ((q3 r hr).told x hx)⟩
 let i1:Option (Kd×U):=some (.own,.lst (ds.map .int))
 let i2:Option (Kd×U):=some (.own,.lst (names.map .str))
 let i3:Option (Kd×U):=some (.own,.lst (mine.map .str))
 let i4:Option (Kd×U):=some (.own,.lst (theirs.map .str))
 let i5:Option (Kd×U):=some (.loc,.tup (one.map rwU))
 let S:=fun (oth:List Row) (o7 o8 o9 o10 o11:Option (Kd×U))=>([some (.any,.lst (ns.map .int)),i1,i2,i3,i4,i5,some (.loc,.tup (oth.map rwU)),o7,o8,o9,o10,o11]:ak)
 have g1:Run (ev Γ (.call "_law_drawn" [(.call "_law_cell" [(.var 0),(.cst (.int 0))]),(.cst (.int 22))])) [some (.any,.lst (ns.map .int)),none,none,none,none,none,none,none,none,none,none,none] (.own,.lst (ds.map .int)) [some (.any,.lst (ns.map .int)),none,none,none,none,none,none,none,none,none,none,none]:=by repeat' (first|exact hz|exact d3|sizeOf_list_dec)
 have dx:∀ {st:ak} (i:Nat),i<22→st[1]?=some (some (.own,.lst (ds.map .int)))→Run (ev Γ (.idx (.var 1) (.cst (.int (i:Int))))) st (.loc,.int (dd ds i)) st:=fun i hi h=>bq (av h) ay ⟨⟨.own,rfl,h⟩,trivial⟩ (aM (ix i hi))
 have ln:∀ {st:ak},st[2]?=some (some (.own,.lst (names.map .str)))→Run (ev Γ (.bi .len [(.var 2)])) st (.loc,.int ((names.map U.str).length:Nat)) st:=fun h=>cV (ae (av h) ao) ⟨⟨.own,rfl,h⟩,trivial⟩ rfl
 have g2:Run (ev Γ (.call "_law_names" [(.var 0),(.cst (.int 1)),(.bin .add (.cst (.int 1)) (.bin .mod (.idx (.var 1) (.cst (.int 0))) (.cst (.int 14))))])) [some (.any,.lst (ns.map .int)),i1,none,none,none,none,none,none,none,none,none,none] (.own,.lst (names.map .str)) [some (.any,.lst (ns.map .int)),i1,none,none,none,none,none,none,none,none,none,none] :=
  bG (ae (bF rfl) (ae ay (ae (a9 ay (a9 (dx 0 (by omega) rfl) ay trivial (bc (by decide))) trivial cQ) ao))) trivial a4
 have g3:Run (ev Γ (.slc (.var 2) [] [(.bin .add (.cst (.int 1)) (.bin .mod (.idx (.var 1) (.cst (.int 1))) (.bi .len [(.var 2)])))])) [some (.any,.lst (ns.map .int)),i1,i2,none,none,none,none,none,none,none,none,none] (.own,.lst (mine.map .str)) [some (.any,.lst (ns.map .int)),i1,i2,none,none,none,none,none,none,none,none,none]:=by
  have e:cut names none (some (1+dd ds 1 % ((names.map U.str).length:Nat)))=mine:=by
   rw [ha,show (1+(a:Int))=((1+a:Nat):Int) by omega]
   exact ye names (1+a)
  have s:=qm (k:=.bor 2) (ss:=names) (lo:=none) (hi:=some (1+dd ds 1 % ((names.map U.str).length:Nat))) rfl
  rw [e] at s
  exact p9 (av rfl) p7 (p8 (a9 ay (a9 (dx 1 (by omega) rfl) (ln rfl) trivial (bc hp)) trivial cQ)) ⟨⟨.own,rfl,rfl⟩,trivial⟩ s
 have g4:Run (ev Γ (.slc (.var 2) [(.bin .mod (.idx (.var 1) (.cst (.int 2))) (.bi .len [(.var 2)]))] [])) [some (.any,.lst (ns.map .int)),i1,i2,i3,none,none,none,none,none,none,none,none] (.own,.lst (theirs.map .str)) [some (.any,.lst (ns.map .int)),i1,i2,i3,none,none,none,none,none,none,none,none]:=by
  have e:cut names (some (dd ds 2 % ((names.map U.str).length:Nat))) none=theirs:=by
   rw [hb]
   exact tZ names b
  have s:=qm (k:=.bor 2) (ss:=names) (lo:=some (dd ds 2 % ((names.map U.str).length:Nat))) (hi:=none) rfl
  rw [e] at s
  exact p9 (av rfl) (p8 (a9 (dx 2 (by omega) rfl) (ln rfl) trivial (bc hp))) p7 ⟨⟨.own,rfl,rfl⟩,trivial⟩ s
 have g5:Run (ev Γ (.call "_law_book" [(.var 0),(.cst (.int 20)),(.var 3),(.bin .mod (.idx (.var 1) (.cst (.int 3))) (.cst (.int 17)))])) [some (.any,.lst (ns.map .int)),i1,i2,i3,i4,none,none,none,none,none,none,none] (.loc,.tup (one.map rwU)) [some (.any,.lst (ns.map .int)),i1,i2,i3,i4,none,none,none,none,none,none,none] :=
  bG (ae (bF rfl) (ae ay (ae (av rfl) (ae (a9 (dx 3 (by omega) rfl) ay trivial (bc (by decide))) ao)))) ⟨⟨.own,rfl,rfl⟩,trivial⟩ p4
 have g6:Run (ev Γ (.call "_law_book" [(.var 0),(.cst (.int 36)),(.var 4),(.bin .mod (.idx (.var 1) (.cst (.int 4))) (.cst (.int 17)))])) [some (.any,.lst (ns.map .int)),i1,i2,i3,i4,i5,none,none,none,none,none,none] (.loc,.tup (other.map rwU)) [some (.any,.lst (ns.map .int)),i1,i2,i3,i4,i5,none,none,none,none,none,none] :=
  bG (ae (bF rfl) (ae ay (ae (av rfl) (ae (a9 (dx 4 (by omega) rfl) ay trivial (bc (by decide))) ao)))) ⟨⟨.own,rfl,rfl⟩,trivial⟩ q4
 have hl1:one.length≤16:=by omega
 have hl2:other.length≤16:=by omega
 have hsel:∃ oth:List Row,oth.length≤32∧(∀ r∈oth,cA names r)∧∀ {rest:List TM.S} {f:Fl} {st':ak},Run (execs Γ rest) (S oth none none none none none) f st'→Run (execs Γ (.ite (.cmp .eq (.bin .mod (.idx (.var 1) (.cst (.int 5))) (.cst (.int 2))) (.cst (.int 1)))
   [.set 6 (.call "_law_both" [(.var 5),(.var 6),(.bin .mod (.bin .fdv (.idx (.var 1) (.cst (.int 5))) (.cst (.int 2))) (.cst (.int 7)))])]
   []::rest)) (S other none none none none none) f st':=by
  have tc:Run (tst Γ (.cmp .eq (.bin .mod (.idx (.var 1) (.cst (.int 5))) (.cst (.int 2))) (.cst (.int 1)))) (S other none none none none none) (dd ds 5 % 2==1) (S other none none none none none) :=
   b9 (a9 (dx 5 (by omega) rfl) ay trivial (bc (by decide))) ay trivial (fm rfl)
  cases hb:(dd ds 5 % 2==1) with
  |false=>rw [hb] at tc;exact ⟨other,by omega,hother,fun h=>gc tc (fun h=>by cases h) fun _=>h⟩
  |true =>
   rw [hb] at tc
   have hc:=ql one none (some (dd ds 5 / 2 % 7))
   have hal:=cq ((cut one none (some (dd ds 5 / 2 % 7))).map fE) other
   rw [List.length_map] at hal
   refine ⟨aP other ((cut one none (some (dd ds 5 / 2 % 7))).map fE),by omega,fun r hr=>?_,fun h=>gc tc (fun _=>aw (st1:=S other none none none none none) (bG (ae (af rfl) (ae (af rfl) (ae (a9 (a9 (dx 5 (by omega) rfl) ay trivial (lr (by decide))) ay trivial (bc (by decide))) ao))) trivial (hboth one other _ (fun r hr=>(hone r hr).few) (fun r hr=>(hother r hr).few) (by omega))) aA h) fun h=>by cases h⟩
   rcases fD hr with z|z
   ·exact hother r z
   ·obtain ⟨t,ht,rfl⟩:=List.mem_map.mp z
    have ok:=hone t (qo ht)
    exact ⟨ok.word,by simpa [fE] using ok.few,(List.reverse_perm t.2).nodup_iff.mpr ok.once,fun x hx=>ok.told x (by simpa [fE] using hx)⟩
 obtain ⟨oth,hol,hoth,hsel⟩:=hsel
 let pk:Nat→Bool:=fun i=>(dd ds (6+i) % 3==0)||(dd ds 20 % 4==1)
 let pw:Nat→Str:=fun i=>(names[i]?).getD ""
 let same:List Str:=((List.range names.length).filter pk).map pw
 have hsame:same.length≤14:=by
  have h2:=List.length_filter_le pk (List.range names.length)
  show (((List.range names.length).filter pk).map pw).length≤14
  rw [List.length_map]
  simp at h2
  omega
 have g7:Run (ev Γ (.comp 1 false .rng1 [(.bi .len [(.var 2)])] [(.or [(.cmp .eq (.bin .mod (.idx (.var 2) (.bin .add (.cst (.int 6)) (.var 0))) (.cst (.int 3))) (.cst (.int 0))),(.cmp .eq (.bin .mod (.idx (.var 2) (.cst (.int 20))) (.cst (.int 4))) (.cst (.int 1)))])] (.idx (.var 3) (.var 0)))) (S oth none none none none none) (.own,.lst (same.map .str)) (S oth none none none none none):=by
  have hx:=jb (cond:=aU Γ [(.or [(.cmp .eq (.bin .mod (.idx (.var 2) (.bin .add (.cst (.int 6)) (.var 0))) (.cst (.int 3))) (.cst (.int 0))),(.cmp .eq (.bin .mod (.idx (.var 2) (.cst (.int 20))) (.cst (.int 4))) (.cst (.int 1)))])]) (elt:=ev Γ (.idx (.var 3) (.var 0))) (src:=[(.loc,.int ((names.map U.str).length:Nat))]) (st:=S oth none none none none none) trivial .loc (.inl rfl) (fun i:Nat=>U.int (0+(i:Int))) (fun i=>.str (pw i)) pk .loc (List.range names.length) [] (by simp;omega)
   (fun i hi=>by
    have hi':i<names.length:=List.mem_range.mp hi
    have h6:atI (ds.map U.int) (6+(0+(i:Int)))=some (.int (dd ds (6+i))):=by
     rw [show 6+(0+(i:Int))=((6+i:Nat):Int) by omega]
     exact ix (6+i) (by omega)
    have h20:atI (ds.map U.int) 20=some (.int (dd ds 20)):=ix 20 (by omega)
    have hn:atI (names.map U.str) (0+(i:Int))=some (.str (pw i)):=by
     rw [Int.zero_add]
     exact bZ (by simp [pw,hi'])
    exact ⟨dC (x4 (zm (b9 (a9 (bq (av rfl) (a9 ay (af rfl) trivial cQ) ⟨⟨.own,rfl,rfl⟩,trivial⟩ (aM h6)) ay trivial (bc (by decide))) ay trivial (fm rfl)) fun _=>tm (b9 (a9 (bq (av rfl) ay ⟨⟨.own,rfl,rfl⟩,trivial⟩ (aM h20)) ay trivial (bc (by decide))) ay trivial (fm rfl)))),fun _=>⟨bq (av rfl) (af rfl) ⟨⟨.own,rfl,rfl⟩,trivial⟩ (aM hn),aS⟩⟩)
  rw [List.nil_append] at hx
  have e:itU .rng1 [(.loc,.int ((names.map U.str).length:Nat))]=some ((List.range names.length).map fun i:Nat=>(Kd.loc,U.int (0+(i:Int)))):=by rw [List.length_map];exact iX (by omega)
  have e0:same.map U.str=((List.range names.length).filter pk).map (fun i=>U.str (pw i)):=by
   show (((List.range names.length).filter pk).map pw).map U.str=_
   rw [List.map_map]
   rfl
  rw [e0]
  exact cW (rs:=[(.loc,.int ((names.map U.str).length:Nat))]) (ae (ln rfl) ao) trivial e hx
 let F:=t9 one oth same
 have hd:=hdue one oth same names (by omega) hnl hone hoth a3
 have hf:=hlaid one oth same names (by omega) hnl hone hoth a3
 let j7:Option (Kd×U):=some (.own,.lst (same.map .str))
 let j9:Option (Kd×U):=some (.loc,.tup (F.map rwU))
 have hne:bz .ne (.tup (F.map rwU)) (.tup (F.map rwU))=some false:=kg (by rw [eqD];exact gL.eqDL49 F)
 have t1:Run (tst Γ (.or [(.not (.isi (.var 10) .tuple)),(.cmp .ne (.var 10) (.var 9)),(.cmp .ne (.var 7) (.var 8))])) (S oth j7 j7 j9 j9 none) false (S oth j7 j7 j9 j9 none) :=
  x4 (qa (jZ (tQ (b:=true) (af rfl) rfl)) (qa (b9 (af rfl) (af rfl) trivial hne) (tm (b9 (av rfl) (av rfl) ⟨⟨.own,rfl,rfl⟩,⟨.own,rfl,rfl⟩,trivial⟩ (kg (ft same 49))))))
 obtain ⟨st',hrun,o11,e⟩:=fo (t:=false) (is:=[11]) (body:=execs Γ [.ite (.or [(.not (.isi (.var 11) .tuple)),(.not (.isi (.idx (.var 11) (.cst (.int 1))) .tuple))]) [.ret (.cst (.bl false))] []]) (rs:=[(.loc,.tup (F.map rwU))]) (fun r:Row=>(Kd.loc,rwU r))
  (fun d r st=>∃ o11,st=S oth j7 j7 j9 j9 o11) (fun _ _ _ _=>trivial) (fun d p r st hIx=>by
   obtain ⟨o2,e⟩:=hIx
   subst e
   refine ⟨S oth j7 j7 j9 j9 (some (.loc,rwU p)),S oth j7 j7 j9 j9 (some (.loc,rwU p)),cm aA,gc (p:=false) (x4 (qa (jZ (tQ (b:=true) (x:=(.loc,rwU p)) (af rfl) rfl)) (tm (jZ (tQ (b:=true) (bq (x:=(.loc,rwU p)) (af rfl) ay trivial rfl) rfl))))) (fun h=>by cases h) fun _=>aT,some (.loc,rwU p),rfl⟩) F [] (S oth j7 j7 j9 j9 none) ⟨none,rfl⟩
 subst e
 exact aL rfl (.inr rfl) hst (aw g1 a_ (aw g2 a_ (aw g3 a_ (aw g4 a_ (aw g5 aA (aw g6 aA (hsel (aw g7 a_
  (aw (r:=(.own,.lst (same.map .str))) (cV (ae (av rfl) ao) ⟨⟨.own,rfl,rfl⟩,trivial⟩ rfl) a_
   (aw (r:=(.loc,.tup (F.map rwU))) (bG (ae (af rfl) (ae (af rfl) (ae (av rfl) ao))) ⟨⟨.own,rfl,rfl⟩,trivial⟩ hd) aA
    (aw (r:=(.loc,.tup (F.map rwU))) (bG (ae (af rfl) (ae (af rfl) (ae (av rfl) ao))) ⟨⟨.own,rfl,rfl⟩,trivial⟩ hf) aA
     (gc t1 (fun h=>by cases h) fun _=>da (rs:=[(.loc,.tup (F.map rwU))]) (ae (af rfl) ao) trivial (eQ (k:=.loc) (rows:=F) true) rfl hrun (cE ay dN)))))))))))))
end
theorem pure (ns:List Int) (hns:ns.length≤63):sem prog 5 "law" [vz ns]=some (.ok (.loc,.bl true)):=by
 have hwc:∀ (rows:List Row) (names:List Str),(∀ r∈rows,cA names r)→(∀ x∈names,bb x.cps.toList)→∀ x∈au rows,bb x.cps.toList:=fun rows names h h' x hx=>h' x (cF h x (fv.mp hx))
 have hstd:∀ (rows:List Row) (r:Row),rows.length≤100→(∀ s∈rows,s.2.length≤8)→r.2.length≤8→sem prog 3 "_law_stands" [.lst (rows.map rwU),rwU r]=some (.ok (.loc,.bl (rows.any fun s=>alk s r))):=fun rows r a b c=>(aE (show Has prog "_law_stands" b7 from rfl) _).trans (o_ a b c)
 have key:∀ (one other:List Row) (same names:List Str),names.length≤14→(∀ r∈one,cA names r)→(∀ r∈other,cA names r)→(gR (au one) (au other) same [] (au other)).map (·.1)=au other:=fun one other same names a b c=>by
  have w1:=cn b
  have w2:=cn c
  have:=(qq (mine:=au one) (theirs:=au other) (same:=same) (dF other) (by omega) (au other) [] ⟨rfl,by simp,by simp⟩).all
  simpa using this
 have hin:∀ (other:List Row),∀ r∈other,r.1∈au other∧∀ x∈r.2,x∈au other:=fun other r hr=>⟨fv.mpr (fu.mpr ⟨r,hr,.inl rfl⟩),fun x hx=>fv.mpr (fu.mpr ⟨r,hr,.inr hx⟩)⟩
 refine (aE (show Has prog "law" e_ from rfl) _).trans (vS makers.i_ makers.drawnOk (cu.tL vJ makers) makers.x_ (fun one other same names a b c d e=>?_) (fun one other same names a b c d e=>?_) fun one other k a b c=>?_)
 ·have w1:=cn c
  have w2:=cn d
  have ke:=key one other same names b c d
  refine (aE (show Has prog "_law_due" di from rfl) _).trans (vN (ps:=gR (au one) (au other) same [] (au other)) ((aE (show Has prog "_law_renamed" bS from rfl) _).trans (lN (fun rows hr=>?_) (by omega) (by omega) (hwc other names d e))) hstd (fun r hr=>(c r hr).few) (fun r hr=>(d r hr).few) (by rw [ke];exact hin other) a)
  rcases hr with rfl|rfl
  ·exact (aE (show Has prog "_law_words" bY from rfl) _).trans (fb (by omega) c (by omega))
  ·exact (aE (show Has prog "_law_words" bY from rfl) _).trans (fb (by omega) d (by omega))
 ·have w1:=cn c
  have w2:=cn d
  have ke:=key one other same names b c d
  refine (aE (show Has prog "laid" jc from rfl) _).trans (t7 (ps:=gR (au one) (au other) same [] (au other)) ((aE (show Has prog "new_names" cC from rfl) _).trans (jE rfl (fun x=>df) (fun rows hr=>?_) (fun w hw=>(aE (show Has prog "stem_of" dg from rfl) _).trans (nz (by rw [len_list];have:=hw.len.2;omega))) (fun aN ks vs h1 h2=>(aE (show Has prog "free_name" cB from rfl) _).trans (tX h1 h2)) (by omega) (by omega) (hwc other names d e))) (by rw [ke];exact dF other)
   (fun r h1 h2 h3=>(aE (show Has prog "renamed" dh from rfl) _).trans (nB h1 h2 h3)) (fun r s h1 h2=>(aE (show Has prog "alike" eO from rfl) _).trans (rm (fun r h=>(aE (show Has prog "in_one_order" bu from rfl) _).trans (rl h)) h1 h2)) (fun r hr=>(c r hr).few) (fun r hr=>(d r hr).few) (by rw [ke];exact hin other) a)
  rcases hr with rfl|rfl
  ·exact (aE (show Has prog "words_of" lB from rfl) _).trans (gf (by omega) c (by omega))
  ·exact (aE (show Has prog "words_of" lB from rfl) _).trans (gf (by omega) d (by omega))
 ·exact (aE (show Has prog "_law_both" cM from rfl) _).trans (t8 hstd a b (by omega))
end K
namespace K
open PySem L2 TM
noncomputable def fx0:FuncData:=PySem.W.fnOf "stem_of" "stem_of" (aH (top 6)) (aj (top 6)) (aa (top 6)) .none .none .none (.str "primer.words" 223) none (.ref 45) .none
noncomputable def fo0:Obj:=⟨.type "function",none,.func fx0,#[]⟩
noncomputable def fx1:FuncData:=PySem.W.fnOf "in_one_order" "in_one_order" (aH (top 9)) (aj (top 9)) (aa (top 9)) .none .none .none (.str "primer.books" 236) none (.ref 52) .none
noncomputable def fo1:Obj:=⟨.type "function",none,.func fx1,#[]⟩
noncomputable def fx2:FuncData:=PySem.W.fnOf "alike" "alike" (aH (top 10)) (aj (top 10)) (aa (top 10)) .none .none .none (.str "primer.books" 236) none (.ref 59) .none
noncomputable def fo2:Obj:=⟨.type "function",none,.func fx2,#[]⟩
noncomputable def fx3:FuncData:=PySem.W.fnOf "words_of" "words_of" (aH (top 11)) (aj (top 11)) (aa (top 11)) .none .none .none (.str "primer.books" 236) none (.ref 66) .none
noncomputable def fo3:Obj:=⟨.type "function",none,.func fx3,#[]⟩
noncomputable def fx4:FuncData:=PySem.W.fnOf "free_name" "free_name" (aH (top 13)) (aj (top 13)) (aa (top 13)) .none .none .none (.str "primer.laying" 264) none (.ref 73) .none
noncomputable def fo4:Obj:=⟨.type "function",none,.func fx4,#[]⟩
noncomputable def fx5:FuncData:=PySem.W.fnOf "new_names" "new_names" (aH (top 14)) (aj (top 14)) (aa (top 14)) .none .none .none (.str "primer.laying" 264) none (.ref 80) .none
noncomputable def fo5:Obj:=⟨.type "function",none,.func fx5,#[]⟩
noncomputable def fx6:FuncData:=PySem.W.fnOf "renamed" "renamed" (aH (top 15)) (aj (top 15)) (aa (top 15)) .none .none .none (.str "primer.laying" 264) none (.ref 85) .none
noncomputable def fo6:Obj:=⟨.type "function",none,.func fx6,#[]⟩
noncomputable def fx7:FuncData:=PySem.W.fnOf "laid" "laid" (aH (top 16)) (aj (top 16)) (aa (top 16)) .none .none .none (.str "primer.laying" 264) none (.ref 90) .none
noncomputable def fo7:Obj:=⟨.type "function",none,.func fx7,#[]⟩
noncomputable def fx8:FuncData:=PySem.W.fnOf "_law_mix" "_law_mix" (aH (top 18)) (aj (top 18)) (aa (top 18)) .none .none .none (.str "law_primer_k62_laid_rows" 303) none (.ref 97) .none
noncomputable def fo8:Obj:=⟨.type "function",none,.func fx8,#[]⟩
noncomputable def fx9:FuncData:=PySem.W.fnOf "_law_cell" "_law_cell" (aH (top 19)) (aj (top 19)) (aa (top 19)) .none .none .none (.str "law_primer_k62_laid_rows" 303) none (.ref 104) .none
noncomputable def fo9:Obj:=⟨.type "function",none,.func fx9,#[]⟩
noncomputable def zt:FuncData:=PySem.W.fnOf "_law_drawn" "_law_drawn" (aH (top 20)) (aj (top 20)) (aa (top 20)) .none .none .none (.str "law_primer_k62_laid_rows" 303) none (.ref 111) .none
noncomputable def zu:Obj:=⟨.type "function",none,.func zt,#[]⟩
noncomputable def zv:FuncData:=PySem.W.fnOf "_law_name" "_law_name" (aH (top 21)) (aj (top 21)) (aa (top 21)) .none .none .none (.str "law_primer_k62_laid_rows" 303) none (.ref 116) .none
noncomputable def zw:Obj:=⟨.type "function",none,.func zv,#[]⟩
noncomputable def zx:FuncData:=PySem.W.fnOf "_law_names" "_law_names" (aH (top 22)) (aj (top 22)) (aa (top 22)) .none .none .none (.str "law_primer_k62_laid_rows" 303) none (.ref 123) .none
noncomputable def zy:Obj:=⟨.type "function",none,.func zx,#[]⟩
noncomputable def zA:FuncData:=PySem.W.fnOf "_law_told" "_law_told" (aH (top 23)) (aj (top 23)) (aa (top 23)) .none .none .none (.str "law_primer_k62_laid_rows" 303) none (.ref 130) .none
noncomputable def zB:Obj:=⟨.type "function",none,.func zA,#[]⟩
noncomputable def zC:FuncData:=PySem.W.fnOf "_law_book" "_law_book" (aH (top 24)) (aj (top 24)) (aa (top 24)) .none .none .none (.str "law_primer_k62_laid_rows" 303) none (.ref 137) .none
noncomputable def zD:Obj:=⟨.type "function",none,.func zC,#[]⟩
noncomputable def zE:FuncData:=PySem.W.fnOf "_law_words" "_law_words" (aH (top 25)) (aj (top 25)) (aa (top 25)) .none .none .none (.str "law_primer_k62_laid_rows" 303) none (.ref 144) .none
noncomputable def zF:Obj:=⟨.type "function",none,.func zE,#[]⟩
noncomputable def zG:FuncData:=PySem.W.fnOf "_law_stands" "_law_stands" (aH (top 26)) (aj (top 26)) (aa (top 26)) .none .none .none (.str "law_primer_k62_laid_rows" 303) none (.ref 149) .none
noncomputable def zH:Obj:=⟨.type "function",none,.func zG,#[]⟩
noncomputable def zI:FuncData:=PySem.W.fnOf "_law_renamed" "_law_renamed" (aH (top 27)) (aj (top 27)) (aa (top 27)) .none .none .none (.str "law_primer_k62_laid_rows" 303) none (.ref 154) .none
noncomputable def zJ:Obj:=⟨.type "function",none,.func zI,#[]⟩
noncomputable def zK:FuncData:=PySem.W.fnOf "_law_due" "_law_due" (aH (top 28)) (aj (top 28)) (aa (top 28)) .none .none .none (.str "law_primer_k62_laid_rows" 303) none (.ref 159) .none
noncomputable def zL:Obj:=⟨.type "function",none,.func zK,#[]⟩
noncomputable def zM:FuncData:=PySem.W.fnOf "_law_both" "_law_both" (aH (top 29)) (aj (top 29)) (aa (top 29)) .none .none .none (.str "law_primer_k62_laid_rows" 303) none (.ref 166) .none
noncomputable def zN:Obj:=⟨.type "function",none,.func zM,#[]⟩
noncomputable def zO:FuncData:=PySem.W.fnOf "law" "law" (aH (top 30)) (aj (top 30)) (aa (top 30)) .none .none .none (.str "law_primer_k62_laid_rows" 303) none (.ref 171) .none
noncomputable def zP:Obj:=⟨.type "function",none,.func zO,#[]⟩
noncomputable def KK (P:Params):PySem.W.Frag:=[(3,⟨.type "dict",none,.dict #[⟨PyData.keyHash P "__name__",.str "__name__" 165,.str "law_primer_k62_laid_rows" 303⟩,⟨PyData.keyHash P "__doc__",.str "__doc__" 166,.none⟩,⟨PyData.keyHash P "__package__",.str "__package__" 167,.none⟩,⟨PyData.keyHash P "__loader__",.str "__loader__" 168,.builtin "__main__.__loader__#opaque"⟩,⟨PyData.keyHash P "__spec__",.str "__spec__" 169,.none⟩,⟨PyData.keyHash P "__annotations__",.str "__annotations__" 170,.ref 6⟩,⟨PyData.keyHash P "__builtins__",.str "__builtins__" 171,.ref 4⟩,⟨PyData.keyHash P "__file__",.str "__file__" 173,.str "/claim/cut.py" 172⟩,⟨PyData.keyHash P "__cached__",.str "__cached__" 174,.none⟩,⟨PyData.keyHash P "PrimerError",.str "PrimerError" 206,.ref 24⟩,⟨PyData.keyHash P "TooMany",.str "TooMany" 222,.ref 37⟩,⟨PyData.keyHash P "FIRST_SENSE",.str "FIRST_SENSE" 226,.int 1 225⟩,⟨PyData.keyHash P "LAST_SENSE",.str "LAST_SENSE" 228,.int 99 227⟩,⟨PyData.keyHash P "stem_of",.str "stem_of" 235,.ref 46⟩,⟨PyData.keyHash P "MOST_ROWS",.str "MOST_ROWS" 239,.int 60 238⟩,⟨PyData.keyHash P "in_one_order",.str "in_one_order" 246,.ref 53⟩,⟨PyData.keyHash P "alike",.str "alike" 254,.ref 60⟩,⟨PyData.keyHash P "words_of",.str "words_of" 263,.ref 67⟩,⟨PyData.keyHash P "free_name",.str "free_name" 275,.ref 74⟩,⟨PyData.keyHash P "new_names",.str "new_names" 290,.ref 81⟩,⟨PyData.keyHash P "renamed",.str "renamed" 296,.ref 86⟩,⟨PyData.keyHash P "laid",.str "laid" 302,.ref 91⟩,⟨PyData.keyHash P "_law_mix",.str "_law_mix" 313,.ref 98⟩,⟨PyData.keyHash P "_law_cell",.str "_law_cell" 322,.ref 105⟩,⟨PyData.keyHash P "_law_drawn",.str "_law_drawn" 333,.ref 112⟩,⟨PyData.keyHash P "_law_name",.str "_law_name" 339,.ref 117⟩,⟨PyData.keyHash P "_law_names",.str "_law_names" 350,.ref 124⟩,⟨PyData.keyHash P "_law_told",.str "_law_told" 362,.ref 131⟩,⟨PyData.keyHash P "_law_book",.str "_law_book" 378,.ref 138⟩,⟨PyData.keyHash P "_law_words",.str "_law_words" 388,.ref 145⟩,⟨PyData.keyHash P "_law_stands",.str "_law_stands" 394,.ref 150⟩,⟨PyData.keyHash P "_law_renamed",.str "_law_renamed" 400,.ref 155⟩,⟨PyData.keyHash P "_law_due",.str "_law_due" 406,.ref 160⟩,⟨PyData.keyHash P "_law_both",.str "_law_both" 419,.ref 167⟩,⟨PyData.keyHash P "law",.str "law" 425,.ref 172⟩] 35,#[]⟩),
 (45,⟨.type "code",none,.fields #[.str "stem_of" 229,.str "stem_of" 230,.str "/claim/cut.py" 231,.int 9 0,.int 1 0,.int 0 0,.int 0 0,.int 3 0,.ref 40,.bool Bool.true,.int 181 0,.ref 41,.none,.ref 42,.ref 43,.ref 44,.int 233 0,.int 9 0,.str "/claim/cut.py" 234],#[]⟩),
 (46,fo0),
 (52,⟨.type "code",none,.fields #[.str "in_one_order" 240,.str "in_one_order" 241,.str "/claim/cut.py" 242,.int 13 0,.int 1 0,.int 0 0,.int 0 0,.int 3 0,.ref 47,.bool Bool.true,.int 181 0,.ref 48,.none,.ref 49,.ref 50,.ref 51,.int 244 0,.int 13 0,.str "/claim/cut.py" 245],#[]⟩),
 (53,fo1),
 (59,⟨.type "code",none,.fields #[.str "alike" 247,.str "alike" 248,.str "/claim/cut.py" 249,.int 15 0,.int 2 0,.int 0 0,.int 0 0,.int 3 0,.ref 54,.bool Bool.true,.int 181 0,.ref 55,.none,.ref 56,.ref 57,.ref 58,.int 252 0,.int 15 0,.str "/claim/cut.py" 253],#[]⟩),
 (60,fo2),
 (66,⟨.type "code",none,.fields #[.str "words_of" 255,.str "words_of" 256,.str "/claim/cut.py" 257,.int 17 0,.int 1 0,.int 0 0,.int 0 0,.int 3 0,.ref 61,.bool Bool.true,.int 181 0,.ref 62,.none,.ref 63,.ref 64,.ref 65,.int 261 0,.int 17 0,.str "/claim/cut.py" 262],#[]⟩),
 (67,fo3),
 (73,⟨.type "code",none,.fields #[.str "free_name" 266,.str "free_name" 267,.str "/claim/cut.py" 268,.int 24 0,.int 2 0,.int 0 0,.int 0 0,.int 3 0,.ref 68,.bool Bool.true,.int 181 0,.ref 69,.none,.ref 70,.ref 71,.ref 72,.int 273 0,.int 24 0,.str "/claim/cut.py" 274],#[]⟩),
 (74,fo4),
 (80,⟨.type "code",none,.fields #[.str "new_names" 276,.str "new_names" 277,.str "/claim/cut.py" 278,.int 30 0,.int 3 0,.int 0 0,.int 0 0,.int 3 0,.ref 75,.bool Bool.true,.int 181 0,.ref 76,.none,.ref 77,.ref 78,.ref 79,.int 288 0,.int 30 0,.str "/claim/cut.py" 289],#[]⟩),
 (81,fo5),
 (85,⟨.type "code",none,.fields #[.str "renamed" 291,.str "renamed" 292,.str "/claim/cut.py" 293,.int 44 0,.int 2 0,.int 0 0,.int 0 0,.int 3 0,.ref 82,.bool Bool.true,.int 181 0,.ref 83,.none,.none,.none,.ref 84,.int 294 0,.int 44 0,.str "/claim/cut.py" 295],#[]⟩),
 (86,fo6),
 (90,⟨.type "code",none,.fields #[.str "laid" 297,.str "laid" 298,.str "/claim/cut.py" 299,.int 46 0,.int 3 0,.int 0 0,.int 0 0,.int 3 0,.ref 87,.bool Bool.true,.int 181 0,.ref 88,.none,.none,.none,.ref 89,.int 300 0,.int 46 0,.str "/claim/cut.py" 301],#[]⟩),
 (91,fo7),
 (97,⟨.type "code",none,.fields #[.str "_law_mix" 305,.str "_law_mix" 306,.str "/claim/cut.py" 307,.int 57 0,.int 2 0,.int 0 0,.int 0 0,.int 3 0,.ref 92,.bool Bool.true,.int 181 0,.ref 93,.none,.ref 94,.ref 95,.ref 96,.int 311 0,.int 57 0,.str "/claim/cut.py" 312],#[]⟩),
 (98,fo8),
 (104,⟨.type "code",none,.fields #[.str "_law_cell" 314,.str "_law_cell" 315,.str "/claim/cut.py" 316,.int 60 0,.int 2 0,.int 0 0,.int 0 0,.int 3 0,.ref 99,.bool Bool.true,.int 181 0,.ref 100,.none,.ref 101,.ref 102,.ref 103,.int 320 0,.int 60 0,.str "/claim/cut.py" 321],#[]⟩),
 (105,fo9),
 (111,⟨.type "code",none,.fields #[.str "_law_drawn" 323,.str "_law_drawn" 324,.str "/claim/cut.py" 325,.int 67 0,.int 2 0,.int 0 0,.int 0 0,.int 3 0,.ref 106,.bool Bool.true,.int 181 0,.ref 107,.none,.ref 108,.ref 109,.ref 110,.int 331 0,.int 67 0,.str "/claim/cut.py" 332],#[]⟩),
 (112,zu),
 (116,⟨.type "code",none,.fields #[.str "_law_name" 334,.str "_law_name" 335,.str "/claim/cut.py" 336,.int 77 0,.int 2 0,.int 0 0,.int 0 0,.int 3 0,.ref 113,.bool Bool.true,.int 181 0,.ref 114,.none,.none,.none,.ref 115,.int 337 0,.int 77 0,.str "/claim/cut.py" 338],#[]⟩),
 (117,zw),
 (123,⟨.type "code",none,.fields #[.str "_law_names" 340,.str "_law_names" 341,.str "/claim/cut.py" 342,.int 88 0,.int 3 0,.int 0 0,.int 0 0,.int 3 0,.ref 118,.bool Bool.true,.int 181 0,.ref 119,.none,.ref 120,.ref 121,.ref 122,.int 348 0,.int 88 0,.str "/claim/cut.py" 349],#[]⟩),
 (124,zy),
 (130,⟨.type "code",none,.fields #[.str "_law_told" 351,.str "_law_told" 352,.str "/claim/cut.py" 353,.int 93 0,.int 2 0,.int 0 0,.int 0 0,.int 3 0,.ref 125,.bool Bool.true,.int 181 0,.ref 126,.none,.ref 127,.ref 128,.ref 129,.int 360 0,.int 93 0,.str "/claim/cut.py" 361],#[]⟩),
 (131,zB),
 (137,⟨.type "code",none,.fields #[.str "_law_book" 363,.str "_law_book" 364,.str "/claim/cut.py" 365,.int 103 0,.int 4 0,.int 0 0,.int 0 0,.int 3 0,.ref 132,.bool Bool.true,.int 181 0,.ref 133,.none,.ref 134,.ref 135,.ref 136,.int 376 0,.int 103 0,.str "/claim/cut.py" 377],#[]⟩),
 (138,zD),
 (144,⟨.type "code",none,.fields #[.str "_law_words" 379,.str "_law_words" 380,.str "/claim/cut.py" 381,.int 114 0,.int 1 0,.int 0 0,.int 0 0,.int 3 0,.ref 139,.bool Bool.true,.int 181 0,.ref 140,.none,.ref 141,.ref 142,.ref 143,.int 386 0,.int 114 0,.str "/claim/cut.py" 387],#[]⟩),
 (145,zF),
 (149,⟨.type "code",none,.fields #[.str "_law_stands" 389,.str "_law_stands" 390,.str "/claim/cut.py" 391,.int 119 0,.int 2 0,.int 0 0,.int 0 0,.int 3 0,.ref 146,.bool Bool.true,.int 181 0,.ref 147,.none,.none,.none,.ref 148,.int 392 0,.int 119 0,.str "/claim/cut.py" 393],#[]⟩),
 (150,zH),
 (154,⟨.type "code",none,.fields #[.str "_law_renamed" 395,.str "_law_renamed" 396,.str "/claim/cut.py" 397,.int 121 0,.int 3 0,.int 0 0,.int 0 0,.int 3 0,.ref 151,.bool Bool.true,.int 181 0,.ref 152,.none,.none,.none,.ref 153,.int 398 0,.int 121 0,.str "/claim/cut.py" 399],#[]⟩),
 (155,zJ),
 (159,⟨.type "code",none,.fields #[.str "_law_due" 401,.str "_law_due" 402,.str "/claim/cut.py" 403,.int 132 0,.int 3 0,.int 0 0,.int 0 0,.int 3 0,.ref 156,.bool Bool.true,.int 181 0,.ref 157,.none,.none,.none,.ref 158,.int 404 0,.int 132 0,.str "/claim/cut.py" 405],#[]⟩),
 (160,zL),
 (166,⟨.type "code",none,.fields #[.str "_law_both" 407,.str "_law_both" 408,.str "/claim/cut.py" 409,.int 140 0,.int 3 0,.int 0 0,.int 0 0,.int 3 0,.ref 161,.bool Bool.true,.int 181 0,.ref 162,.none,.ref 163,.ref 164,.ref 165,.int 417 0,.int 140 0,.str "/claim/cut.py" 418],#[]⟩),
 (167,zN),
 (171,⟨.type "code",none,.fields #[.str "law" 420,.str "law" 421,.str "/claim/cut.py" 422,.int 147 0,.int 1 0,.int 0 0,.int 0 0,.int 3 0,.ref 168,.bool Bool.true,.int 181 0,.ref 169,.none,.none,.none,.ref 170,.int 423 0,.int 147 0,.str "/claim/cut.py" 424],#[]⟩),
 (172,zP)]
noncomputable def nn:Option (Option Value)→Bool
 |some none=>true
 |_=>false
theorem zQ {o:Option (Option Value)} (h:nn o=true):o=some none:=by
 unfold nn at h
 split at h
 ·rfl
 ·cases h
theorem yh (P:Params):(bC.all fun y=>nn (PySem.W.nsIn (KK P) mainGlobals y))=true:=by kernel_rfl
section
variable {P : Params} {h : Heap} {mg : Str → Option Value}
theorem ff0:Fun (KK P) "stem_of" "stem_of" (top 6) 46 fx0:=bj (st:=top 6) (show (KK P).lookup 46=some fo0 by kernel_rfl) (show PySem.W.codeIn (KK P) (.ref 45) "stem_of"=true by kernel_rfl) (show PySem.W.keepIn (KK P) (.ref 46)=true by kernel_rfl)
theorem fd0 (X:(KK P).In h) (G:h.Ns mainGlobals mg):Ld ck (KK P) mg dg:=⟨_,top 6,_,_,["word"],["word"],ff0,PySem.W.mg_of X G (show PySem.W.nsIn (KK P) mainGlobals "stem_of"=some (some (.ref 46)) by kernel_rfl),ff0.binds (ps:=["word"]) (fun _ _ _ _ _ _ us hl=>match us,hl with|[_],_=>rfl),oR,rfl,rfl,oS⟩
theorem ff1:Fun (KK P) "in_one_order" "in_one_order" (top 9) 53 fx1:=bj (st:=top 9) (show (KK P).lookup 53=some fo1 by kernel_rfl) (show PySem.W.codeIn (KK P) (.ref 52) "in_one_order"=true by kernel_rfl) (show PySem.W.keepIn (KK P) (.ref 53)=true by kernel_rfl)
theorem fd1 (X:(KK P).In h) (G:h.Ns mainGlobals mg):Ld ck (KK P) mg bu:=⟨_,top 9,_,_,["row"],["row"],ff1,PySem.W.mg_of X G (show PySem.W.nsIn (KK P) mainGlobals "in_one_order"=some (some (.ref 53)) by kernel_rfl),ff1.binds (ps:=["row"]) (fun _ _ _ _ _ _ us hl=>match us,hl with|[_],_=>rfl),gP,rfl,rfl,gQ⟩
theorem ff2:Fun (KK P) "alike" "alike" (top 10) 60 fx2:=bj (st:=top 10) (show (KK P).lookup 60=some fo2 by kernel_rfl) (show PySem.W.codeIn (KK P) (.ref 59) "alike"=true by kernel_rfl) (show PySem.W.keepIn (KK P) (.ref 60)=true by kernel_rfl)
theorem fd2 (X:(KK P).In h) (G:h.Ns mainGlobals mg):Ld ck (KK P) mg eO:=⟨_,top 10,_,_,["row","other"],["row","other"],ff2,PySem.W.mg_of X G (show PySem.W.nsIn (KK P) mainGlobals "alike"=some (some (.ref 60)) by kernel_rfl),ff2.binds (ps:=["row","other"]) (fun _ _ _ _ _ _ us hl=>match us,hl with|[_,_],_=>rfl),tR,rfl,rfl,tS⟩
theorem ff3:Fun (KK P) "words_of" "words_of" (top 11) 67 fx3:=bj (st:=top 11) (show (KK P).lookup 67=some fo3 by kernel_rfl) (show PySem.W.codeIn (KK P) (.ref 66) "words_of"=true by kernel_rfl) (show PySem.W.keepIn (KK P) (.ref 67)=true by kernel_rfl)
theorem fd3 (X:(KK P).In h) (G:h.Ns mainGlobals mg):Ld ck (KK P) mg fw:=⟨_,top 11,_,_,["book","words","row"],["book"],ff3,PySem.W.mg_of X G (show PySem.W.nsIn (KK P) mainGlobals "words_of"=some (some (.ref 67)) by kernel_rfl),ff3.binds (ps:=["book"]) (fun _ _ _ _ _ _ us hl=>match us,hl with|[_],_=>rfl),mZ,rfl,rfl,m6⟩
theorem ff4:Fun (KK P) "free_name" "free_name" (top 13) 74 fx4:=bj (st:=top 13) (show (KK P).lookup 74=some fo4 by kernel_rfl) (show PySem.W.codeIn (KK P) (.ref 73) "free_name"=true by kernel_rfl) (show PySem.W.keepIn (KK P) (.ref 74)=true by kernel_rfl)
theorem fd4 (X:(KK P).In h) (G:h.Ns mainGlobals mg):Ld ck (KK P) mg cB:=⟨_,top 13,_,_,["stem","taken","number","name"],["stem","taken"],ff4,PySem.W.mg_of X G (show PySem.W.nsIn (KK P) mainGlobals "free_name"=some (some (.ref 74)) by kernel_rfl),ff4.binds (ps:=["stem","taken"]) (fun _ _ _ _ _ _ us hl=>match us,hl with|[_,_],_=>rfl),lC,rfl,rfl,lD⟩
theorem ff5:Fun (KK P) "new_names" "new_names" (top 14) 81 fx5:=bj (st:=top 14) (show (KK P).lookup 81=some fo5 by kernel_rfl) (show PySem.W.codeIn (KK P) (.ref 80) "new_names"=true by kernel_rfl) (show PySem.W.keepIn (KK P) (.ref 81)=true by kernel_rfl)
theorem fd5 (X:(KK P).In h) (G:h.Ns mainGlobals mg):Ld ck (KK P) mg cC:=⟨_,top 14,_,_,["one","other","same","of_one","of_other","taken","word","names","name"],["one","other","same"],ff5,PySem.W.mg_of X G (show PySem.W.nsIn (KK P) mainGlobals "new_names"=some (some (.ref 81)) by kernel_rfl),ff5.binds (ps:=["one","other","same"]) (fun _ _ _ _ _ _ us hl=>match us,hl with|[_,_,_],_=>rfl),lE,rfl,rfl,lF⟩
theorem ff6:Fun (KK P) "renamed" "renamed" (top 15) 86 fx6:=bj (st:=top 15) (show (KK P).lookup 86=some fo6 by kernel_rfl) (show PySem.W.codeIn (KK P) (.ref 85) "renamed"=true by kernel_rfl) (show PySem.W.keepIn (KK P) (.ref 86)=true by kernel_rfl)
theorem fd6 (X:(KK P).In h) (G:h.Ns mainGlobals mg):Ld ck (KK P) mg dh:=⟨_,top 15,_,_,["row","names"],["row","names"],ff6,PySem.W.mg_of X G (show PySem.W.nsIn (KK P) mainGlobals "renamed"=some (some (.ref 86)) by kernel_rfl),ff6.binds (ps:=["row","names"]) (fun _ _ _ _ _ _ us hl=>match us,hl with|[_,_],_=>rfl),oU,rfl,rfl,oV⟩
theorem ff7:Fun (KK P) "laid" "laid" (top 16) 91 fx7:=bj (st:=top 16) (show (KK P).lookup 91=some fo7 by kernel_rfl) (show PySem.W.codeIn (KK P) (.ref 90) "laid"=true by kernel_rfl) (show PySem.W.keepIn (KK P) (.ref 91)=true by kernel_rfl)
theorem fd7 (X:(KK P).In h) (G:h.Ns mainGlobals mg):Ld ck (KK P) mg jc:=⟨_,top 16,_,_,["one","other","same","names","rows","row","new_row"],["one","other","same"],ff7,PySem.W.mg_of X G (show PySem.W.nsIn (KK P) mainGlobals "laid"=some (some (.ref 91)) by kernel_rfl),ff7.binds (ps:=["one","other","same"]) (fun _ _ _ _ _ _ us hl=>match us,hl with|[_,_,_],_=>rfl),vH,rfl,rfl,vI⟩
theorem ff8:Fun (KK P) "_law_mix" "_law_mix" (top 18) 98 fx8:=bj (st:=top 18) (show (KK P).lookup 98=some fo8 by kernel_rfl) (show PySem.W.codeIn (KK P) (.ref 97) "_law_mix"=true by kernel_rfl) (show PySem.W.keepIn (KK P) (.ref 98)=true by kernel_rfl)
theorem fd8 (X:(KK P).In h) (G:h.Ns mainGlobals mg):Ld ck (KK P) mg gv:=⟨_,top 18,_,_,["_law_cell_here","_law_k","_law_by"],["_law_cell_here","_law_k"],ff8,PySem.W.mg_of X G (show PySem.W.nsIn (KK P) mainGlobals "_law_mix"=some (some (.ref 98)) by kernel_rfl),ff8.binds (ps:=["_law_cell_here","_law_k"]) (fun _ _ _ _ _ _ us hl=>match us,hl with|[_,_],_=>rfl),oW,rfl,rfl,oX⟩
theorem ff9:Fun (KK P) "_law_cell" "_law_cell" (top 19) 105 fx9:=bj (st:=top 19) (show (KK P).lookup 105=some fo9 by kernel_rfl) (show PySem.W.codeIn (KK P) (.ref 104) "_law_cell"=true by kernel_rfl) (show PySem.W.keepIn (KK P) (.ref 105)=true by kernel_rfl)
theorem fd9 (X:(KK P).In h) (G:h.Ns mainGlobals mg):Ld ck (KK P) mg fy:=⟨_,top 19,_,_,["_law_script","_law_k","_law_seed"],["_law_script","_law_k"],ff9,PySem.W.mg_of X G (show PySem.W.nsIn (KK P) mainGlobals "_law_cell"=some (some (.ref 105)) by kernel_rfl),ff9.binds (ps:=["_law_script","_law_k"]) (fun _ _ _ _ _ _ us hl=>match us,hl with|[_,_],_=>rfl),m7,rfl,rfl,m8⟩
theorem zR:Fun (KK P) "_law_drawn" "_law_drawn" (top 20) 112 zt:=bj (st:=top 20) (show (KK P).lookup 112=some zu by kernel_rfl) (show PySem.W.codeIn (KK P) (.ref 111) "_law_drawn"=true by kernel_rfl) (show PySem.W.keepIn (KK P) (.ref 112)=true by kernel_rfl)
theorem AI (X:(KK P).In h) (G:h.Ns mainGlobals mg):Ld ck (KK P) mg eu:=⟨_,top 20,_,_,["_law_cell_here","_law_many","_law_found","_law_left","_law_k"],["_law_cell_here","_law_many"],zR,PySem.W.mg_of X G (show PySem.W.nsIn (KK P) mainGlobals "_law_drawn"=some (some (.ref 112)) by kernel_rfl),zR.binds (ps:=["_law_cell_here","_law_many"]) (fun _ _ _ _ _ _ us hl=>match us,hl with|[_,_],_=>rfl),lG,rfl,rfl,lH⟩
theorem zS:Fun (KK P) "_law_name" "_law_name" (top 21) 117 zv:=bj (st:=top 21) (show (KK P).lookup 117=some zw by kernel_rfl) (show PySem.W.codeIn (KK P) (.ref 116) "_law_name"=true by kernel_rfl) (show PySem.W.keepIn (KK P) (.ref 117)=true by kernel_rfl)
theorem AJ (X:(KK P).In h) (G:h.Ns mainGlobals mg):Ld ck (KK P) mg fz:=⟨_,top 21,_,_,["_law_drawn_here","_law_names_here","_law_letters","_law_name_here","_law_stem","_law_spare"],["_law_drawn_here","_law_names_here"],zS,PySem.W.mg_of X G (show PySem.W.nsIn (KK P) mainGlobals "_law_name"=some (some (.ref 117)) by kernel_rfl),zS.binds (ps:=["_law_drawn_here","_law_names_here"]) (fun _ _ _ _ _ _ us hl=>match us,hl with|[_,_],_=>rfl),m9,rfl,rfl,m_⟩
theorem zT:Fun (KK P) "_law_names" "_law_names" (top 22) 124 zx:=bj (st:=top 22) (show (KK P).lookup 124=some zy by kernel_rfl) (show PySem.W.codeIn (KK P) (.ref 123) "_law_names"=true by kernel_rfl) (show PySem.W.keepIn (KK P) (.ref 124)=true by kernel_rfl)
theorem AK (X:(KK P).In h) (G:h.Ns mainGlobals mg):Ld ck (KK P) mg ez:=⟨_,top 22,_,_,["_law_script","_law_base","_law_many","_law_names_here","_law_k"],["_law_script","_law_base","_law_many"],zT,PySem.W.mg_of X G (show PySem.W.nsIn (KK P) mainGlobals "_law_names"=some (some (.ref 124)) by kernel_rfl),zT.binds (ps:=["_law_script","_law_base","_law_many"]) (fun _ _ _ _ _ _ us hl=>match us,hl with|[_,_,_],_=>rfl),lI,rfl,rfl,lJ⟩
theorem zU:Fun (KK P) "_law_told" "_law_told" (top 23) 131 zA:=bj (st:=top 23) (show (KK P).lookup 131=some zB by kernel_rfl) (show PySem.W.codeIn (KK P) (.ref 130) "_law_told"=true by kernel_rfl) (show PySem.W.keepIn (KK P) (.ref 131)=true by kernel_rfl)
theorem AL (X:(KK P).In h) (G:h.Ns mainGlobals mg):Ld ck (KK P) mg fA:=⟨_,top 23,_,_,["_law_drawn_here","_law_names_here","_law_top","_law_told_here","_law_k","_law_one"],["_law_drawn_here","_law_names_here"],zU,PySem.W.mg_of X G (show PySem.W.nsIn (KK P) mainGlobals "_law_told"=some (some (.ref 131)) by kernel_rfl),zU.binds (ps:=["_law_drawn_here","_law_names_here"]) (fun _ _ _ _ _ _ us hl=>match us,hl with|[_,_],_=>rfl),ng,rfl,rfl,nh⟩
theorem zV:Fun (KK P) "_law_book" "_law_book" (top 24) 138 zC:=bj (st:=top 24) (show (KK P).lookup 138=some zD by kernel_rfl) (show PySem.W.codeIn (KK P) (.ref 137) "_law_book"=true by kernel_rfl) (show PySem.W.keepIn (KK P) (.ref 138)=true by kernel_rfl)
theorem AM (X:(KK P).In h) (G:h.Ns mainGlobals mg):Ld ck (KK P) mg fB:=⟨_,top 24,_,_,["_law_script","_law_base","_law_names_here","_law_many","_law_rows","_law_met","_law_k","_law_drawn_here","_law_row","_law_key"],["_law_script","_law_base","_law_names_here","_law_many"],zV,PySem.W.mg_of X G (show PySem.W.nsIn (KK P) mainGlobals "_law_book"=some (some (.ref 138)) by kernel_rfl),zV.binds (ps:=["_law_script","_law_base","_law_names_here","_law_many"]) (fun _ _ _ _ _ _ us hl=>match us,hl with|[_,_,_,_],_=>rfl),ni,rfl,rfl,nj⟩
theorem zW:Fun (KK P) "_law_words" "_law_words" (top 25) 145 zE:=bj (st:=top 25) (show (KK P).lookup 145=some zF by kernel_rfl) (show PySem.W.codeIn (KK P) (.ref 144) "_law_words"=true by kernel_rfl) (show PySem.W.keepIn (KK P) (.ref 145)=true by kernel_rfl)
theorem AN (X:(KK P).In h) (G:h.Ns mainGlobals mg):Ld ck (KK P) mg bY:=⟨_,top 25,_,_,["_law_book_here","_law_found","_law_word","_law_told_here"],["_law_book_here"],zW,PySem.W.mg_of X G (show PySem.W.nsIn (KK P) mainGlobals "_law_words"=some (some (.ref 145)) by kernel_rfl),zW.binds (ps:=["_law_book_here"]) (fun _ _ _ _ _ _ us hl=>match us,hl with|[_],_=>rfl),lK,rfl,rfl,lL⟩
theorem zX:Fun (KK P) "_law_stands" "_law_stands" (top 26) 150 zG:=bj (st:=top 26) (show (KK P).lookup 150=some zH by kernel_rfl) (show PySem.W.codeIn (KK P) (.ref 149) "_law_stands"=true by kernel_rfl) (show PySem.W.keepIn (KK P) (.ref 150)=true by kernel_rfl)
theorem AO (X:(KK P).In h) (G:h.Ns mainGlobals mg):Ld ck (KK P) mg b7:=⟨_,top 26,_,_,["_law_rows","_law_row"],["_law_rows","_law_row"],zX,PySem.W.mg_of X G (show PySem.W.nsIn (KK P) mainGlobals "_law_stands"=some (some (.ref 150)) by kernel_rfl),zX.binds (ps:=["_law_rows","_law_row"]) (fun _ _ _ _ _ _ us hl=>match us,hl with|[_,_],_=>rfl),jC,rfl,rfl,jD⟩
theorem zY:Fun (KK P) "_law_renamed" "_law_renamed" (top 27) 155 zI:=bj (st:=top 27) (show (KK P).lookup 155=some zJ by kernel_rfl) (show PySem.W.codeIn (KK P) (.ref 154) "_law_renamed"=true by kernel_rfl) (show PySem.W.keepIn (KK P) (.ref 155)=true by kernel_rfl)
theorem AQ (X:(KK P).In h) (G:h.Ns mainGlobals mg):Ld ck (KK P) mg bS:=⟨_,top 27,_,_,["_law_one","_law_other","_law_same","_law_mine","_law_theirs","_law_given","_law_word","_law_some","_law_met"],["_law_one","_law_other","_law_same"],zY,PySem.W.mg_of X G (show PySem.W.nsIn (KK P) mainGlobals "_law_renamed"=some (some (.ref 155)) by kernel_rfl),zY.binds (ps:=["_law_one","_law_other","_law_same"]) (fun _ _ _ _ _ _ us hl=>match us,hl with|[_,_,_],_=>rfl),jd,rfl,rfl,je⟩
theorem zZ:Fun (KK P) "_law_due" "_law_due" (top 28) 160 zK:=bj (st:=top 28) (show (KK P).lookup 160=some zL by kernel_rfl) (show PySem.W.codeIn (KK P) (.ref 159) "_law_due"=true by kernel_rfl) (show PySem.W.keepIn (KK P) (.ref 160)=true by kernel_rfl)
theorem AR (X:(KK P).In h) (G:h.Ns mainGlobals mg):Ld ck (KK P) mg di:=⟨_,top 28,_,_,["_law_one","_law_other","_law_same","_law_given","_law_rows","_law_word","_law_told_here","_law_row"],["_law_one","_law_other","_law_same"],zZ,PySem.W.mg_of X G (show PySem.W.nsIn (KK P) mainGlobals "_law_due"=some (some (.ref 160)) by kernel_rfl),zZ.binds (ps:=["_law_one","_law_other","_law_same"]) (fun _ _ _ _ _ _ us hl=>match us,hl with|[_,_,_],_=>rfl),oY,rfl,rfl,oZ⟩
theorem z8:Fun (KK P) "_law_both" "_law_both" (top 29) 167 zM:=bj (st:=top 29) (show (KK P).lookup 167=some zN by kernel_rfl) (show PySem.W.codeIn (KK P) (.ref 166) "_law_both"=true by kernel_rfl) (show PySem.W.keepIn (KK P) (.ref 167)=true by kernel_rfl)
theorem AS (X:(KK P).In h) (G:h.Ns mainGlobals mg):Ld ck (KK P) mg cM:=⟨_,top 29,_,_,["_law_one","_law_other","_law_cut","_law_rows","_law_word","_law_told_here","_law_row"],["_law_one","_law_other","_law_cut"],z8,PySem.W.mg_of X G (show PySem.W.nsIn (KK P) mainGlobals "_law_both"=some (some (.ref 167)) by kernel_rfl),z8.binds (ps:=["_law_one","_law_other","_law_cut"]) (fun _ _ _ _ _ _ us hl=>match us,hl with|[_,_,_],_=>rfl),nq,rfl,rfl,nu⟩
theorem yi:Fun (KK P) "law" "law" (top 30) 172 zO:=bj (st:=top 30) (show (KK P).lookup 172=some zP by kernel_rfl) (show PySem.W.codeIn (KK P) (.ref 171) "law"=true by kernel_rfl) (show PySem.W.keepIn (KK P) (.ref 172)=true by kernel_rfl)
theorem AU (X:(KK P).In h) (G:h.Ns mainGlobals mg):Ld ck (KK P) mg e_:=⟨_,top 30,_,_,["_law_script","_law_drawn_here","_law_names_here","_law_mine","_law_theirs","_law_one","_law_other","_law_same","_law_kept","_law_due_here","_law_found","_law_row"],["_law_script"],yi,PySem.W.mg_of X G (show PySem.W.nsIn (KK P) mainGlobals "law"=some (some (.ref 172)) by kernel_rfl),yi.binds (ps:=["_law_script"]) (fun _ _ _ _ _ _ us hl=>match us,hl with|[_],_=>rfl),tT,rfl,rfl,tU⟩
theorem AV {fa:Addr} (X:(KK P).In h) (G:h.Ns mainGlobals mg) (hfa:mg "law"=some (.ref fa)):(∀ y∈bC,mg y=none)∧(∀ p∈ck.gl,∃ val v,mg p.1=some val∧RelV v val∧∀ (C:Ct) S H,Rep C S H p.2 v)∧(∀ g∈prog,Ld ck (KK P) mg g) ∧
   ∃ (qual:Str) (st:Stmt) (fd:FuncData) (N:List Str),Fun (KK P) e_.name qual st fa fd∧aD N ["_law_script"] (aa st)∧N.length=e_.ns∧1=e_.np∧aV ck e_.body N (aa st) (aj st)=true∧∀ (s:Shared) (u:Value),BindsTo s fd ⟨[u],[]⟩ [("_law_script",u)]:=by
 have e:=hfa.symm.trans (PySem.W.mg_of X G (show PySem.W.nsIn (KK P) mainGlobals "law"=some (some (.ref 172)) by kernel_rfl))
 cases e
 refine ⟨fun y hy=>PySem.W.mg_none_of X G (zQ (List.all_eq_true.mp (yh P) y hy)),fun p hp=>?_,fun g hg=>?_,⟨_,top 30,_,["_law_script","_law_drawn_here","_law_names_here","_law_mine","_law_theirs","_law_one","_law_other","_law_same","_law_kept","_law_due_here","_law_found","_law_row"],yi,tT,rfl,rfl,tU,fun s v=>.of_eq rfl⟩⟩
 ·simp only [ck,List.mem_cons,List.not_mem_nil,or_false] at hp
  rcases hp with rfl|rfl|rfl
  ·exact ⟨_,(.int 1),PySem.W.mg_of X G (show PySem.W.nsIn (KK P) mainGlobals "FIRST_SENSE"=some (some (.int 1 225)) by kernel_rfl),⟨_,rfl⟩,fun _ _ _=>rfl⟩
  ·exact ⟨_,(.int 99),PySem.W.mg_of X G (show PySem.W.nsIn (KK P) mainGlobals "LAST_SENSE"=some (some (.int 99 227)) by kernel_rfl),⟨_,rfl⟩,fun _ _ _=>rfl⟩
  ·exact ⟨_,(.int 60),PySem.W.mg_of X G (show PySem.W.nsIn (KK P) mainGlobals "MOST_ROWS"=some (some (.int 60 238)) by kernel_rfl),⟨_,rfl⟩,fun _ _ _=>rfl⟩
 ·simp only [prog,List.mem_cons,List.not_mem_nil,or_false] at hg
  rcases hg with rfl|rfl|rfl|rfl|rfl|rfl|rfl|rfl|rfl|rfl|rfl|rfl|rfl|rfl|rfl|rfl|rfl|rfl|rfl|rfl|rfl
  ·exact fd0 X G
  ·exact fd1 X G
  ·exact fd2 X G
  ·exact fd3 X G
  ·exact fd4 X G
  ·exact fd5 X G
  ·exact fd6 X G
  ·exact fd7 X G
  ·exact fd8 X G
  ·exact fd9 X G
  ·exact AI X G
  ·exact AJ X G
  ·exact AK X G
  ·exact AL X G
  ·exact AM X G
  ·exact AN X G
  ·exact AO X G
  ·exact AQ X G
  ·exact AR X G
  ·exact AS X G
  ·exact AU X G
end
end K
open PySem PySem.W PyProof.Rows
set_option maxRecDepth 100000 in
set_option maxHeartbeats 0 in
theorem PySem.Challenge.cw_primer_k62_laid_rows_holds : PySem.Challenge.rw_primer_k62_laid_rows.Holds := by
 w_on; o_law; o_head (kHook K.KK [3, 45, 46, 52, 53, 59, 60, 66, 67, 73, 74, 80, 81, 85, 86, 90, 91, 97, 98, 104, 105, 111, 112, 116, 117, 123, 124, 130, 131, 137, 138, 144, 145, 149, 150, 154, 155, 159, 160, 166, 167, 171, 172] (fun _ => by kernel_rfl)); (case hw => w_witness2)
 refine TM.walk (l := PySem.Challenge.rw_primer_k62_laid_rows) (Pg := K.prog) (ck := K.ck) (dp := 4) (x := "_law_script") (fn := K.e_) rfl rfl ⟨rfl, by decide, by decide, rfl⟩ (fun w h Y => PySem.W.kIn_of Y) (by decide +kernel) rfl (by simp [K.prog]) rfl (fun w mg fa h KX G hmg => K.AV KX G hmg) K.pure
