import PyProof.Rows.All
import Wide.All
import OpenK.AllK
import Wide.FinOn
import Lean
import PyProof.EqAt
import PyProof.EqKinds
import PyProof.TupleCall
import PySem.Challenge.RW_jointhold_k15_best_of
theorem obs {α β:Type _} {o:Option α} {f:α→Option β} {b:β} (h:o.bind f=some b):∃ a,o=some a∧f a=some b:=Option.bind_eq_some_iff.mp h
set_option genSizeOf false
set_option Elab.async false
set_option linter.all false
set_option maxRecDepth 100000
namespace L2
open PySem PySem.Spec PyProof.Rows
noncomputable abbrev Key:=Sum Int Str
noncomputable def Qh6:Key→Value→Bool
 |.inl k,v=>Value.isInt k v
 |.inr x,v=>Value.isStrOf x v
noncomputable def keyH (w:World):Key→Int
 |.inl k=>hashInt k
 |.inr x=>hashStr w x
theorem Qa7:∀ {k:Key}{v:Value},Qh6 k v=true→(∃ i t,k=Sum.inl i∧v=Value.int i t)∨(∃ x t,k=Sum.inr x∧v=Value.str x t)
 |.inl i,v,h=>by
  obtain⟨t,e⟩:=Value.isInt_shape (k:=i) (v:=v) h
  exact .inl ⟨i,t,rfl,e⟩
 |.inr x,v,h=>by
  obtain⟨t,e⟩:=Value.isStrOf_shape (x:=x) (v:=v) h
  exact .inr ⟨x,t,rfl,e⟩
theorem QjA (i:Int) (t:Tok):Qh6 (.inl i) (.int i t)=true:=by simp[Qh6,Value.isInt]
theorem Qib (x:Str) (t:Tok):Qh6 (.inr x) (.str x t)=true:=by simp[Qh6,Value.isStrOf]
theorem key_ll (a b:Int):decide ((Sum.inl a:Key)=Sum.inl b)=(a == b):=by
 by_cases e:a=b
 ·subst e;simp
 ·have h:¬ (Sum.inl a:Key)=Sum.inl b:=fun q=>e (Sum.inl.inj q)
  rw[decide_eq_false h]
  exact(beq_eq_false_iff_ne.mpr e).symm
theorem key_rr (a b:Str):decide ((Sum.inr a:Key)=Sum.inr b)=decide (a=b):=by
 by_cases e:a=b
 ·subst e;simp
 ·have h:¬ (Sum.inr a:Key)=Sum.inr b:=fun q=>e (Sum.inr.inj q)
  rw[decide_eq_false h,decide_eq_false e]
theorem key_lr (a:Int) (b:Str):decide ((Sum.inl a:Key)=Sum.inr b)=false:=decide_eq_false (fun q=>nomatch q)
theorem key_rl (a:Str) (b:Int):decide ((Sum.inr a:Key)=Sum.inl b)=false:=decide_eq_false (fun q=>nomatch q)
noncomputable def QaA (prog:Program) (w:World):PySem.KeyKind prog w Key where
 is:=Qh6
 hash:=keyH w
 inj:=fun v a b ha hb=>by
  rcases Qa7 ha with ⟨i,t,rfl,rfl⟩ | ⟨x,t,rfl,rfl⟩
  ·rcases Qa7 hb with ⟨j,u,rfl,e⟩ | ⟨y,u,rfl,e⟩
   ·injection e with e1 _;rw[e1]
   ·exact nomatch e
  ·rcases Qa7 hb with ⟨j,u,rfl,e⟩ | ⟨y,u,rfl,e⟩
   ·exact nomatch e
   ·injection e with e1 _;rw[e1]
 byValue:=fun k v h=>by
  rcases Qa7 h with ⟨i,t,rfl,rfl⟩ | ⟨x,t,rfl,rfl⟩<;>rfl
 pyHash:=fun hv h=>by
  rcases Qa7 hv with ⟨i,t,rfl,rfl⟩ | ⟨x,t,rfl,rfl⟩
  ·exact wpAny_pyHash_int h
  ·exact wpAny_pyHash_str h
 eqBool:=fun hu hv h=>by
  rcases Qa7 hu with ⟨i,t,rfl,rfl⟩ | ⟨x,t,rfl,rfl⟩
  ·rcases Qa7 hv with ⟨j,u,rfl,rfl⟩ | ⟨y,u,rfl,rfl⟩
   ·rw[key_ll]at h;exact wpAny_eqBool_int h
   ·rw[key_lr]at h;exact SeqAt.EqAt.int_str i t y u _ _ _ _ h
  ·rcases Qa7 hv with ⟨j,u,rfl,rfl⟩ | ⟨y,u,rfl,rfl⟩
   ·rw[key_rl]at h;exact SeqAt.EqAt.str_int x t j u _ _ _ _ h
   ·rw[key_rr]at h;exact wpAny_eqBool_str h
 «strs»:=fun k x t v h=>by
  rcases Qa7 h with ⟨i,u,rfl,e⟩ | ⟨y,u,rfl,e⟩
  ·exact nomatch e
  ·injection e with e1 _
   subst e1
   cases v<;>rfl
theorem Qgo (prog:Program) (w:World) (i:Int) (t:Tok):(QaA prog w).is (.inl i) (.int i t)=true:=QjA i t
theorem QfS (prog:Program) (w:World) (x:Str) (t:Tok):(QaA prog w).is (.inr x) (.str x t)=true:=Qib x t
end L2
namespace L2
open PySem PySem.Spec PyProof.Rows
inductive V where
 |non | bl (b:Bool) | int (i:Int) | str (x:Str) | byt (b:Array UInt8) | flt (b:UInt64) | ref (a:Addr) | ty (n:String)
 deriving DecidableEq
noncomputable def RelV:V→Value→Prop
 |.non,u=>u=Value.none
 |.bl b,u=>u=Value.bool b
 |.int i,u=>∃ t,u=Value.int i t
 |.str x,u=>∃ t,u=Value.str x t
 |.byt b,u=>∃ t,u=Value.bytes b t
 |.flt b,u=>∃ t,u=Value.float b t
 |.ref a,u=>u=Value.ref a
 |.ty n,u=>u=Value.type n
noncomputable abbrev Vals:List V→List Value→Prop:=Paired RelV
theorem Vals.length {xs:List V}{us:List Value} (r:Vals xs us):xs.length=us.length:=Paired.length r
theorem Vals.get:∀ {xs:List V}{us:List Value}{i:Nat}{x:V},Vals xs us→xs[i]?=some x→∃ u,us[i]?=some u∧RelV x u
 |_,_,_,_,.nil,e=>by simp at e
 |_,_,0,_,.cons r _,e=>by simp at e;subst e;exact⟨_,rfl,r⟩
 |_,_,i+1,x,.cons _ t,e=>by
  obtain⟨u,h1,h2⟩:=Vals.get (i:=i) (x:=x) t (by simpa using e)
  exact⟨u,by simpa using h1,h2⟩
theorem Vals.set {x:V}{u:Value} (r:RelV x u):∀ {xs:List V}{us:List Value} (i:Nat),Vals xs us→Vals (xs.set i x) (us.set i u)
 |_,_,_,.nil=>.nil
 |_,_,0,.cons _ t=>.cons r t
 |_,_,i+1,.cons q t=>.cons q (Vals.set r i t)
theorem Vals.append:∀ {xs ys:List V}{us ws:List Value},Vals xs us→Vals ys ws→Vals (xs++ys) (us++ws)
 |_,_,_,_,.nil,s=>s
 |_,_,_,_,.cons r t,s=>.cons r (Vals.append t s)
theorem Vals.take:∀ {xs:List V}{us:List Value} (n:Nat),Vals xs us→Vals (xs.take n) (us.take n)
 |_,_,0,_=>.nil
 |_,_,_+1,.nil=>.nil
 |_,_,n+1,.cons r t=>.cons r (Vals.take n t)
theorem Vals.drop:∀ {xs:List V}{us:List Value} (n:Nat),Vals xs us→Vals (xs.drop n) (us.drop n)
 |_,_,0,r=>r
 |_,_,_+1,.nil=>.nil
 |_,_,n+1,.cons _ t=>Vals.drop n t
noncomputable def RelO:Option V→Option Value→Prop
 |some v,some u=>RelV v u
 |none,none=>True
 |_,_=>False
noncomputable def KV {κ:Type}:List (κ×V)→List (κ×Value)→Prop:=Paired fun (p:κ×V) (q:κ×Value)=>p.1=q.1∧RelV p.2 q.2
noncomputable def kV:Key→V
 |.inl i=>.int i
 |.inr x=>.str x
inductive HO where
 /-- a list -/
 |lst (xs:List V)
 /-- a tuple (never changes) -/
 |tup (xs:List V)
 /-- a dict whose keys are ints and texts;one whose keys are tuples of ints and texts (the empty one is both) -/
 |dK (kvs:List (Key×V)) | dT (kvs:List (List Key×V))
 /-- a set of ints: its members,its size -/
 |set (S:Int→Bool) (n:Nat)
 /-- an instance of the class at C,its dict at dx,its attributes -/
 |ins (C dx:Addr) (fs:List (Str×V))
 /-- the dict of the instance at x -/
 |own (x:Addr)
 /-- the dict of an exception -/
 |xd (fs:List (Str×V))
 /-- a bound method,f of x -/
 |met (f x:Addr)
 /-- a range object lo,lo+1,.. below hi -/
 |rng (lo hi:Int)
 /-- a thing that is known to the object (the script;a dict while a loop walks it): read,never written while it is so -/
 |frz (o:Obj) (u:HO)
 /-- a code object's table -/
 |tbl (ps:Array Value)
 /-- any other thing,by what is true of its one object (a def of one's own: SetO a S n:=HO.ext fun h=>..) -/
 |ext (φ:Heap→Prop)
noncomputable abbrev Hp:=Addr→Option HO
noncomputable def upd (H:Hp) (a:Addr) (o:HO):Hp:=fun b=>if b=a then some o else H b
theorem QaK {H:Hp}{a:Addr}{o:HO}:upd H a o a=some o:=by unfold upd;rw[if_pos rfl]
theorem Qar {H:Hp}{a b:Addr}{o:HO} (h:b≠a):upd H a o b=H b:=by unfold upd;rw[if_neg h]
theorem ne_of {H:Hp}{a b:Addr}{o u:HO} (h:H a=some o) (h':H b=some u) (d:o≠u):a≠b:=by
 intro e;subst e;rw[h]at h';exact d (Option.some.inj h')
theorem QaJ {H:Hp}{a b:Addr}{o:HO} (h:H a=some o) (h':H b=none):a≠b:=by
 intro e;subst e;rw[h]at h';cases h'
section
variable (P:Program) (w:World)
noncomputable def ObjOk (H:Hp) (h:Heap) (a:Addr):HO→Prop
 |.lst xs=>xs.length≤sizeLine∧∃ (its:List Value) (n:Nat),Vals xs its∧h.get? a=some { cls:=.type "list",data:=.seq its.toArray n }
 |.tup xs=>xs.length≤sizeLine∧∃ its:List Value,Vals xs its∧IsTup h a its.toArray
 |.dK kvs=>kvs.length≤sizeLine∧(a == sysModules)=false∧∃ vs,KV kvs vs∧h.DictOf (QaA P w) a vs
 |.dT kvs=>kvs.length≤sizeLine∧(a == sysModules)=false∧∃ xs:List (List Key×Addr×Value),
  Paired (fun (p:List Key×V) (q:List Key×Addr×Value)=>p.1=q.1∧H q.2.1=some (.tup (p.1.map kV))∧RelV p.2 q.2.2) kvs xs ∧
  ∃ o es ep,h.get? a=some o∧o.ExactDict∧o.data=.dict es ep∧es.toList=xs.map (entryOfKey (tupleKind (QaA P w)))∧(xs.map (·.1)).Nodup
 |.set S n=>h.SetOf (intKind P w) a S n
 |.ins C dx fs=>H dx=some (.own a)∧fs.length≤1000∧dx≠a∧h.get? a=some (PySem.W.instObj C dx) ∧
  ∃ mA,h.Ns1 dx mA∧(∀ f,RelO (fs.lookup f) (mA f))∧PySem.Within mA (fs.map (·.1))
 |.own _=>∃ o,h.get? a=some o
 |.xd fs=>∃ mA,h.Ns1 a mA∧∀ f,RelO (fs.lookup f) (mA f)
 |.rng lo hi=>∃ t u v,h.get? a=some { cls:=.type "range",data:=.fields #[.int lo t,.int hi u,.int 1 v] }
 |.frz o u=>h.get? a=some o∧ObjOk H h a u
 |.tbl ps=>h.get? a=some { cls:=.none,data:=.fields ps }
 |.met f x=>h.get? a=some (PySem.W.methodObj (.ref f) (.ref x))
 |.ext φ=>φ h∧(∃ o,h.get? a=some o)∧∀ h1 h2:Heap,φ h1→(∀ o,h1.get? a=some o→h2.get? a=some o)→φ h2
noncomputable def HOk (H:Hp) (h:Heap):Prop:=∀ a o,H a=some o→ObjOk P w H h a o
end
section
variable {P:Program}{w:World}{H H':Hp}{h h':Heap}{a:Addr}{o:HO}
theorem ObjOk.lt (x:ObjOk P w H h a o):a<h.objs.size:=by
 cases o with
 |lst xs=>obtain⟨_,_,_,_,e⟩:=x;exact Heap.lt_size e
 |tup xs=>obtain⟨_,_,_,p⟩:=x;exact p.lt
 |dK kvs=>obtain⟨_,_,_,_,o,_,_,e,_⟩:=x;exact Heap.lt_size e
 |dT kvs=>obtain⟨_,_,_,_,o,_,_,e,_⟩:=x;exact Heap.lt_size e
 |set S n=>obtain⟨o,_,_,_,e,_⟩:=x;exact Heap.lt_size e
 |ins C dx fs=>obtain⟨_,_,_,e,_⟩:=x;exact Heap.lt_size e
 |own y=>obtain⟨_,e⟩:=x;exact Heap.lt_size e
 |xd fs=>obtain⟨_,⟨_,_,_,e,_⟩,_⟩:=x;exact Heap.lt_size e
 |rng lo hi=>obtain⟨_,_,_,e⟩:=x;exact Heap.lt_size e
 |frz ob u=>obtain⟨e,_⟩:=x;exact Heap.lt_size e
 |tbl ps=>exact Heap.lt_size (show h.get? a=some _ from x)
 |met f y=>exact Heap.lt_size (show h.get? a=some _ from x)
 |ext φ=>obtain⟨_,⟨_,e⟩,_⟩:=x;exact Heap.lt_size e
theorem Paired.mapP {α β:Type}{F G:α→β→Prop}:∀ {l₁:List α}{l₂:List β},Paired F l₁ l₂→(∀ a b,F a b→G a b)→Paired G l₁ l₂
 |_,_,.nil,_=>.nil
 |_,_,.cons r t,f=>.cons (f _ _ r) (Paired.mapP t f)
theorem ObjOk.stay (x:ObjOk P w H h a o) (k:∀ b u,(b=a∨H b=some (.own a))→h.get? b=some u→h'.get? b=some u)
  (ho:∀ b,H b=some (.own a)→H' b=some (.own a)) (ht:∀ b xs,H b=some (.tup xs)→H' b=some (.tup xs)):ObjOk P w H' h' a o:=by
 induction o with
 |lst xs=>obtain⟨z,its,n,r,e⟩:=x;exact⟨z,its,n,r,k _ _ (.inl rfl) e⟩
 |tup xs=>obtain⟨z,its,r,ob,e,c⟩:=x;exact⟨z,its,r,ob,k _ _ (.inl rfl) e,c⟩
 |dK kvs=>obtain⟨z,y,vs,r,ob,es,ep,e,c⟩:=x;exact⟨z,y,vs,r,ob,es,ep,k _ _ (.inl rfl) e,c⟩
 |dT kvs =>
  obtain⟨z,y,xs,r,ob,es,ep,e,c⟩:=x
  exact⟨z,y,xs,Paired.mapP r fun p q z=>⟨z.1,ht _ _ z.2.1,z.2.2⟩,ob,es,ep,k _ _ (.inl rfl) e,c⟩
 |set S n=>obtain⟨ob,es,ep,t,e,c⟩:=x;exact⟨ob,es,ep,t,k _ _ (.inl rfl) e,c⟩
 |ins C dx fs =>
  obtain⟨d,z,ne,e,mA,⟨od,es,ep,e2,c⟩,r⟩:=x
  exact⟨ho _ d,z,ne,k _ _ (.inl rfl) e,mA,⟨od,es,ep,k _ _ (.inr d) e2,c⟩,r⟩
 |own y=>obtain⟨ob,e⟩:=x;exact⟨ob,k _ _ (.inl rfl) e⟩
 |xd fs=>obtain⟨mA,⟨od,es,ep,e,c⟩,r⟩:=x;exact⟨mA,⟨od,es,ep,k _ _ (.inl rfl) e,c⟩,r⟩
 |rng lo hi=>obtain⟨t,u,v,e⟩:=x;exact⟨t,u,v,k _ _ (.inl rfl) e⟩
 |frz ob u ih=>obtain⟨e,q⟩:=x;exact⟨k _ _ (.inl rfl) e,ih q⟩
 |tbl ps =>
  have e:h.get? a=some { cls:=.none,data:=.fields ps }:=x
  show h'.get? a=some { cls:=.none,data:=.fields ps }
  exact k a _ (.inl rfl) e
 |met f y =>
  have e:h.get? a=some (PySem.W.methodObj (.ref f) (.ref y)):=x
  show h'.get? a=some (PySem.W.methodObj (.ref f) (.ref y))
  exact k a _ (.inl rfl) e
 |ext φ=>obtain⟨p,⟨o,e⟩,st⟩:=x;exact⟨st _ _ p fun o q=>k _ _ (.inl rfl) q,⟨o,k _ _ (.inl rfl) e⟩,st⟩
theorem HOk.lt (x:HOk P w H h) (e:H a=some o):a<h.objs.size:=(x a o e).lt
theorem HOk.fresh (x:HOk P w H h) (e:h.objs.size≤a):H a=none:=by
 cases q:H a with
 |none=>rfl
 |some u=>exact absurd (Nat.lt_of_lt_of_le (x.lt q) e) (Nat.lt_irrefl _)
theorem HOk.kept (x:HOk P w H h) (k:∀ b u,h.get? b=some u→h'.get? b=some u):HOk P w H h':=fun a o e =>
 (x a o e).stay (fun b u _ q=>k b u q) (fun _ q=>q) fun _ _ q=>q
theorem HOk.laid (x:HOk P w H h) (k:∀ b u,h.get? b=some u→h'.get? b=some u) (hp:h.objs.size≤a) (new:ObjOk P w (upd H a o) h' a o):HOk P w (upd H a o) h':=fun b u e=>by
 have hn:=x.fresh hp
 by_cases hb:b=a
 ·subst hb;rw[QaK]at e;cases e;exact new
 ·rw[Qar hb]at e
  exact(x b u e).stay (fun c v _ q=>k c v q) (fun c q=>by rw[Qar (QaJ q hn)];exact q) fun c xs q=>by rw[Qar (QaJ q hn)];exact q
end
noncomputable def Rd (H:Hp) (a:Addr) (u:HO):Prop:=H a=some u∨∃ o,H a=some (.frz o u)
theorem Rd.ok {P:Program}{w:World}{H:Hp}{h:Heap}{a:Addr}{u:HO} (r:Rd H a u) (x:HOk P w H h):ObjOk P w H h a u:=by
 rcases r with r | ⟨o,r⟩
 ·exact x a u r
 ·obtain⟨_,q⟩:=x a _ r
  exact q
noncomputable def Mut:Option HO→Prop
 |some (.lst _)=>True
 |some (.dK _)=>True
 |some (.dT _)=>True
 |some (.set _ _)=>True
 |some (.ins _ _ _)=>True
 |some (.ext _)=>True
 |_=>False
section
variable {P:Program}{w:World}{H:Hp}{h h':Heap}{x e:Addr}{o':HO}
theorem HOk.write (ok:HOk P w H h) (mu:Mut (H x)) (he:e=x∨H e=some (.own x)) (k:∀ b u,b≠e→h.get? b=some u→h'.get? b=some u) (heo:∃ u,h'.get? e=some u)
  (new:ObjOk P w (upd H x o') h' x o'):HOk P w (upd H x o') h':=fun b u q=>by
 have nown:∀ c y,H c=some (.own y)→c≠x:=fun c y r z=>by subst z;rw[r]at mu;exact mu
 have ntup:∀ c xs,H c=some (.tup xs)→c≠x:=fun c xs r z=>by subst z;rw[r]at mu;exact mu
 by_cases hb:b=x
 ·subst hb;rw[QaK]at q;cases q;exact new
 ·rw[Qar hb]at q
  by_cases hbe:b=e
  ·have q':H b=some (.own x):=by
    rcases he with z | z
    ·exact absurd (hbe.trans z) hb
    ·rw[hbe];exact z
   rw[q]at q';cases q'
   obtain⟨v,hv⟩:=heo
   exact⟨v,by rw[hbe];exact hv⟩
  ·refine(ok b u q).stay (fun c v hc r=>k c v ?_ r) (fun c r=>by rw[Qar (nown c b r)];exact r) fun c xs r=>by rw[Qar (ntup c xs r)];exact r
   rcases hc with rfl | hc
   ·exact hbe
   ·rintro rfl
    rcases he with z | z
    ·exact nown c b hc z
    ·rw[hc]at z;cases z;exact hb rfl
end
structure Un (fs ex:List Addr) (H H':Hp) (h h':Heap):Prop where
 keep:∀ b o,h.get? b=some o→H b=none→b∉fs→b∉ex→h'.get? b=some o
 slot:∀ b o,h.get? b=some o→H b=none→b∈fs→b∉ex→∃ sl,h'.get? b=some { o with slots:=sl }
 free:∀ b o,h.get? b=some o→H b=none→b∉ex→H' b=none
 there:∀ b o,h.get? b=some o→b∉ex→∃ o',h'.get? b=some o'
 tups:∀ b xs,H b=some (.tup xs)→H' b=some (.tup xs)
 frzs:∀ b o u,H b=some (.frz o u)→H' b=some (.frz o u)
 tbls:∀ b ps,H b=some (.tbl ps)→∃ more,H' b=some (.tbl (ps++more))
section
variable {fs fs' ex ex':List Addr}{H H1 H2:Hp}{h h1 h2 h':Heap}{a x e:Addr}{o:HO}
theorem Un.any (u:Un fs ex H H1 h h1) {b:Addr}{ob:Obj} (q:h.get? b=some ob) (n:H b=none) (hx:b∉ex):∃ sl,h1.get? b=some { ob with slots:=sl }:=by
 by_cases hb:b∈fs
 ·exact u.slot b ob q n hb hx
 ·exact⟨ob.slots,u.keep b ob q n hb hx⟩
theorem Un.kept (k:∀ b u,h.get? b=some u→h'.get? b=some u):Un fs ex H H h h' :=
 ⟨fun b ob q _ _ _=>k b ob q,fun b ob q _ _ _=>⟨ob.slots,k b ob q⟩,fun _ _ _ n _=>n,fun b ob q _=>⟨ob,k b ob q⟩,fun _ _ q=>q,fun _ _ _ q=>q,fun _ ps q=>⟨#[],by rw[q];simp⟩⟩
theorem Un.refl:Un fs ex H H h h:=Un.kept fun _ _ q=>q
theorem Un.laid (k:∀ b u,h.get? b=some u→h'.get? b=some u) (hp:h.objs.size≤a) (hn:H a=none):Un fs ex H (upd H a o) h h' where
 keep:=fun b u q _ _ _=>k b u q
 slot:=fun b u q _ _ _=>⟨u.slots,k b u q⟩
 free:=fun b u q n _=>by rw[Qar (Nat.ne_of_lt (Nat.lt_of_lt_of_le (Heap.lt_size q) hp))];exact n
 there:=fun b u q _=>⟨u,k b u q⟩
 tups:=fun b xs q=>by rw[Qar (QaJ q hn)];exact q
 frzs:=fun b u xs q=>by rw[Qar (QaJ q hn)];exact q
 tbls:=fun b ps q=>⟨#[],by rw[Qar (QaJ q hn),q];simp⟩
theorem Un.write (mu:Mut (H x)) (he:e=x∨H e=some (.own x)) (k:∀ b u,b≠e→h.get? b=some u→h'.get? b=some u) (heo:∃ u,h'.get? e=some u):Un fs ex H (upd H x o) h h':=by
 have hx:∀ b,H b=none→b≠x:=fun b n z=>by subst z;rw[n]at mu;exact mu
 have hb:∀ b,H b=none→b≠e:=fun b n z=>by
  subst z
  rcases he with r | r
  ·exact hx b n r
  ·rw[n]at r;cases r
 have hm:∀ b u,H b=some u→¬ Mut (some u)→b≠x:=fun b u q nm z=>by subst z;rw[q]at mu;exact nm mu
 refine⟨fun b u q n _ _=>k b u (hb b n) q,fun b u q n _ _=>⟨u.slots,k b u (hb b n) q⟩,fun b u q n _=>by rw[Qar (hx b n)];exact n,fun b u q _=>?_,
  fun b xs q=>by rw[Qar (hm b _ q fun z=>z)];exact q,fun b u xs q=>by rw[Qar (hm b _ q fun z=>z)];exact q,fun b ps q=>⟨#[],by rw[Qar (hm b _ q fun z=>z),q];simp⟩⟩
 by_cases hbe:b=e
 ·subst hbe;exact heo
 ·exact⟨u,k b u hbe q⟩
end
noncomputable def trk (h:Heap) (H:Hp):List Addr:=(List.range h.objs.size).filter fun a=>(H a).isSome
noncomputable def Qk8 (h:Heap) (H:Hp):Heap:=PySem.W.hideAll h (trk h H)
theorem Qjg (h:Heap) (H:Hp):(Qk8 h H).objs.size=h.objs.size:=PySem.W.hideAll_size _ _
theorem Qkt {h:Heap}{H:Hp}{b:Addr}{o:Obj} (e:h.get? b=some o) (n:H b=none):(Qk8 h H).get? b=some o :=
 PySem.W.hideAll_get _ e fun hm=>by
  have q:(H b).isSome=true:=(List.mem_filter.mp hm).2
  rw[n]at q;simp at q
theorem QmX {h:Heap}{H:Hp}{b:Addr}{o:Obj} (e:(Qk8 h H).get? b=some o):h.get? b=some o∧H b=none:=by
 have e':h.get? b=some o:=PySem.W.of_hideAll (trk h H) e
 refine⟨e',?_⟩
 cases q:H b with
 |none=>rfl
 |some x =>
  have hm:b∈trk h H:=List.mem_filter.mpr ⟨List.mem_range.mpr (Heap.lt_size e'),by simp[q]⟩
  have z:(Qk8 h H).get? b=none:=PySem.W.hideAll_none (trk h H) hm
  rw[z]at e;cases e
noncomputable def Qne (g h:Heap) (L:Addr):List (Addr×Obj):=(List.range h.objs.size).filterMap fun a=>if a=L∨(g.get? a).isSome=true then none else (h.get? a).map fun o=>(a,o)
noncomputable def QbX (g h:Heap) (L d:Addr):List (Addr×Obj):=(Qne g h L).filter fun p=>decide (p.1≠d)
end L2
namespace L2
open PySem PySem.Spec PyProof.Rows
structure Mod (K:PySem.W.Frag) (mg:Str→Option Value) (base:Heap):Prop where
 kin:K.In base
 glob:base.Ns mainGlobals mg
 blt:∃ mb,base.Ns builtinsNs mb∧∀ x:Str,x≠"__name__"→mb x=bootBuiltins x
 nolimit:base.NoLimit
structure Cx where
 prog:Program
 w:World
 K:PySem.W.Frag
 mg:Str→Option Value
 base:Heap
 A:Around
 N:List Str
 s₀:Shared
 H₀:Hp
 env:Env
 outer:List Env
 stack:List Env
 ex:List Addr
 fn:Str→Bool
 calm:Bool
 pn:List (Addr×Obj)
 xe:Value→Shared→Prop
noncomputable def frs (l:List Env):List Addr:=l.filterMap (·.frame)
noncomputable abbrev Cx.fs (X:Cx):List Addr:=frs X.outer
noncomputable def Vis (sc:Scope) (x:Str):Prop:=sc.names.lookup x=some .local∨sc.names.lookup x=some .cell∨sc.names.lookup x=some .free
noncomputable def Loc (sc:Scope) (x:Str):Prop:=sc.names.lookup x=some .local∨sc.names.lookup x=some .cell
noncomputable def Look (env:Env) (h:Heap) (m:Str→Option Value) (x:Str) (u:Value):Prop :=
 (env.kindOf x=some .local∧m x=some u)∨((env.kindOf x=some .cell∨env.kindOf x=some .free)∧∃ c,env.cells.lookup x=some c∧h.IsCell c (some u))
structure Cx.Ok (X:Cx):Prop where
 mod:Mod X.K X.mg X.base
 kind:X.env.scope.kind=.function
 glob:X.env.globals=mainGlobals
 blt:X.env.builtins=builtinsNs
 above:X.s₀.heap.objs.size≤X.env.locals
 inj:∀ x y c,X.env.cells.lookup x=some c→X.env.cells.lookup y=some c→x=y
 has:∀ x,(X.env.kindOf x=some .cell∨X.env.kindOf x=some .free)→∃ c,X.env.cells.lookup x=some c
 cab:∀ x c,X.fn x=true→X.env.cells.lookup x=some c→X.s₀.heap.objs.size≤c
 hd:X.calm=true→X.A.handled=none
 frames:X.A.frames=some X.stack
 stk:X.stack=X.outer∨(X.stack=X.env::X.outer∧X.env.frame=some X.env.locals)
 exf:∀ b∈X.ex,b≠X.env.locals∧∀ x c,X.env.cells.lookup x=some c→c≠b
 bs:∀ b o,X.base.get? b=some o→X.s₀.heap.get? b=some o∧X.H₀ b=none
 bsz:X.base.objs.size≤X.s₀.heap.objs.size
 noex:∀ b o,X.base.get? b=some o→b∉X.ex
 exfs:∀ b∈X.ex,b∉X.fs
 funs:X.s₀.heap.FunFrames X.base X.outer
 frf:∀ b∈X.fs,X.H₀ b=none
structure Inv (X:Cx) (pins:List (Addr×Obj)) (σ:List (Option V)) (H:Hp) (s:Shared):Prop where
 ok:X.Ok
 os:s.os=X.s₀.os
 bare:AllBare s.gens
 base:Un X.fs X.ex X.H₀ H X.s₀.heap s.heap
 loc:∃ m,s.heap.Ns X.env.locals m∧∀ (i:Nat) (x:Str) (v:V),X.N[i]?=some x→σ[i]?=some (some v)→Vis X.env.scope x→∃ u,RelV v u∧Look X.env s.heap m x u
 cell:∀ x c,X.env.cells.lookup x=some c→∃ v,s.heap.IsCell c v
 free:H X.env.locals=none
 freeC:∀ x c,X.env.cells.lookup x=some c→H c=none
 pin:∀ p∈X.pn++pins,s.heap.get? p.1=some p.2∧H p.1=none∧p.1≠X.env.locals∧p.1∉X.fs∧∀ v,p.2.data≠.cell v
 hok:HOk X.prog X.w H s.heap
 len:σ.length=X.N.length
section
variable {X:Cx}{pins:List (Addr×Obj)}{σ:List (Option V)}{H H':Hp}{s:Shared}{h':Heap}
theorem Cx.Ok.nofr (ok:X.Ok) {b:Addr}{o:Obj} (e:X.base.get? b=some o):b∉X.fs:=fun hb=>by
 have:=(ok.funs.mem hb).1
 rw[e]at this;cases this
theorem Inv.bs (I:Inv X pins σ H s):∀ b o,X.base.get? b=some o→s.heap.get? b=some o∧H b=none:=fun b o e =>
 ⟨I.base.keep b o (I.ok.bs b o e).1 (I.ok.bs b o e).2 (I.ok.nofr e) (I.ok.noex b o e),I.base.free b o (I.ok.bs b o e).1 (I.ok.bs b o e).2 (I.ok.noex b o e)⟩
theorem Inv.bk (I:Inv X pins σ H s):∀ b o,X.base.get? b=some o→s.heap.get? b=some o:=fun b o e=>(I.bs b o e).1
theorem Inv.mod (I:Inv X pins σ H s):Mod X.K X.mg X.base:=I.ok.mod
theorem Inv.kIn (I:Inv X pins σ H s):X.K.In s.heap:=I.ok.mod.kin.keeps I.bk
theorem Inv.lt (I:Inv X pins σ H s):X.env.locals<s.heap.objs.size:=let ⟨_,hn,_⟩:=I.loc;hn.lt
theorem Inv.sz (I:Inv X pins σ H s):X.s₀.heap.objs.size≤s.heap.objs.size:=Nat.le_trans I.ok.above (Nat.le_of_lt I.lt)
theorem Inv.nofs (I:Inv X pins σ H s) {a:Addr} (h:s.heap.objs.size≤a):a∉X.fs:=fun hb=>by
 obtain⟨_,o,ho,_⟩:=I.ok.funs.mem hb
 exact absurd (Nat.lt_of_lt_of_le (Heap.lt_size ho) (Nat.le_trans I.sz h)) (Nat.lt_irrefl _)
theorem Inv.cne (I:Inv X pins σ H s):∀ x c,X.env.cells.lookup x=some c→c≠X.env.locals:=fun x c e z=>by
 obtain⟨v,o,ho,hd⟩:=I.cell x c e
 obtain⟨m,⟨o',es,ep,ho',hd',_⟩,_⟩:=I.loc
 rw[z,ho']at ho;cases ho;rw[hd']at hd;cases hd
theorem Inv.funs (I:Inv X pins σ H s):s.heap.FunFrames X.base X.outer:=by
 have all:∀ (l:List Env),(∀ b∈frs l,b∈X.fs)→X.s₀.heap.FunFrames X.base l→s.heap.FunFrames X.base l:=by
  intro l
  induction l with
  |nil=>intro _ _;trivial
  |cons env r ih =>
   intro hs hl
   obtain⟨hk,⟨L,o,hf,hn,ho,hd⟩,hr⟩:=hl
   have hL:L∈X.fs:=hs L (by unfold frs;rw[List.filterMap_cons,hf];exact List.mem_cons_self)
   obtain⟨sl,e⟩:=I.base.slot L o ho (I.ok.frf L hL) hL fun z=>I.ok.exfs L z hL
   exact⟨hk,⟨L,_,hf,hn,e,hd⟩,ih (fun b hb=>hs b (by unfold frs;rw[List.filterMap_cons,hf];exact List.mem_cons_of_mem _ hb)) hr⟩
 exact all X.outer (fun _ hb=>hb) I.ok.funs
theorem Inv.stack (I:Inv X pins σ H s):s.heap.FunFrames X.base X.stack:=by
 rcases I.ok.stk with e | ⟨e,hf⟩
 ·rw[e];exact I.funs
 ·rw[e]
  obtain⟨m,hn,_⟩:=I.loc
  refine .cons (by rw[I.ok.kind];decide) hf hn ?_ I.funs
  exact Heap.get?_none_of_le (Nat.le_trans I.ok.bsz I.ok.above)
theorem Inv.stkSub (I:Inv X pins σ H s):∀ b∈frs X.stack,b∈X.env.locals::X.fs:=fun b hb=>by
 rcases I.ok.stk with e | ⟨e,hf⟩
 ·rw[e]at hb;exact List.mem_cons_of_mem _ hb
 ·rw[e]at hb
  unfold frs at hb
  rw[List.filterMap_cons,hf]at hb
  exact hb
theorem Inv.stkFree (I:Inv X pins σ H s):∀ b∈frs X.stack,H b=none:=fun b hb=>by
 rcases List.mem_cons.mp (I.stkSub b hb) with e | hb
 ·rw[e];exact I.free
 ·obtain⟨_,o,ho,_⟩:=I.ok.funs.mem hb
  exact I.base.free b o ho (I.ok.frf b hb) fun z=>I.ok.exfs b z hb
theorem Inv.step {g':Array GenState}{t':Nat}{d':Drawn}{ch:List Addr} (I:Inv X pins σ H s)
  (hch:∀ b∈ch,(b∈X.ex∨X.s₀.heap.objs.size≤b)∧b≠X.env.locals∧(∀ x c,X.env.cells.lookup x=some c→c≠b)∧∀ p∈X.pn++pins,p.1≠b)
  (keep:∀ b o,b≠X.env.locals→b∉X.fs→b∉ch→s.heap.get? b=some o→H b=none→h'.get? b=some o)
  (slot:∀ b o,b≠X.env.locals→b∈X.fs→b∉ch→s.heap.get? b=some o→H b=none→∃ sl,h'.get? b=some { o with slots:=sl }) (free:∀ b o,b∉ch→s.heap.get? b=some o→H b=none→H' b=none)
  (there:∀ b o,b∉ch→s.heap.get? b=some o→∃ o',h'.get? b=some o')
  (tups:∀ b xs,H b=some (.tup xs)→H' b=some (.tup xs)) (frzs:∀ b o u,H b=some (.frz o u)→H' b=some (.frz o u)) (tbls:∀ b ps,H b=some (.tbl ps)→∃ more,H' b=some (.tbl (ps++more)))
  (ns:∀ m,s.heap.Ns X.env.locals m→h'.Ns X.env.locals m) (hok:HOk X.prog X.w H' h') (hg:AllBare g') :
  Inv X pins σ H' { s with heap:=h',gens:=g',drawn:=d',toks:=t' }:=by
 have neL:∀ b o,X.s₀.heap.get? b=some o→b≠X.env.locals:=fun b o e=>Nat.ne_of_lt (Nat.lt_of_lt_of_le (Heap.lt_size e) I.ok.above)
 have neC:∀ b o,X.s₀.heap.get? b=some o→b∉X.ex→b∉ch:=fun b o e hx hb=>by
  rcases (hch b hb).1 with z | z
  ·exact hx z
  ·exact absurd (Nat.lt_of_lt_of_le (Heap.lt_size e) z) (Nat.lt_irrefl _)
 have cellK:∀ x c,X.env.cells.lookup x=some c→∀ v,s.heap.IsCell c v→h'.IsCell c v:=fun x c e v ⟨o,ho,hd⟩=>by
  have nch:c∉ch:=fun z=>(hch c z).2.2.1 x c e rfl
  by_cases hc:c∈X.fs
  ·obtain⟨sl,q⟩:=slot c o (I.cne x c e) hc nch ho (I.freeC x c e)
   exact⟨_,q,hd⟩
  ·exact⟨o,keep c o (I.cne x c e) hc nch ho (I.freeC x c e),hd⟩
 refine⟨I.ok,I.os,hg,⟨fun b o e n hb hx=>?_,fun b o e n hb hx=>?_,fun b o e n hx=>?_,fun b o e hx=>?_,fun b xs e=>tups b xs (I.base.tups b xs e),fun b o xs e=>frzs b o xs (I.base.frzs b o xs e),fun b ps e=>?_⟩,?_,fun x c e=>?_,?_,fun x c e=>?_,fun p hp=>?_,hok,I.len⟩
 ·exact keep b o (neL b o e) hb (neC b o e hx) (I.base.keep b o e n hb hx) (I.base.free b o e n hx)
 ·obtain⟨sl,e1⟩:=I.base.slot b o e n hb hx
  obtain⟨sl',e2⟩:=slot b _ (neL b o e) hb (neC b o e hx) e1 (I.base.free b o e n hx)
  exact⟨sl',e2⟩
 ·obtain⟨o',e1⟩:=I.base.there b o e hx
  exact free b o' (neC b o e hx) e1 (I.base.free b o e n hx)
 ·obtain⟨o',e1⟩:=I.base.there b o e hx
  exact there b o' (neC b o e hx) e1
 ·obtain⟨m1,e1⟩:=I.base.tbls b ps e
  obtain⟨m2,e2⟩:=tbls b _ e1
  exact⟨m1++m2,by rw[e2,Array.append_assoc]⟩
 ·obtain⟨m,hn,hl⟩:=I.loc
  refine⟨m,ns m hn,fun i x v e1 e2 e3=>?_⟩
  obtain⟨u,r,l⟩:=hl i x v e1 e2 e3
  refine⟨u,r,?_⟩
  rcases l with l | ⟨k,c,e,z⟩
  ·exact .inl l
  ·exact .inr ⟨k,c,e,cellK x c e _ z⟩
 ·obtain⟨v,z⟩:=I.cell x c e
  exact⟨v,cellK x c e v z⟩
 ·obtain⟨m,⟨o,_,_,ho,_⟩,_⟩:=I.loc
  exact free _ o (fun z=>(hch _ z).2.1 rfl) ho I.free
 ·obtain⟨v,o,ho,hd⟩:=I.cell x c e
  exact free c o (fun z=>(hch c z).2.2.1 x c e rfl) ho (I.freeC x c e)
 ·obtain⟨e,n,ne,nf,d⟩:=I.pin p hp
  have nch:p.1∉ch:=fun z=>(hch p.1 z).2.2.2 p hp rfl
  exact⟨keep p.1 p.2 ne nf nch e n,free p.1 p.2 nch e n,ne,nf,d⟩
theorem Inv.un {t':Nat} (I:Inv X pins σ H s) (u:Un X.fs [] H H' s.heap h') (hok:HOk X.prog X.w H' h'):Inv X pins σ H' { s with heap:=h',toks:=t' }:=by
 obtain⟨m,⟨o,es,ep,ho,r⟩,_⟩:=id I.loc
 obtain⟨sl,hL⟩:=u.any ho I.free (by simp)
 exact I.step (g':=s.gens) (d':=s.drawn) (ch:=[]) (fun _ z=>nomatch z) (fun b o _ hb _ e n=>u.keep b o e n hb (by simp)) (fun b o _ hb _ e n=>u.slot b o e n hb (by simp)) (fun b o _ e n=>u.free b o e n (by simp)) (fun b o _ e=>u.there b o e (by simp)) u.tups u.frzs u.tbls (fun m' hm=>by
  obtain⟨o',es',ep',ho',r'⟩:=hm
  rw[ho]at ho';cases ho'
  exact⟨_,es',ep',hL,r'⟩) hok I.bare
theorem Inv.call {g':Array GenState}{t':Nat}{d':Drawn}{ch:List Addr} (I:Inv X pins σ H s) (u:Un (frs X.stack) ch H H' s.heap h') (hok:HOk X.prog X.w H' h') (hg:AllBare g')
  (hch:∀ b∈ch,(b∈X.ex∨X.s₀.heap.objs.size≤b)∧b≠X.env.locals∧(∀ x c,X.env.cells.lookup x=some c→c≠b)∧∀ p∈X.pn++pins,p.1≠b) :
  Inv X pins σ H' { s with heap:=h',gens:=g',drawn:=d',toks:=t' }:=by
 obtain⟨m,⟨o,es,ep,ho,r⟩,_⟩:=id I.loc
 obtain⟨sl,hL⟩:=u.any ho I.free fun z=>(hch _ z).2.1 rfl
 exact I.step (ch:=ch) hch (fun b o hL hb hc e n=>u.keep b o e n (fun z=>(List.mem_cons.mp (I.stkSub b z)).elim hL hb) hc) (fun b o _ _ hc e n=>u.any e n hc) (fun b o hc e n=>u.free b o e n hc) (fun b o hc e=>u.there b o e hc) u.tups u.frzs u.tbls (fun m' hm=>by
  obtain⟨o',es',ep',ho',r'⟩:=hm
  rw[ho]at ho';cases ho'
  exact⟨_,es',ep',hL,r'⟩) hok hg
theorem Inv.turned {t':Nat}{it:Addr} (I:Inv X pins σ H s) (k:∀ b o,b≠it→s.heap.get? b=some o→h'.get? b=some o) (hn:H it=none) (hL:it≠X.env.locals)
  (h1:it∈X.ex∨X.s₀.heap.objs.size≤it) (h2:∀ x c,X.env.cells.lookup x=some c→c≠it) (h3:∀ p∈X.pn++pins,p.1≠it):Inv X pins σ H { s with heap:=h',toks:=t' }:=by
 have nit:∀ b u,H b=some u→b≠it:=fun b u e z=>by rw[z,hn]at e;cases e
 refine I.step (g':=s.gens) (d':=s.drawn) (ch:=[it]) (fun b hb=>?_) (fun b o _ _ hc e _=>k b o (fun z=>hc (by simp[z])) e) (fun b o _ _ hc e _=>⟨o.slots,k b o (fun z=>hc (by simp[z])) e⟩) (fun _ _ _ _ n=>n)
  (fun b o hc e=>⟨o,k b o (fun z=>hc (by simp[z])) e⟩) (fun _ _ e=>e) (fun _ _ _ e=>e) (fun b ps e=>⟨#[],by rw[e];simp⟩) (fun m hm=>?_) (fun b u e=>?_) I.bare
 ·have e:b=it:=by simpa using hb
  subst e
  exact⟨h1,hL,h2,h3⟩
 ·obtain⟨o,es,ep,ho,r⟩:=hm
  exact⟨o,es,ep,k _ o (Ne.symm hL) ho,r⟩
 ·refine(I.hok b u e).stay (fun c v hc q=>k c v ?_ q) (fun _ q=>q) fun _ _ q=>q
  rcases hc with z | z
  ·rw[z];exact nit b u e
  ·exact nit c _ z
theorem Inv.tok (I:Inv X pins σ H s) (t:Nat):Inv X pins σ H { s with toks:=t }:=I.un (h':=s.heap) (t':=t) Un.refl I.hok
theorem Inv.kept {t':Nat} (I:Inv X pins σ H s) (k:∀ b u,s.heap.get? b=some u→h'.get? b=some u):Inv X pins σ H { s with heap:=h',toks:=t' }:=I.un (Un.kept k) (I.hok.kept k)
theorem Inv.laid {a:Addr}{o:HO}{t':Nat} (I:Inv X pins σ H s) (k:∀ b u,s.heap.get? b=some u→h'.get? b=some u) (hp:s.heap.objs.size≤a) (new:ObjOk X.prog X.w (upd H a o) h' a o) :
 Inv X pins σ (upd H a o) { s with heap:=h',toks:=t' }:=I.un (Un.laid k hp (I.hok.fresh hp)) (I.hok.laid k hp new)
theorem Inv.write {x e:Addr}{o:HO}{t':Nat} (I:Inv X pins σ H s) (mu:Mut (H x)) (he:e=x∨H e=some (.own x)) (k:∀ b u,b≠e→s.heap.get? b=some u→h'.get? b=some u) (heo:∃ u,h'.get? e=some u)
 (new:ObjOk X.prog X.w (upd H x o) h' x o):Inv X pins σ (upd H x o) { s with heap:=h',toks:=t' }:=I.un (Un.write mu he k heo) (I.hok.write mu he k heo new)
theorem Inv.pins_of {pins':List (Addr×Obj)} (I:Inv X pins σ H s) (h:∀ p∈pins',s.heap.get? p.1=some p.2∧H p.1=none∧p.1≠X.env.locals∧p.1∉X.fs∧∀ v,p.2.data≠.cell v):Inv X pins' σ H s :=
 ⟨I.ok,I.os,I.bare,I.base,I.loc,I.cell,I.free,I.freeC,fun p hp=>(List.mem_append.mp hp).elim (fun z=>I.pin p (List.mem_append_left _ z)) (h p),I.hok,I.len⟩
theorem Qe6 {N:List Str} (hN:N.Nodup) {i j:Nat}{x:Str} (a:N[i]?=some x) (b:N[j]?=some x):i=j:=by
 obtain⟨h1,e1⟩:=List.getElem?_eq_some_iff.mp a
 obtain⟨h2,e2⟩:=List.getElem?_eq_some_iff.mp b
 exact(List.getElem_inj hN).mp (e1.trans e2.symm)
theorem QeJ {M:Model}{A:Around}{E:Value→Shared→Prop}{i:Nat}{x:Str}{v:V}{u:Value}{Q:Unit→Shared→Prop} (I:Inv X pins σ H s) (hN:X.N.Nodup) (hi:X.N[i]?=some x) (hx:Loc X.env.scope x) (r:RelV v u)
  (h:∀ s',Inv X pins (σ.set i (some v)) H s'→(∃ a,Heap.SameBut a s.heap s'.heap∧(a=X.env.locals∨X.env.cells.lookup x=some a))→Q () s') (hf:X.fn x=true∨X.env.scope.names.lookup x=some .local:=by first | exact .inl rfl | exact .inr rfl | assumption):wpAny M A (storeName X.env x u) Q E s:=by
 obtain⟨m,hn,hl⟩:=id I.loc
 have hcls:(X.env.scope.kind == .class||(X.env.scope.kind == .module&&X.env.locals != X.env.globals))=false:=by rw[I.ok.kind];rfl
 have hiσ:i<σ.length:=by rw[I.len];exact(List.getElem?_eq_some_iff.mp hi).1
 have cne:=I.cne
 have tracked:∀ {a:Addr}{h':Heap},(∃ o,s.heap.get? a=some o∧H a=none)→Heap.SameBut a s.heap h'→HOk X.prog X.w H h':=fun {a h'} ha hs b ob e=>by
  obtain⟨_,_,hfree⟩:=ha
  refine(I.hok b ob e).stay (fun c w' hc q=>(hs.2 c ?_).trans q) (fun _ q=>q) fun _ _ q=>q
  rintro rfl
  rcases hc with rfl | hc
  ·rw[hfree]at e;cases e
  ·rw[hfree]at hc;cases hc
 rcases hx with hk | hk
 ·refine wpAny_storeName_local hk hn (fun h' hn' hs=>?_) hcls
  obtain⟨oL,_,_,hoL,_⟩:=id hn
  refine h _ ⟨I.ok,I.os,I.bare,⟨fun b o e n hb hx=>?_,fun b o e n hb hx=>?_,I.base.free,fun b o e hx=>?_,I.base.tups,I.base.frzs,I.base.tbls⟩,⟨_,hn',fun j y v' e1 e2 e3=>?_⟩,fun y c e=>?_,I.free,I.freeC,fun p hp=>?_,tracked ⟨oL,hoL,I.free⟩ hs,by simpa using I.len⟩ ⟨_,hs,.inl rfl⟩
  ·exact(hs.2 b (Nat.ne_of_lt (Nat.lt_of_lt_of_le (Heap.lt_size e) I.ok.above))).trans (I.base.keep b o e n hb hx)
  ·obtain⟨sl,e1⟩:=I.base.slot b o e n hb hx
   exact⟨sl,(hs.2 b (Nat.ne_of_lt (Nat.lt_of_lt_of_le (Heap.lt_size e) I.ok.above))).trans e1⟩
  ·obtain⟨o',e1⟩:=I.base.there b o e hx
   exact⟨o',(hs.2 b (Nat.ne_of_lt (Nat.lt_of_lt_of_le (Heap.lt_size e) I.ok.above))).trans e1⟩
  ·by_cases hj:j=i
   ·subst hj
    rw[hi]at e1;cases e1
    rw[List.getElem?_set_self hiσ]at e2
    cases e2
    exact⟨u,r,.inl ⟨hk,by simp⟩⟩
   ·rw[List.getElem?_set_ne (Ne.symm hj)]at e2
    obtain⟨u',r',q⟩:=hl j y v' e1 e2 e3
    refine⟨u',r',?_⟩
    rcases q with ⟨k,e⟩ | ⟨k,c,e,z⟩
    ·refine .inl ⟨k,?_⟩
     have:y≠x:=fun e=>hj (Qe6 hN e1 (e ▸ hi))
     simp[this,e]
    ·exact .inr ⟨k,c,e,z.sameBut hs (cne y c e)⟩
  ·obtain⟨w',z⟩:=I.cell y c e
   exact⟨w',z.sameBut hs (cne y c e)⟩
  ·obtain⟨e,n,ne,nf,d⟩:=I.pin p hp
   exact⟨(hs.2 p.1 ne).trans e,n,ne,nf,d⟩
 ·have hfn:X.fn x=true:=by
   rcases hf with z | z
   ·exact z
   ·rw[z]at hk;cases hk
  obtain⟨c,hc⟩:=I.ok.has x (.inl hk)
  obtain⟨w',z⟩:=I.cell x c hc
  refine wpAny_storeName_cell I.ok.kind hk hc z (fun h' hc' hs=>?_)
  obtain⟨oc,hoc,hocd⟩:=id z
  refine h { s with heap:=h' } ⟨I.ok,I.os,I.bare,⟨fun b o e n hb hx=>?_,fun b o e n hb hx=>?_,I.base.free,fun b o e hx=>?_,I.base.tups,I.base.frzs,I.base.tbls⟩,⟨m,hn.sameBut hs (Ne.symm (cne x c hc)),fun j y v' e1 e2 e3=>?_⟩,fun y c' e=>?_,I.free,I.freeC,fun p hp=>?_,tracked ⟨oc,hoc,I.freeC x c hc⟩ hs,by simpa using I.len⟩ ⟨c,hs,.inr hc⟩
  ·exact(hs.2 b (Nat.ne_of_lt (Nat.lt_of_lt_of_le (Heap.lt_size e) (I.ok.cab x c hfn hc)))).trans (I.base.keep b o e n hb hx)
  ·obtain⟨sl,e1⟩:=I.base.slot b o e n hb hx
   exact⟨sl,(hs.2 b (Nat.ne_of_lt (Nat.lt_of_lt_of_le (Heap.lt_size e) (I.ok.cab x c hfn hc)))).trans e1⟩
  ·obtain⟨o',e1⟩:=I.base.there b o e hx
   exact⟨o',(hs.2 b (Nat.ne_of_lt (Nat.lt_of_lt_of_le (Heap.lt_size e) (I.ok.cab x c hfn hc)))).trans e1⟩
  ·by_cases hj:j=i
   ·subst hj
    rw[hi]at e1;cases e1
    rw[List.getElem?_set_self hiσ]at e2
    cases e2
    exact⟨u,r,.inr ⟨.inl hk,c,hc,hc'⟩⟩
   ·rw[List.getElem?_set_ne (Ne.symm hj)]at e2
    obtain⟨u',r',q⟩:=hl j y v' e1 e2 e3
    refine⟨u',r',?_⟩
    rcases q with q | ⟨k,c',e,z'⟩
    ·exact .inl q
    ·refine .inr ⟨k,c',e,z'.sameBut hs ?_⟩
     rintro rfl
     exact hj (Qe6 hN e1 (I.ok.inj _ _ _ e hc ▸ hi))
  ·by_cases hcc:c'=c
   ·subst hcc;exact⟨_,hc'⟩
   ·obtain⟨w2,z2⟩:=I.cell y c' e
    exact⟨w2,z2.sameBut hs hcc⟩
  ·obtain⟨e,n,ne,nf,d⟩:=I.pin p hp
   refine⟨(hs.2 p.1 ?_).trans e,n,ne,nf,d⟩
   intro q
   rw[q,hoc]at e
   have q':oc=p.2:=Option.some.inj e
   exact d w' (by rw[← q'];exact hocd)
theorem QcR {M:Model}{A:Around}{E:Value→Shared→Prop}{i:Nat}{x:Str}{v:V}{u:Value}{Q:Unit→Shared→Prop} (I:Inv X pins σ H s) (hN:X.N.Nodup) (hi:X.N[i]?=some x) (hx:Loc X.env.scope x) (r:RelV v u)
  (h:∀ s',Inv X pins (σ.set i (some v)) H s'→Q () s') (hf:X.fn x=true∨X.env.scope.names.lookup x=some .local:=by first | exact .inl rfl | exact .inr rfl | assumption):wpAny M A (storeName X.env x u) Q E s :=
 QeJ I hN hi hx r (fun s' I' _=>h s' I') hf
theorem Inv.call' {s':Shared}{ch:List Addr} (I:Inv X pins σ H s) (ho:s'.os=s.os) (u:Un (frs X.stack) ch H H' s.heap s'.heap) (hok:HOk X.prog X.w H' s'.heap) (hg:AllBare s'.gens)
  (hch:∀ b∈ch,(b∈X.ex∨X.s₀.heap.objs.size≤b)∧b≠X.env.locals∧(∀ x c,X.env.cells.lookup x=some c→c≠b)∧∀ p∈X.pn++pins,p.1≠b):Inv X pins σ H' s':=by
 obtain⟨h',g',d',t',o'⟩:=s'
 have e:o'=s.os:=ho
 subst e
 exact I.call (g':=g') (t':=t') (d':=d') u hok hg hch
end
noncomputable abbrev XK:=Value→Option Addr→Hp→Prop
noncomputable abbrev St:=List (Option V)
noncomputable abbrev VK:=V→Hp→Prop
noncomputable abbrev TE:=St→Hp→VK→Prop
noncomputable abbrev TT:=St→Hp→(Bool→Hp→Prop)→Prop
noncomputable abbrev TA:=St→Hp→(List V→Hp→Prop)→Prop
structure Ends where
 nx:St→Hp→Prop
 rt:VK
 bk:St→Hp→Prop:=fun _ _=>False
 ct:St→Hp→Prop:=fun _ _=>False
noncomputable abbrev TS:=Ends→St→Hp→Prop
noncomputable def EP (X:Cx) (pins:List (Addr×Obj)) (σ:St) (Q:VK) (u:Value) (s':Shared):Prop:=∃ v H',Inv X pins σ H' s'∧RelV v u∧Q v H'
noncomputable def TP (X:Cx) (pins:List (Addr×Obj)) (σ:St) (Q:Bool→Hp→Prop) (b:Bool) (s':Shared):Prop:=∃ H',Inv X pins σ H' s'∧Q b H'
noncomputable def AP (X:Cx) (pins:List (Addr×Obj)) (σ:St) (Q:List V→Hp→Prop) (us:List Value) (s':Shared):Prop:=∃ vs H',Inv X pins σ H' s'∧Vals vs us∧Q vs H'
noncomputable def SP (X:Cx) (pins:List (Addr×Obj)) (D:Ends) (f:Flow) (s':Shared):Prop :=
 match f with
 |.next=>∃ σ' H',Inv X pins σ' H' s'∧D.nx σ' H'
 |.brk=>∃ σ' H',Inv X pins σ' H' s'∧D.bk σ' H'
 |.cont=>∃ σ' H',Inv X pins σ' H' s'∧D.ct σ' H'
 |.ret u=>∃ v σ' H',Inv X pins σ' H' s'∧RelV v u∧D.rt v H'
noncomputable def PE (X:Cx) (e:Expr) (t:TE):Prop :=
 ∀ (pins:List (Addr×Obj)) (s:Shared) (σ:St) (H:Hp) (Q:VK),Inv X pins σ H s→t σ H Q→wpAny (model X.prog X.w) X.A (eval e X.env) (EP X pins σ Q) X.xe s
noncomputable def PT (X:Cx) (e:Expr) (t:TT):Prop :=
 ∀ (pins:List (Addr×Obj)) (s:Shared) (σ:St) (H:Hp) (Q:Bool→Hp→Prop),Inv X pins σ H s→t σ H Q→wpAny (model X.prog X.w) X.A (isTrue e X.env (eval e X.env)) (TP X pins σ Q) X.xe s
noncomputable def PW (X:Cx) (e:Expr) (t:TT):Prop :=
 ∀ (whole:Sem Value) (pins:List (Addr×Obj)) (s:Shared) (σ:St) (H:Hp) (Q:Bool→Hp→Prop),Inv X pins σ H s→t σ H Q→wpAny (model X.prog X.w) X.A (isTrue e X.env whole) (TP X pins σ Q) X.xe s
theorem PW.pt {X:Cx}{e:Expr}{t:TT} (h:PW X e t):PT X e t:=h _
noncomputable def PA (X:Cx) (es:List Expr) (t:TA):Prop :=
 ∀ (pos:Pos) (pins:List (Addr×Obj)) (s:Shared) (σ:St) (H:Hp) (Q:List V→Hp→Prop),Inv X pins σ H s→t σ H Q→wpAny (model X.prog X.w) X.A (spliced (backTo pos (starEach es X.env))) (AP X pins σ Q) X.xe s
noncomputable def PS (X:Cx) (st:Stmt) (t:TS):Prop :=
 ∀ (pins:List (Addr×Obj)) (s:Shared) (σ:St) (H:Hp) (D:Ends),Inv X pins σ H s→t D σ H→wpAny (model X.prog X.w) X.A (exec st X.env) (SP X pins D) X.xe s
noncomputable def PSs (X:Cx) (st:List Stmt) (t:TS):Prop :=
 ∀ (pins:List (Addr×Obj)) (s:Shared) (σ:St) (H:Hp) (D:Ends),Inv X pins σ H s→t D σ H→wpAny (model X.prog X.w) X.A (execs st X.env) (SP X pins D) X.xe s
theorem thn {α:Type}{t:Sem α}{Q Q':α→Shared→Prop}{M:Model}{A:Around}{E:Value→Shared→Prop}{s:Shared} (h:wpAny M A t Q E s) (hQ:∀ a s,Q a s→Q' a s):wpAny M A t Q' E s:=wpAny_mono h hQ fun _ _ x=>x
end L2
namespace L2
open PySem PySem.Spec PyProof.Rows
section
variable {X:Cx}
theorem bin {a b:Expr}{ta tb:TE} (ha:PE X a ta) (hb:PE X b tb) {pins:List (Addr×Obj)}{s:Shared}{σ:St}{H:Hp}{R:V→V→Hp→Prop} (I:Inv X pins σ H s) (h:ta σ H fun x H1=>tb σ H1 fun y H2=>R x y H2)
  {α:Type}{Q:α→Shared→Prop}{f:Value→Value→Sem α}
  (hf:∀ v u s2 x y H2,Inv X pins σ H2 s2→RelV x v→RelV y u→R x y H2→wpAny (model X.prog X.w) X.A (f v u) Q X.xe s2) :
  wpAny (model X.prog X.w) X.A (eval a X.env) (fun v s₁=>wpAny (model X.prog X.w) X.A (eval b X.env) (fun u s₂=>wpAny (model X.prog X.w) X.A (f v u) Q X.xe s₂) X.xe s₁) X.xe s:=by
 refine thn (ha pins s σ H _ I h) fun v s1 ⟨x,H1,I1,r1,q1⟩=>?_
 refine thn (hb pins s1 σ H1 _ I1 q1) fun u s2 ⟨y,H2,I2,r2,q2⟩=>?_
 exact hf v u s2 x y H2 I2 r1 r2 q2
noncomputable def tVar (i:Nat):TE:=fun σ H Q=>∃ v,σ[i]?=some (some v)∧Q v H
noncomputable def tC (v:V):TE:=fun _ H Q=>Q v H
theorem pe_var {i:Nat}{x:Str}{pos:Pos} (hN:X.N[i]?=some x) (hv:Vis X.env.scope x) (hd:(x == ("__debug__":Str))=false:=by decide) (hcd:(x == ("__classdict__":Str))=false:=by decide):PE X (.Name x pos) (tVar i):=by
 intro pins s σ H Q I h
 obtain⟨v,e,h⟩:=h
 obtain⟨m,hn,hl⟩:=I.loc
 obtain⟨u,r,l⟩:=hl i x v hN e hv
 have fin:EP X pins σ Q u s:=⟨v,H,I,r,h⟩
 rcases l with ⟨hk,hm⟩ | ⟨hk,c,hc,hcell⟩
 ·exact wpAny_Name (wpAny_loadName_local I.ok.kind hk hn hm fin) hd
 ·rcases hk with hk | hk
  ·exact wpAny_Name (wpAny_loadName_cell I.ok.kind hk hc hcell fin) hd
  ·exact wpAny_Name (wpAny_loadName_free I.ok.kind hk hc hcell fin hcd) hd
theorem pe_int {i j pos}:PE X (.Constant (.int i) j pos) (tC (.int i)):=fun _ _ _ H _ I h=>wpAny_Constant_int ⟨.int i,H,I.tok _,⟨_,rfl⟩,h⟩
theorem pe_bl {b j pos}:PE X (.Constant (.bool b) j pos) (tC (.bl b)):=fun _ _ _ H _ I h=>Constant_bool ⟨.bl b,H,I,rfl,h⟩
theorem pe_non {j pos}:PE X (.Constant .none j pos) (tC .non):=fun _ _ _ H _ I h=>Constant_none ⟨.non,H,I,rfl,h⟩
theorem pe_str {x j pos}:PE X (.Constant (.str x) j pos) (tC (.str x)):=fun _ _ _ H _ I h=>Calls.Constant_str ⟨.str x,H,I.tok _,⟨_,rfl⟩,h⟩
noncomputable def Gl (X:Cx) (x:Str):Prop:=X.env.kindOf x=some .globalImplicit
theorem QiO {E:Value→Shared→Prop}{pins:List (Addr×Obj)}{s:Shared}{σ:St}{H:Hp}{x:Str}{u:Value}{pos:Pos}{Q:Value→Shared→Prop} (I:Inv X pins σ H s) (hg:Gl X x) (hm:X.mg x=some u) (h:Q u s)
  (hd:(x == ("__debug__":Str))=false:=by decide):wpAny (model X.prog X.w) X.A (eval (.Name x pos) X.env) Q E s :=
 Calls.Name_function_global I.ok.kind hg (Calls.loadGlobal_global (by rw[I.ok.glob];exact I.mod.glob.keeps I.bk) hm h) hd
theorem Qd1 {E:Value→Shared→Prop}{pins:List (Addr×Obj)}{s:Shared}{σ:St}{H:Hp}{x:Str}{u:Value}{pos:Pos}{Q:Value→Shared→Prop} (I:Inv X pins σ H s) (hg:Gl X x) (hm:X.mg x=none) (hv:bootBuiltins x=some u) (h:Q u s)
  (hn:x≠"__name__":=by decide) (hd:(x == ("__debug__":Str))=false:=by decide):wpAny (model X.prog X.w) X.A (eval (.Name x pos) X.env) Q E s:=by
 obtain⟨mb,h1,h2⟩:=I.mod.blt
 exact Calls.Name_function_global I.ok.kind hg (Calls.loadGlobal_builtin (by rw[I.ok.glob];exact I.mod.glob.keeps I.bk) hm (by rw[I.ok.blt];exact h1.keeps I.bk) ((h2 x hn).trans hv) h) hd
theorem QmI {x:Str}{v:V}{u:Value}{pos:Pos} (hg:Gl X x) (hm:X.mg x=some u) (r:RelV v u) (hd:(x == ("__debug__":Str))=false:=by decide):PE X (.Name x pos) (tC v) :=
 fun _ _ _ H _ I h=>QiO I hg hm ⟨v,H,I,r,h⟩ hd
theorem Qiq {x:Str}{v:V}{u:Value}{pos:Pos} (hg:Gl X x) (hm:X.mg x=none) (hv:bootBuiltins x=some u) (r:RelV v u) (hn:x≠"__name__":=by decide) (hd:(x == ("__debug__":Str))=false:=by decide):PE X (.Name x pos) (tC v) :=
 fun _ _ _ H _ I h=>Qd1 I hg hm hv ⟨v,H,I,r,h⟩ hn hd
noncomputable def t2I (ta tb:TE) (k:Int→Int→Hp→Prop):St→Hp→Prop:=fun σ H=>ta σ H fun x H1=>tb σ H1 fun y H2=>∃ i j,x=.int i∧y=.int j∧k i j H2
variable {a b:Expr}{ta tb:TE}{pos:Pos}
noncomputable def tCmp (p:Int→Int→Bool) (ta tb:TE):TE:=fun σ H Q=>t2I ta tb (fun i j H2=>Q (.bl (p i j)) H2) σ H
noncomputable abbrev tGt:TE→TE→TE:=tCmp fun i j=>decide (j<i)
noncomputable def tB (t:TE):TT:=fun σ H Q=>t σ H fun x H1=>∃ c,x=.bl c∧Q c H1
theorem pt_val {e:Expr}{t:TE} (h:PE X e t) (he:∀ whole,isTrue e X.env whole=(do let v ← whole;standAt e.pos;holding [v] (truthy v)):=by intro _;rfl):PT X e (tB t):=by
 intro pins s σ H Q I hw
 refine isTrue_plain (thn (h pins s σ H _ I hw) fun v s1 ⟨x,H1,I1,r1,q1⟩=>?_) (he _)
 obtain⟨d,rfl,q⟩:=q1
 cases r1
 exact wpAny_truthy_bool ⟨H1,I1,q⟩
variable {tA tB':TT}{QbX:List Expr}
noncomputable def tAnd (t u:TT):TT:=fun σ H Q=>t σ H fun c H1=>if c=true then u σ H1 Q else Q false H1
noncomputable def tOr (t u:TT):TT:=fun σ H Q=>t σ H fun c H1=>if c=true then Q true H1 else u σ H1 Q
noncomputable def tNot (t:TT):TT:=fun σ H Q=>t σ H fun c H1=>Q (!c) H1
theorem Qm7 (ha:PT X a tA):PW X (.BoolOp .And [a] pos) tA:=by
 intro wh pins s σ H Q I h
 refine isTrue_and (thn (ha pins s σ H Q I h) fun c s1 e=>?_)
 cases c with
 |true=>exact isTrue_and_nil e
 |false=>exact e
theorem pw_or1 (ha:PT X a tA):PW X (.BoolOp .Or [a] pos) tA:=by
 intro wh pins s σ H Q I h
 refine isTrue_or (thn (ha pins s σ H Q I h) fun c s1 e=>?_)
 cases c with
 |false=>exact isTrue_or_nil e
 |true=>exact e
theorem pw_and (ha:PT X a tA) (hb:PW X (.BoolOp .And (b::QbX) pos) tB'):PW X (.BoolOp .And (a::b::QbX) pos) (tAnd tA tB'):=by
 intro wh pins s σ H Q I h
 refine isTrue_and (thn (ha pins s σ H _ I h) fun c s1 ⟨H1,I1,q1⟩=>?_)
 cases c with
 |true=>exact hb wh pins s1 σ H1 Q I1 q1
 |false=>exact⟨H1,I1,q1⟩
theorem pw_or (ha:PT X a tA) (hb:PW X (.BoolOp .Or (b::QbX) pos) tB'):PW X (.BoolOp .Or (a::b::QbX) pos) (tOr tA tB'):=by
 intro wh pins s σ H Q I h
 refine isTrue_or (thn (ha pins s σ H _ I h) fun c s1 ⟨H1,I1,q1⟩=>?_)
 cases c with
 |true=>exact⟨H1,I1,q1⟩
 |false=>exact hb wh pins s1 σ H1 Q I1 q1
theorem pt_not (ha:PT X a tA):PT X (.UnaryOp .Not a pos) (tNot tA):=by
 intro pins s σ H Q I h
 exact isTrue_not (ha pins s σ H (fun c H1=>Q (!c) H1) I h)
noncomputable def tAndV (ta tb:TE):TE:=fun σ H Q=>ta σ H fun x H1=>∃ c,x=.bl c∧if c=true then tb σ H1 Q else Q (.bl false) H1
noncomputable def tOrV (ta tb:TE):TE:=fun σ H Q=>ta σ H fun x H1=>∃ c,x=.bl c∧if c=true then Q (.bl true) H1 else tb σ H1 Q
noncomputable def tNotV (ta:TE):TE:=fun σ H Q=>ta σ H fun x H1=>∃ c,x=.bl c∧Q (.bl (!c)) H1
theorem pe_one {op}{t:TE} (h:PE X a t):PE X (.BoolOp op [a] pos) t:=fun pins s σ H Q I hw=>BoolOp_one (h pins s σ H Q I hw)
theorem pe_and (ha:PE X a ta) (hb:PE X (.BoolOp .And (b::QbX) pos) tb):PE X (.BoolOp .And (a::b::QbX) pos) (tAndV ta tb):=by
 intro pins s σ H Q I h
 refine BoolOp_and (thn (ha pins s σ H _ I h) fun v s1 ⟨x,H1,I1,r1,q1⟩=>?_)
 obtain⟨c,rfl,q1⟩:=q1
 cases r1
 refine wpAny_truthy_bool ?_
 cases c with
 |true=>exact hb pins s1 σ H1 Q I1 q1
 |false=>exact⟨.bl false,H1,I1,rfl,q1⟩
theorem pe_or (ha:PE X a ta) (hb:PE X (.BoolOp .Or (b::QbX) pos) tb):PE X (.BoolOp .Or (a::b::QbX) pos) (tOrV ta tb):=by
 intro pins s σ H Q I h
 refine BoolOp_or (thn (ha pins s σ H _ I h) fun v s1 ⟨x,H1,I1,r1,q1⟩=>?_)
 obtain⟨c,rfl,q1⟩:=q1
 cases r1
 refine wpAny_truthy_bool ?_
 cases c with
 |false=>exact hb pins s1 σ H1 Q I1 q1
 |true=>exact⟨.bl true,H1,I1,rfl,q1⟩
theorem pe_not (ha:PE X a ta):PE X (.UnaryOp .Not a pos) (tNotV ta):=by
 intro pins s σ H Q I h
 refine UnaryOp_ (thn (ha pins s σ H _ I h) fun v s1 ⟨x,H1,I1,r1,q1⟩=>?_)
 obtain⟨c,rfl,q1⟩:=q1
 cases r1
 exact not_of (wpAny_truthy_bool ⟨.bl (!c),H1,I1,rfl,q1⟩)
noncomputable def tIf (t:TT) (ta tb:TE):TE:=fun σ H Q=>t σ H fun c H1=>if c=true then ta σ H1 Q else tb σ H1 Q
theorem Qka {c:Expr} (hc:PT X c tA) (ha:PE X a ta) (hb:PE X b tb):PE X (.IfExp c a b pos) (tIf tA ta tb):=by
 intro pins s σ H Q I h
 refine wpAny_IfExp (thn (hc pins s σ H _ I h) fun d s1 ⟨H1,I1,q1⟩=>?_)
 cases d with
 |true=>exact ha pins s1 σ H1 Q I1 q1
 |false=>exact hb pins s1 σ H1 Q I1 q1
end
end L2
namespace L2
open PySem PySem.Spec PyProof.Rows
noncomputable def SqL (K:PySem.W.Frag) (H:Hp) (a:Addr) (xs:List V):Prop :=
 Rd H a (.lst xs) ∨
  ∃ (o:Obj) (its:Array Value) (n:Nat),K.lookup a=some o∧o.cls=.type "list"∧o.dict=none∧o.data=.seq its n∧its.size≤sizeLine∧Vals xs its.toList
noncomputable def SqT (K:PySem.W.Frag) (H:Hp) (a:Addr) (xs:List V):Prop :=
 Rd H a (.tup xs) ∨
  ∃ (o:Obj) (its:Array Value) (n:Nat),K.lookup a=some o∧o.cls=.type "tuple"∧o.data=.seq its n∧its.size≤sizeLine∧Vals xs its.toList
noncomputable def absV:Value→Option V
 |.none=>some .non
 |.bool b=>some (.bl b)
 |.int i _=>some (.int i)
 |.str x _=>some (.str x)
 |.bytes b _=>some (.byt b)
 |.float b _=>some (.flt b)
 |.ref a=>some (.ref a)
 |.type n=>some (.ty n)
 |_=>none
theorem RelV.abs {x:V}{u:Value} (r:RelV x u):absV u=some x:=by
 cases x with
 |non=>cases r;rfl
 |bl _=>cases r;rfl
 |int _=>obtain⟨t,rfl⟩:=r;rfl
 |str _=>obtain⟨t,rfl⟩:=r;rfl
 |byt _=>obtain⟨t,rfl⟩:=r;rfl
 |flt _=>obtain⟨t,rfl⟩:=r;rfl
 |ref _=>cases r;rfl
 |ty _=>cases r;rfl
theorem RelV.inj {x y:V}{u:Value} (r:RelV x u) (q:RelV y u):x=y:=Option.some.inj (r.abs.symm.trans q.abs)
theorem Vals.inj:∀ {xs ys:List V}{us:List Value},Vals xs us→Vals ys us→xs=ys
 |_,_,_,.nil,.nil=>rfl
 |_,_,_,.cons r t,.cons r' t'=>by rw[r.inj r',Vals.inj t t']
section
variable {X:Cx}{pins:List (Addr×Obj)}{σ:St}{H:Hp}{s:Shared}{a:Addr}{xs ys:List V}
theorem Inv.list (I:Inv X pins σ H s) (h:SqL X.K H a xs):∃ its:List Value,Vals xs its∧PlainL s.heap a its.toArray∧xs.length≤sizeLine:=by
 rcases h with h | ⟨o,its,n,hk,hc,hd,hs,hz,r⟩
 ·obtain⟨z,its,n,r,e⟩:=h.ok I.hok
  exact⟨its,r,⟨_,n,e,rfl,rfl,rfl⟩,z⟩
 ·refine⟨its.toList,r,⟨o,n,I.kIn a o hk,hc,hd,by simpa using hs⟩,?_⟩
  have e:=r.length
  simp only[Array.length_toList]at e
  omega
theorem Inv.tuple (I:Inv X pins σ H s) (h:SqT X.K H a xs):∃ its:List Value,Vals xs its∧IsTup s.heap a its.toArray∧xs.length≤sizeLine:=by
 rcases h with h | ⟨o,its,n,hk,hc,hs,hz,r⟩
 ·obtain⟨z,its,r,p⟩:=h.ok I.hok
  exact⟨its,r,p,z⟩
 ·refine⟨its.toList,r,⟨o,I.kIn a o hk,hc,n,by simpa using hs⟩,?_⟩
  have e:=r.length
  simp only[Array.length_toList]at e
  omega
theorem Inv.list_inj (I:Inv X pins σ H s) (h:SqL X.K H a xs) (h':SqL X.K H a ys):xs=ys:=by
 obtain⟨its,r,⟨o,n,e,_,_,d⟩,_⟩:=I.list h
 obtain⟨its',r',⟨o',n',e',_,_,d'⟩,_⟩:=I.list h'
 rw[e]at e';cases e'
 rw[d]at d'
 injection d' with d1 _
 have:its=its':=by simpa using congrArg Array.toList d1
 subst this
 exact r.inj r'
theorem Inv.tuple_inj (I:Inv X pins σ H s) (h:SqT X.K H a xs) (h':SqT X.K H a ys):xs=ys:=by
 obtain⟨its,r,⟨o,e,_,n,d⟩,_⟩:=I.tuple h
 obtain⟨its',r',⟨o',e',_,n',d'⟩,_⟩:=I.tuple h'
 rw[e]at e';cases e'
 rw[d]at d'
 injection d' with d1 _
 have:its=its':=by simpa using congrArg Array.toList d1
 subst this
 exact r.inj r'
end
section
variable {X:Cx}{pins:List (Addr×Obj)}{σ:St}{H:Hp}{s:Shared}{E:Value→Shared→Prop}
end
section
variable {X:Cx}{st:Stmt}{QbX:List Stmt}{t u:TS}{e:Expr}{te:TE}{pos:Pos}
noncomputable def Qno:TS:=fun D σ H=>D.nx σ H
noncomputable def tSeq (t u:TS):TS:=fun D σ H=>t { D with nx:=u D } σ H
theorem pss_nil:PSs X [] Qno:=fun _ _ σ H _ I h=>wpAny_execs_nil ⟨σ,H,I,h⟩
theorem Qkn (h1:PS X st t) (h2:PSs X QbX u):PSs X (st::QbX) (tSeq t u):=by
 intro pins s σ H D I h
 refine wpAny_execs_cons (thn (h1 pins s σ H { D with nx:=u D } I h) fun f s1 q=>?_)
 cases f with
 |next =>
  obtain⟨σ',H',I',q⟩:=q
  exact h2 pins s1 σ' H' D I' q
 |ret v=>exact q
 |brk=>exact q
 |cont=>exact q
noncomputable def tBreak:TS:=fun D σ H=>D.bk σ H
noncomputable def tCont:TS:=fun D σ H=>D.ct σ H
theorem ps_pass:PS X (.Pass pos) Qno:=fun _ _ σ H _ I h=>wpAny_Pass ⟨σ,H,I,h⟩
theorem ps_break:PS X (.Break pos) tBreak:=fun _ _ σ H _ I h=>wpAny_Break ⟨σ,H,I,h⟩
theorem ps_continue:PS X (.Continue pos) tCont:=fun _ _ σ H _ I h=>wpAny_Continue ⟨σ,H,I,h⟩
theorem Inv.quiet {pins:List (Addr×Obj)}{σ:St}{H:Hp}{s:Shared} (I:Inv X pins σ H s):interactive X.env=false:=by simp[interactive,I.ok.kind]
theorem ps_doc {x j pos pos'}:PS X (.Expr (.Constant (.str x) j pos) pos') Qno:=fun _ s σ H _ I h=>wpAny_Expr (Calls.Constant_str (show SP X _ _ .next { s with toks:=s.toks+1 } from ⟨σ,H,I.tok _,h⟩)) I.quiet
noncomputable def tDrop (te:TE):TS:=fun D σ H=>te σ H fun _ H1=>D.nx σ H1
theorem Qmf (he:PE X e te) (hs:swapsWith e none pos.line X.env=pure false:=by rfl):PS X (.Expr e pos) (tDrop te):=by
 intro pins s σ H D I h
 exact wpAny_Expr_any (thn (he pins s σ H _ I h) fun v s1 ⟨x,H1,I1,r1,q1⟩=>⟨σ,H1,I1,q1⟩) I.quiet hs
noncomputable def tRet (te:TE):TS:=fun D σ H=>te σ H D.rt
theorem ps_ret (he:PE X e te):PS X (.Return (some e) pos) (tRet te):=by
 intro pins s σ H D I h
 exact wpAny_Return_some (thn (he pins s σ H _ I h) fun v s1 ⟨x,H1,I1,r1,q1⟩=>⟨x,σ,H1,I1,r1,q1⟩)
noncomputable def tRetN:TS:=fun D _ H=>D.rt .non H
theorem ps_retN:PS X (.Return none pos) tRetN:=fun _ _ σ H _ I h=>wpAny_Return_none ⟨.non,σ,H,I,rfl,h⟩
noncomputable def tIfS (c:TT) (t u:TS):TS:=fun D σ H=>c σ H fun b H1=>if b=true then t D σ H1 else u D σ H1
theorem ps_if {c:Expr}{a b:List Stmt}{tc:TT} (hc:PT X c tc) (ha:PSs X a t) (hb:PSs X b u):PS X (.If c a b pos) (tIfS tc t u):=by
 intro pins s σ H D I h
 refine wpAny_If (thn (hc pins s σ H _ I h) fun d s1 ⟨H1,I1,q1⟩=>?_)
 cases d with
 |true=>exact ha pins s1 σ H1 D I1 q1
 |false=>exact hb pins s1 σ H1 D I1 q1
end
noncomputable abbrev TG:=V→St→Hp→(St→Hp→Prop)→Prop
noncomputable abbrev TGs:=List V→St→Hp→(St→Hp→Prop)→Prop
noncomputable def PG (X:Cx) (target:Expr) (t:TG):Prop :=
 ∀ (pins:List (Addr×Obj)) (s:Shared) (σ:St) (H:Hp) (v:V) (u:Value) (Q:St→Hp→Prop),Inv X pins σ H s→RelV v u→t v σ H Q →
  wpAny (model X.prog X.w) X.A (assign target X.env u) (fun _ s'=>∃ σ' H',Inv X pins σ' H' s'∧Q σ' H') X.xe s
noncomputable def PGs (X:Cx) (ts:List Expr) (t:TGs):Prop :=
 ∀ (pins:List (Addr×Obj)) (s:Shared) (σ:St) (H:Hp) (vs:List V) (us:List Value) (Q:St→Hp→Prop),Inv X pins σ H s→Vals vs us→t vs σ H Q →
  wpAny (model X.prog X.w) X.A (assignInOrder ((assignEach ts X.env).map (·.2)) us) (fun _ s'=>∃ σ' H',Inv X pins σ' H' s'∧Q σ' H') X.xe s
noncomputable abbrev TSet:=V→V→V→Hp→(Hp→Prop)→Prop
noncomputable def PSet (X:Cx) (t:TSet):Prop :=
 ∀ (pins:List (Addr×Obj)) (s:Shared) (σ:St) (H:Hp) (o i v:V) (ov iv u:Value) (Q:Hp→Prop),Inv X pins σ H s→RelV o ov→RelV i iv→RelV v u→t o i v H Q →
  wpAny (model X.prog X.w) X.A (setItem ov iv u) (fun _ s'=>∃ H',Inv X pins σ H' s'∧Q H') X.xe s
section
variable {X:Cx}{pos:Pos}
noncomputable def gName (i:Nat):TG:=fun v σ H Q=>Q (σ.set i (some v)) H
theorem QjD {i:Nat}{x:Str} (hN:X.N.Nodup) (hi:X.N[i]?=some x) (hx:Loc X.env.scope x) (hf:X.fn x=true∨X.env.scope.names.lookup x=some .local:=by first | exact .inl rfl | exact .inr rfl | assumption):PG X (.Name x pos) (gName i):=by
 intro pins s σ H v u Q I r h
 exact wpAny_assign_Name (QcR I hN hi hx r (fun s' I'=>⟨_,H,I',h⟩) hf)
noncomputable def gNil:TGs:=fun vs σ H Q=>vs=[]∧Q σ H
noncomputable def gCons (t:TG) (u:TGs):TGs:=fun vs σ H Q=>∃ v r,vs=v::r∧t v σ H fun σ' H'=>u r σ' H' Q
theorem pgs_nil:PGs X [] gNil:=by
 intro pins s σ H vs us Q I r h
 obtain⟨e,h⟩:=h
 subst e
 cases r
 exact assignInOrder_nil ⟨σ,H,I,h⟩
theorem QkW {e:Expr}{es:List Expr}{t:TG}{u:TGs} (h1:PG X e t) (h2:PGs X es u)
  (hs:(assignEach (e::es) X.env).map (·.2)=assign e X.env::(assignEach es X.env).map (·.2):=by rfl):PGs X (e::es) (gCons t u):=by
 intro pins s σ H vs us Q I r h
 obtain⟨v,vr,e1,h⟩:=h
 subst e1
 cases r with
 |cons r rr =>
  rw[hs]
  refine assignInOrder_cons (thn (h1 pins s σ H _ _ _ I r h) fun _ s1 ⟨σ1,H1,I1,q1⟩=>?_)
  exact h2 pins s1 σ1 H1 _ _ Q I1 rr q1
noncomputable def gTup (K:PySem.W.Frag) (n:Nat) (t:TGs):TG:=fun v σ H Q=>∃ a xs,v=.ref a∧SqT K H a xs∧xs.length=n∧t xs σ H Q
theorem pg_tup {es:List Expr}{k:Nat}{t:TGs}{n:Nat} (hc:X.calm=true) (h:PGs X es t)
  (hn:(assignEach es X.env).length=n:=by rfl) (hst:(assignEach es X.env).findIdx? (·.1)=none:=by rfl):PG X (.Tuple es k pos) (gTup X.K n t):=by
 intro pins s σ H v u Q I r hw
 obtain⟨a,xs,e1,hq,hl,hw⟩:=hw
 subst e1
 cases r
 obtain⟨its,rv,ht,hz⟩:=I.tuple hq
 refine assign_Tuple_tuple (I.ok.hd hc) ht (by simp[hn,← hl,rv.length]) hst fun h' hx=>?_
 have I1:Inv X pins σ H { s with heap:=h' }:=I.kept (t':=s.toks) fun b o e=>hx b o (Nat.ne_of_lt (Heap.lt_size e)) e
 exact h pins _ σ H xs _ Q I1 (by simpa using rv) hw
noncomputable def gSub (to ti:TE) (t:TSet):TG:=fun v σ H Q=>to σ H fun o H1=>ti σ H1 fun i H2=>t o i v H2 fun H3=>Q σ H3
theorem pg_sub {o i:Expr}{to ti:TE}{t:TSet} (ho:PE X o to) (hi:PE X i ti) (hs:PSet X t)
  (ha:∀ v,assign (.Subscript o i pos) X.env v=(do
   let ov ← holding [v] (eval o X.env)
   let iv ← holding [v,ov] (eval i X.env)
   standAt pos
   holding [v,ov,iv] (setItem ov iv v)
   release [v,ov,iv] []):=by intro _;rfl):PG X (.Subscript o i pos) (gSub to ti t):=by
 intro pins s σ H v u Q I r h
 rw[ha]
 refine wpAny_bind (wpAny_holding (thn (ho pins s σ H _ I h) fun ov s1 ⟨x,H1,I1,r1,q1⟩=>?_))
 refine wpAny_bind (wpAny_holding (thn (hi pins s1 σ H1 _ I1 q1) fun iv s2 ⟨y,H2,I2,r2,q2⟩=>?_))
 refine wpAny_bind (wpAny_standAt (wpAny_bind (wpAny_holding (thn (hs pins s2 σ H2 x y v ov iv u _ I2 r1 r2 r q2) fun _ s3 ⟨H3,I3,q3⟩=>?_))))
 exact wpAny_release ⟨σ,H3,I3,q3⟩
noncomputable def tAsg (te:TE) (g:TG):TS:=fun D σ H=>te σ H fun x H1=>g x σ H1 D.nx
theorem Qlu {tg e:Expr}{te:TE}{g:TG} (he:PE X e te) (hg:PG X tg g) (hs:swapsWithSole [tg] e pos.line X.env=pure false:=by rfl) (hw:swappedStores [tg] e X.env=pure none:=by rfl)
  (h1:(assignEach [tg] X.env).map (·.2)=[assign tg X.env]:=by rfl):PS X (.Assign [tg] e pos) (tAsg te g):=by
 intro pins s σ H D I h
 refine wpAny_Assign_stores (thn (he pins s σ H _ I h) fun v s1 ⟨x,H1,I1,r1,q1⟩=>?_) hs hw
 rw[h1]
 exact thn (hg pins s1 σ H1 x v _ I1 r1 q1) fun _ s2 q=>q
theorem QeN {i:Nat}{x:Str}{e:Expr}{te:TE}{pos':Pos} (hN:X.N.Nodup) (hi:X.N[i]?=some x) (hx:Loc X.env.scope x) (he:PE X e te) (hs:swapsWith e (some (.Name x pos')) pos.line X.env=pure false:=by rfl) (hf:X.fn x=true∨X.env.scope.names.lookup x=some .local:=by first | exact .inl rfl | exact .inr rfl | assumption) :
  PS X (.Assign [.Name x pos'] e pos) (tAsg te (gName i)):=by
 intro pins s σ H D I h
 refine wpAny_Assign_Name (thn (he pins s σ H _ I h) fun v s1 ⟨y,H1,I1,r1,q1⟩=>?_) hs
 exact QcR I1 hN hi hx r1 (fun s2 I2=>⟨_,H1,I2,q1⟩) hf
noncomputable def tPar (i j:Nat) (ta:TA):TS:=fun D σ H=>ta σ H fun vs H1=>∃ v w,vs=[v,w]∧D.nx ((σ.set i (some v)).set j (some w)) H1
theorem ps_par {i j:Nat}{x y:Str}{a b:Expr}{ta:TA}{px py pt:Pos}{kt k2 pt2} (hc:X.calm=true) (hN:X.N.Nodup) (hi:X.N[i]?=some x) (hj:X.N[j]?=some y) (hij:i≠j)
  (hx:X.env.scope.names.lookup x=some .local) (hy:X.env.scope.names.lookup y=some .local) (ha:PA X [a,b] ta)
  (hw:swappedStores [.Tuple [.Name x px,.Name y py] kt pt] (.Tuple [a,b] k2 pt2) X.env=pure (some [x,y]))
  (hs:swapsWithSole [.Tuple [.Name x px,.Name y py] kt pt] (.Tuple [a,b] k2 pt2) pos.line X.env=pure false:=by rfl) :
  PS X (.Assign [.Tuple [.Name x px,.Name y py] kt pt] (.Tuple [a,b] k2 pt2) pos) (tPar i j ta):=by
 intro pins s σ H D I h
 rw[exec_Assign_arm]
 refine wpAny_bind (wpAny_standAt ?_)
 rw[hs]
 refine wpAny_bind (wpAny_pure ?_)
 rw[if_neg (by decide)]
 refine wpAny_bind (Tuple_ (thn (ha _ pins s σ H _ I h) fun us s1 ⟨vs,H1,I1,r1,q1⟩=>?_))
 obtain⟨v,w,e1,q1⟩:=q1
 subst e1
 obtain⟨u1,u2,rfl,rv,rw'⟩:∃ u1 u2,us=[u1,u2]∧RelV v u1∧RelV w u2:=by
  cases r1 with
  |cons p q =>
   cases q with
   |cons p' q' =>
    cases q'
    exact⟨_,_,rfl,p,p'⟩
 refine wpAny_newObj_type ?_ (by show 2≤sizeLine;decide)
 have I2:Inv X pins σ H1 { s1 with heap:=s1.heap.push { cls:=.type "tuple",data:=.seq [u1,u2].toArray } }:=I1.kept (t':=s1.toks) fun b o e=>Heap.get?_push_of_some _ e
 rw[hw]
 refine wpAny_bind (wpAny_pure ?_)
 show wpAny (model X.prog X.w) X.A (do rule "assign.swapped-stores";let items ← unpackItems (.ref s1.heap.objs.size) 2 none;assignInOrder [fun v=>bindName X.env y v,fun v=>bindName X.env x v] items.reverse;pure Flow.next) _ _ _
 refine wpAny_bind (wpAny_rule (wpAny_bind (unpackItems_tuple (items:=#[u1,u2]) (I.ok.hd hc) (IsTup.new s1.heap _) fun h' hx'=>?_)))
 have I3:=I2.kept (h':=h') (t':=s1.toks) fun b o e=>hx' b o (Nat.ne_of_lt (Heap.lt_size e)) e
 show wpAny _ _ (assignInOrder [fun v=>bindName X.env y v,fun v=>bindName X.env x v] [u2,u1] >>= fun _=>pure Flow.next) _ _ _
 refine wpAny_bind (assignInOrder_cons (wpAny_bindName (QcR I3 hN hj (.inl hy) rw' (fun s2 I4=>?_) (.inr hy))))
 refine assignInOrder_cons (wpAny_bindName (QcR I4 hN hi (.inl hx) rv (fun s3 I5=>assignInOrder_nil (wpAny_pure ?_)) (.inr hx)))
 rw[List.set_comm _ _ (Ne.symm hij)]at I5
 exact⟨_,H1,I5,q1⟩
end
section
variable {X:Cx}{pos:Pos}
noncomputable def tWhile (c:TT) (tb:TS):TS:=fun D σ H=>∃ W:Nat→St→Hp→Prop,(∃ m,W m σ H)∧∀ m σ H,W m σ H →
 c σ H fun b H1=>if b=true then ∃ N:St→Hp→Prop,(∀ σ' H',N σ' H'→∃ m',m'<m∧W m' σ' H')∧tb { D with nx:=N,ct:=N,bk:=D.nx } σ H1 else D.nx σ H1
theorem Qks {c:Expr}{body:List Stmt}{tc:TT}{tb:TS} (hp:PassesOwn (model X.prog X.w) X.A X.env X.xe) (hc:PT X c tc) (hb:PSs X body tb):PS X (.While c body [] pos) (tWhile tc tb):=by
 intro pins s σ H D I h
 obtain⟨W,⟨m0,w0⟩,turn⟩:=h
 refine wpAny_While (codeAny_whileLoop (fun n s'=>∃ σ' H',Inv X pins σ' H' s'∧W n σ' H') ?_ m0 ⟨σ,H,I,w0⟩)
 rintro n s1 ⟨σ1,H1,I1,w1⟩
 refine wpAny_passesOwn hp (thn (hc pins s1 σ1 H1 _ I1 (turn n σ1 H1 w1)) fun b s2 ⟨H2,I2,q2⟩=>?_)
 cases b with
 |true =>
  obtain⟨N,hN,q2⟩:=q2
  rw[if_pos rfl]
  refine wpAny_passesOwn hp (thn (hb pins s2 σ1 H2 _ I2 q2) fun f s3 q3=>?_)
  cases f with
  |next =>
   obtain⟨σ3,H3,I3,n3⟩:=q3
   obtain⟨m',hm,w3⟩:=hN σ3 H3 n3
   exact⟨m',hm,σ3,H3,I3,w3⟩
  |cont =>
   obtain⟨σ3,H3,I3,n3⟩:=q3
   obtain⟨m',hm,w3⟩:=hN σ3 H3 n3
   exact⟨m',hm,σ3,H3,I3,w3⟩
  |brk=>exact q3
  |ret v=>exact q3
 |false =>
  rw[if_neg Bool.false_ne_true]
  exact wpAny_execs_nil ⟨σ1,H2,I2,q2⟩
end
structure It where
 go:Nat→Hp→Prop
 yld:Nat→Hp→V→Hp→Prop
 stop:Nat→Hp→Prop
noncomputable def QgN (X:Cx) (pins:List (Addr×Obj)) (H:Hp) (b:Addr):Prop :=
 H b=none∧b≠X.env.locals∧b∉X.fs∧(b∈X.ex∨X.s₀.heap.objs.size≤b)∧(∀ x c,X.env.cells.lookup x=some c→c≠b)∧∀ p∈X.pn++pins,p.1≠b
theorem Inv.fpOk {X:Cx}{pins:List (Addr×Obj)}{σ:St}{H H':Hp}{s:Shared}{b:Addr} (I:Inv X pins σ H s) (hb:s.heap.objs.size≤b) (hn:H' b=none):QgN X pins H' b:=by
 refine⟨hn,Nat.ne_of_gt (Nat.lt_of_lt_of_le I.lt hb),I.nofs hb,.inr (Nat.le_trans I.sz hb),fun x c e z=>?_,fun p hp z=>?_⟩
 ·obtain⟨v,q⟩:=I.cell x c e
  exact absurd (Nat.lt_of_lt_of_le q.lt (by rw[z];exact hb)) (Nat.lt_irrefl _)
 ·exact absurd (Nat.lt_of_lt_of_le (Heap.lt_size (I.pin p hp).1) (by rw[z];exact hb)) (Nat.lt_irrefl _)
structure Turn (P:Program) (w:World) (K:PySem.W.Frag) (tg:Expr) (J:It) (fp:List Addr) (it:Addr) (tn:Nat→Heap→Prop):Prop where
 mem:it∈fp
 obj:∀ i h,tn i h→∀ b∈fp,∃ o,h.get? b=some o∧∀ v,o.data≠.cell v
 keep:∀ i h h',tn i h→(∀ b∈fp,∀ o,h.get? b=some o→h'.get? b=some o)→tn i h'
 item:∀ (X:Cx),X.prog=P→X.w=w→X.K=K→X.calm=true→∀ (i:Nat) (pins:List (Addr×Obj)) (s:Shared) (σ:St) (H:Hp) (E:Value→Shared→Prop),Inv X pins σ H s→(∀ b∈fp,QgN X pins H b)→tn i s.heap→J.go i H →
  wpAny (model P w) X.A (pyNext (.ref it)) (fun r s1=>∃ u,r=some u ∧
   wpAny (model P w) X.A (letOwnedTupleGo tg (.ref it) u) (fun _ s2=>∃ x H',Inv X pins σ H' s2∧RelV x u∧J.yld i H x H'∧tn (i+1) s2.heap∧∀ b∈fp,H' b=none) E s1) E s
 done:∀ (X:Cx),X.prog=P→X.w=w→X.K=K→X.calm=true→∀ (i:Nat) (pins:List (Addr×Obj)) (s:Shared) (σ:St) (H:Hp) (E:Value→Shared→Prop),Inv X pins σ H s→(∀ b∈fp,QgN X pins H b)→tn i s.heap→J.stop i H →
  wpAny (model P w) X.A (pyNext (.ref it)) (fun r s1=>r=none∧Inv X pins σ H s1) E s
 self:∀ (A:Around) (i:Nat) (s:Shared) (Q:Value→Shared→Prop) (E:Value→Shared→Prop),tn i s.heap→Q (.ref it) s→wpAny (model P w) A (pyIter (.ref it)) Q E s
noncomputable abbrev TI:=St→Hp→(It→Hp→Prop)→Prop
noncomputable def PIE (X:Cx) (pins:List (Addr×Obj)) (σ:St) (tg:Expr) (R:It→Hp→Prop) (itv:Value) (s2:Shared):Prop :=
 ∃ (it:Addr) (fp:List Addr) (tn:Nat→Heap→Prop) (J:It) (H':Hp),itv=.ref it∧Inv X pins σ H' s2∧Turn X.prog X.w X.K tg J fp it tn∧tn 0 s2.heap∧(∀ b∈fp,QgN X pins H' b)∧R J H'
noncomputable def PI (X:Cx) (tg iter:Expr) (wi:TI):Prop :=
 ∀ (pins:List (Addr×Obj)) (s:Shared) (σ:St) (H:Hp) (R:It→Hp→Prop),Inv X pins σ H s→wi σ H R →
  wpAny (model X.prog X.w) X.A (eval iter X.env) (fun v s1=>wpAny (model X.prog X.w) X.A (pyIter v) (PIE X pins σ tg R) X.xe s1) X.xe s
theorem Qje {M:Model} {A:Around} {E:Value→Shared→Prop} {s:Shared} {tg:Expr} {it:Addr} {u:Value} {o:Obj} {n:String} {vs:Array Value} {Q:Unit→Shared→Prop} (ho:s.heap.get? it=some o) (hc:o.cls=.type n) (hd:o.data=.fields vs)
    (hn:["enumerate","zip","dict_itemiterator","dict_reverseitemiterator","odict_iterator","itertools.zip_longest","itertools.pairwise"].contains n=false) (hQ:Q () s):wpAny M A (letOwnedTupleGo tg (.ref it) u) Q E s:=by
  unfold letOwnedTupleGo
  cases tg <;> first
    | exact wpAny_pure hQ
    | (cases u <;> first
        | exact wpAny_pure hQ
        | (refine wpAny_bind (wpAny_load ho ?_)
           rw [hc,hd]
           show wpAny M A (if (["enumerate","zip","dict_itemiterator","dict_reverseitemiterator","odict_iterator","itertools.zip_longest","itertools.pairwise"].contains n&&vs[0]? == some (rawInt _))=true then _ else _) Q E s
           rw [if_neg (by intro h;rw [hn,Bool.false_and] at h;cases h)]
           exact wpAny_pure hQ))

noncomputable def Itl (K:PySem.W.Frag) (a:Addr):It :=
 ⟨fun i H=>∃ xs x,SqL K H a xs∧xs[i]?=some x,fun i H x H'=>H'=H∧∀ xs,SqL K H a xs→xs[i]?=some x,fun i H=>∃ xs,SqL K H a xs∧xs.length≤i⟩
noncomputable def Itt (K:PySem.W.Frag) (a:Addr):It :=
 ⟨fun i H=>∃ xs x,SqT K H a xs∧xs[i]?=some x,fun i H x H'=>H'=H∧∀ xs,SqT K H a xs→xs[i]?=some x,fun i H=>∃ xs,SqT K H a xs∧xs.length≤i⟩
noncomputable def Itr (lo:Int) (n:Nat):It:=⟨fun i _=>i<n,fun i H x H'=>H'=H∧x=.int (lo+i),fun i _=>n≤i⟩
theorem QhY {P:Program}{w:World}{K:PySem.W.Frag}{tg:Expr} (a it:Addr):Turn P w K tg (Itl K a) [it] it (fun i h=>h.IsListIter it a i) where
 mem:=by simp
 obj:=fun i h st b hb=>by
  have e:b=it:=by simpa using hb
  subst e
  obtain⟨o,e,c,d⟩:=st
  exact⟨o,e,fun v z=>by rw[d]at z;cases z⟩
 keep:=fun i h h' st k=>st.at fun o e=>k it (by simp) o e
 item:=by
  intro X hP hw hK hc i pins s σ H E I hf st hg
  subst hP hw hK
  obtain⟨xs,x,hq,hx⟩:=hg
  obtain⟨its,rv,p,hz⟩:=I.list hq
  obtain⟨u,hu,ru⟩:=rv.get hx
  obtain⟨f0,f1,f2,f3,f4,f5⟩:=hf it (by simp)
  refine wpAny_pyNext_list_item st p.isList (x:=u) (by simpa using hu) fun h' st' sb=>?_
  have I1:Inv X pins σ H { s with heap:=h' }:=I.turned (t':=s.toks) (fun b o hb e=>(sb.2 b hb).trans e) f0 f1 f3 f4 f5
  obtain⟨o,e,c,d⟩:=id st'
  exact⟨u,rfl,Qje (s:={ s with heap:=h' }) e c d (by decide) ⟨x,H,I1,ru,⟨rfl,fun ys hy=>by rw[I.list_inj hy hq];exact hx⟩,st',fun b hb=>(hf b hb).1⟩⟩
 done:=by
  intro X hP hw hK hc i pins s σ H E I hf st hg
  subst hP hw hK
  obtain⟨xs,hq,hx⟩:=hg
  obtain⟨its,rv,p,hz⟩:=I.list hq
  obtain⟨f0,f1,f2,f3,f4,f5⟩:=hf it (by simp)
  have hl:=rv.length
  exact wpAny_pyNext_list_end (I.ok.hd hc) st p.isList (by simp;omega) fun h' eb=>⟨rfl,I.turned (t':=s.toks) (fun b o hb e=>eb b o hb e) f0 f1 f3 f4 f5⟩
 self:=fun _ _ _ _ _ st h=>wpAny_pyIter_listiter st h
theorem Qh7 {P:Program}{w:World}{K:PySem.W.Frag}{tg:Expr} (a it:Addr):Turn P w K tg (Itt K a) [it] it (fun i h=>h.IsTupleIter it a i) where
 mem:=by simp
 obj:=fun i h st b hb=>by
  have e:b=it:=by simpa using hb
  subst e
  obtain⟨o,e,c,d⟩:=st
  exact⟨o,e,fun v z=>by rw[d]at z;cases z⟩
 keep:=fun i h h' st k=>st.at fun o e=>k it (by simp) o e
 item:=by
  intro X hP hw hK hc i pins s σ H E I hf st hg
  subst hP hw hK
  obtain⟨xs,x,hq,hx⟩:=hg
  obtain⟨its,rv,p,hz⟩:=I.tuple hq
  obtain⟨u,hu,ru⟩:=rv.get hx
  obtain⟨f0,f1,f2,f3,f4,f5⟩:=hf it (by simp)
  refine wpAny_pyNext_tuple_item st (show s.heap.IsTuple a its.toArray from p) (x:=u) (by simpa using hu) fun h' st' sb=>?_
  have I1:Inv X pins σ H { s with heap:=h' }:=I.turned (t':=s.toks) (fun b o hb e=>(sb.2 b hb).trans e) f0 f1 f3 f4 f5
  obtain⟨o,e,c,d⟩:=id st'
  exact⟨u,rfl,Qje (s:={ s with heap:=h' }) e c d (by decide) ⟨x,H,I1,ru,⟨rfl,fun ys hy=>by rw[I.tuple_inj hy hq];exact hx⟩,st',fun b hb=>(hf b hb).1⟩⟩
 done:=by
  intro X hP hw hK hc i pins s σ H E I hf st hg
  subst hP hw hK
  obtain⟨xs,hq,hx⟩:=hg
  obtain⟨its,rv,p,hz⟩:=I.tuple hq
  obtain⟨f0,f1,f2,f3,f4,f5⟩:=hf it (by simp)
  have hl:=rv.length
  exact wpAny_pyNext_tuple_end (I.ok.hd hc) st (show s.heap.IsTuple a its.toArray from p) (by simp;omega) fun h' eb=>⟨rfl,I.turned (t':=s.toks) (fun b o hb e=>eb b o hb e) f0 f1 f3 f4 f5⟩
 self:=fun _ _ _ _ _ st h=>wpAny_pyIter_tupleiter st h
theorem QhJ {P:Program}{w:World}{K:PySem.W.Frag}{tg:Expr} (it:Addr) (lo:Int) (n:Nat):Turn P w K tg (Itr lo n) [it] it (fun i h=>IsRangeIter h it (lo+(i:Nat)*1) ((n:Int)-(i:Nat)) 1) where
 mem:=by simp
 obj:=fun i h st b hb=>by
  have e:b=it:=by simpa using hb
  subst e
  exact⟨_,st,fun v z=>by
   have z':Data.fields _=Data.cell v:=z
   cases z'⟩
 keep:=fun i h h' st k=>k it (by simp) _ st
 item:=by
  intro X hP hw hK hc i pins s σ H E I hf st hg
  subst hP hw hK
  obtain⟨f0,f1,f2,f3,f4,f5⟩:=hf it (by simp)
  have W:=Walks.range (prog:=X.prog) (w:=X.w) (I.ok.hd hc) it lo 1 n
  refine W.item i s _ _ hg st fun v h' tk hv st' kk=>?_
  obtain⟨t,rfl⟩:=hv
  have I1:Inv X pins σ H { s with heap:=h',toks:=tk }:=I.turned (fun b o hb e=>kk b o (by simpa using hb) e) f0 f1 f3 f4 f5
  refine⟨_,rfl,Qje (s:={ s with heap:=h',toks:=tk }) (n:="range_iterator") st' rfl rfl (by decide) ⟨.int (lo+i),H,I1,⟨t,?_⟩,⟨rfl,rfl⟩,st',fun b hb=>(hf b hb).1⟩⟩
  rw[Int.mul_one]
 done:=by
  intro X hP hw hK hc i pins s σ H E I hf st hg
  subst hP hw hK
  obtain⟨f0,f1,f2,f3,f4,f5⟩:=hf it (by simp)
  exact wpAny_pyNext_range_end (I.ok.hd hc) st (by have:n≤i:=hg;omega) fun h' eb=>⟨rfl,I.turned (t':=s.toks) (fun b o hb e=>eb b o hb e) f0 f1 f3 f4 f5⟩
 self:=fun _ _ _ _ _ st h=>wpAny_pyIter_rangeiter st h
end L2
namespace L2
open PySem PySem.Spec PyProof.Rows
section
variable {X:Cx}{tg:Expr}
theorem Qhq {pins:List (Addr×Obj)}{σ:St}{H:Hp}{s:Shared}{R:It→Hp→Prop}{E:Value→Shared→Prop}{lo hi:Int}{t u v:Tok}{tk:Nat} (I:Inv X pins σ H s) (h1:-(2 ^ 62)≤lo) (h2:lo<2 ^ 62) (h3:-(2 ^ 62)≤hi) (h4:hi<2 ^ 62)
  (q:R (Itr lo (hi-lo).toNat) H):wpAny (model X.prog X.w) X.A (pyIter (.ref s.heap.objs.size)) (PIE X pins σ tg R) E { s with heap:=s.heap.push { cls:=.type "range",data:=.fields #[.int lo t,.int hi u,.int 1 v] },toks:=tk }:=by
 refine wpAny_pyIter_range (IsRange.new ..) (small_one h1 h2 h3 h4) ?_
 have I1:Inv X pins σ H { s with heap:=s.heap.push { cls:=.type "range",data:=.fields #[.int lo t,.int hi u,.int 1 v] },toks:=tk }:=I.kept fun b o e=>Heap.get?_push_of_some _ e
 refine⟨(s.heap.push { cls:=.type "range",data:=.fields #[.int lo t,.int hi u,.int 1 v] }).objs.size,[(s.heap.push { cls:=.type "range",data:=.fields #[.int lo t,.int hi u,.int 1 v] }).objs.size],_,_,H,rfl,
  I1.kept (t':=tk) fun b o e=>Heap.get?_push_of_some _ e,QhJ _ lo (hi-lo).toNat,?_,fun b hb=>?_,q⟩
 ·have e1:lo+((0:Nat):Int)*1=lo:=by simp
  have e2:(((hi-lo).toNat:Nat):Int)-((0:Nat):Int)=Builtin.Range.rangeSize lo hi 1:=by rw[rangeSize_one];split<;>omega
  show IsRangeIter _ _ (lo+((0:Nat):Int)*1) ((((hi-lo).toNat:Nat):Int)-((0:Nat):Int)) 1
  rw[e1,e2]
  exact Heap.get?_push_size _ rfl
 ·have e:b=(s.heap.push { cls:=.type "range",data:=.fields #[.int lo t,.int hi u,.int 1 v] }).objs.size:=by simpa using hb
  subst e
  exact I1.fpOk (Nat.le_refl _) (I1.hok.fresh (Nat.le_refl _))
noncomputable def iRng1 (ta:TA):TI:=fun σ H R=>ta σ H fun vs H1=>∃ j:Int,vs=[.int j]∧-(2 ^ 62)≤j∧j<2 ^ 62∧R (Itr 0 j.toNat) H1
noncomputable def iRng2 (ta:TA):TI:=fun σ H R=>ta σ H fun vs H1=>∃ i j:Int,vs=[.int i,.int j]∧(-(2 ^ 62)≤i∧i<2 ^ 62∧-(2 ^ 62)≤j∧j<2 ^ 62)∧R (Itr i (j-i).toNat) H1
theorem Qfx {a:Expr}{ta:TA}{p pos:Pos} (hg:Gl X "range") (hm:X.mg "range"=none) (ha:PA X [a] ta) (hs:starEach [a] X.env=[(false,eval a X.env)]:=by rfl):PI X tg (.Call (.Name "range" p) [a] [] pos) (iRng1 ta):=by
 intro pins s σ H R I h
 refine Call_ (Qd1 I hg hm boot_range (PyProof.Rows.callWith_type1 (thn (ha pos pins s σ H _ I h) fun us s1 ⟨vs,H1,I1,r1,q1⟩=>?_) hs rfl))
 obtain⟨j,e,q1,q2,q⟩:=q1
 subst e
 cases r1 with
 |cons r rr =>
  cases rr
  obtain⟨t,rfl⟩:=r
  exact call_range_1 (Qhq I1 (by omega) (by omega) q1 q2 (by simpa using q))
theorem Qf7 {a b:Expr}{ta:TA}{p pos:Pos} (hg:Gl X "range") (hm:X.mg "range"=none) (ha:PA X [a,b] ta) (hs:starEach [a,b] X.env=[(false,eval a X.env),(false,eval b X.env)]:=by rfl) (hs2:starEach [b] X.env=[(false,eval b X.env)]:=by rfl) :
  PI X tg (.Call (.Name "range" p) [a,b] [] pos) (iRng2 ta):=by
 intro pins s σ H R I h
 refine Call_ (Qd1 I hg hm boot_range (PyProof.Rows.callWith_type1 (thn (ha pos pins s σ H _ I h) fun us s1 ⟨vs,H1,I1,r1,q1⟩=>?_) (by rw[hs,hs2]) (by rw[hs2];rfl)))
 obtain⟨i,j,e,⟨q1,q2,q3,q4⟩,q⟩:=q1
 subst e
 cases r1 with
 |cons r rr =>
  cases rr with
  |cons r' rr =>
   cases rr
   obtain⟨t,rfl⟩:=r
   obtain⟨t',rfl⟩:=r'
   exact call_range_2 (Qhq I1 q1 q2 q3 q4 q)
noncomputable def tFor (wi:TI) (g:TG) (tb:TS):TS:=fun D σ H=>wi σ H fun J H1=>∃ W:Nat→Nat→St→Hp→Prop,(∃ m,W 0 m σ H1)∧∀ i m σ H,W i m σ H →
 (J.stop i H∧D.nx σ H)∨(J.go i H∧∃ N:St→Hp→Prop,(∀ σ' H',N σ' H'→∃ m',m'<m∧W (i+1) m' σ' H')∧∀ x H',J.yld i H x H'→g x σ H' fun σ2 H2=>tb { D with nx:=N,ct:=N,bk:=D.nx } σ2 H2)
noncomputable def QeQ (fp:List Addr) (h:Heap):List (Addr×Obj):=fp.filterMap fun b=>(h.get? b).map fun o=>(b,o)
theorem QbT {fp:List Addr}{h:Heap}{b:Addr}{o:Obj} (hb:b∈fp) (e:h.get? b=some o):(b,o)∈QeQ fp h:=List.mem_filterMap.mpr ⟨b,hb,by rw[e];rfl⟩
theorem Qjo {fp:List Addr}{h:Heap}{p:Addr×Obj} (hp:p∈QeQ fp h):p.1∈fp∧h.get? p.1=some p.2:=by
 obtain⟨b,hb,e⟩:=List.mem_filterMap.mp hp
 cases q:h.get? b with
 |none=>rw[q]at e;cases e
 |some o =>
  rw[q]at e
  have e':(b,o)=p:=Option.some.inj e
  subst e'
  exact⟨hb,q⟩
theorem Inv.pinned {pins:List (Addr×Obj)}{σ:St}{H:Hp}{s:Shared}{fp:List Addr} (I:Inv X pins σ H s) (hf:∀ b∈fp,QgN X pins H b) (ho:∀ b∈fp,∃ o,s.heap.get? b=some o∧∀ v,o.data≠.cell v):Inv X (pins++QeQ fp s.heap) σ H s :=
 I.pins_of fun p hp=>(List.mem_append.mp hp).elim (fun z=>I.pin p (List.mem_append_right _ z)) fun z=>by
  obtain⟨hb,e⟩:=Qjo z
  obtain⟨f0,f1,f2,_⟩:=hf p.1 hb
  obtain⟨o,e',d⟩:=ho p.1 hb
  rw[e]at e';cases e'
  exact⟨e,f0,f1,f2,d⟩
theorem Inv.unpinned {pins pl:List (Addr×Obj)}{σ:St}{H:Hp}{s:Shared} (I:Inv X (pins++pl) σ H s):Inv X pins σ H s:=I.pins_of fun p hp=>I.pin p (List.mem_append_right _ (List.mem_append_left _ hp))
theorem Qi7 {iter:Expr}{body:List Stmt}{wi:TI}{g:TG}{tb:TS}{pos:Pos} (hp:PassesOwn (model X.prog X.w) X.A X.env X.xe) (hc:X.calm=true) (hi:PI X tg iter wi) (hg:PG X tg g) (hb:PSs X body tb)
  (hs:∀ x,foldedSetIterable iter X.env x=pure x:=by intro _;rfl):PS X (.For tg iter body [] pos) (tFor wi g tb):=by
 intro pins s σ H D I h
 refine wpAny_For (thn (hi pins s σ H _ I h) fun v s1 h1=>thn h1 fun itv s2 h2=>?_) hs
 obtain⟨it,fp,tn,J,H2,e,I2,T,st2,f2,W,⟨m0,w0⟩,turn⟩:=h2
 subst e
 have stat:∀ {H':Hp},(∀ b∈fp,H' b=none)→∀ b∈fp,QgN X pins H' b:=fun hn b hb=>⟨hn b hb,(f2 b hb).2⟩
 refine codeAny_forLoop_any (fun n s'=>∃ i σ' H',Inv X pins σ' H' s'∧tn i s'.heap∧(∀ b∈fp,H' b=none)∧W i n σ' H') ?_ m0 ⟨0,σ,H2,I2,st2,fun b hb=>(f2 b hb).1,w0⟩
 rintro n s3 ⟨i,σ3,H3,I3,st3,fr3,w3⟩
 rcases turn i n σ3 H3 w3 with ⟨stop,qn⟩ | ⟨go,N,hN,step⟩
 ·refine wpAny_passesOwn hp (thn (T.done X rfl rfl rfl hc i pins s3 σ3 H3 X.xe I3 (stat fr3) st3 stop) fun r s4 ⟨hr,I4⟩=>?_)
  subst hr
  exact wpAny_execs_nil ⟨σ3,H3,I4,qn⟩
 ·refine wpAny_passesOwn hp (thn (T.item X rfl rfl rfl hc i pins s3 σ3 H3 X.xe I3 (stat fr3) st3 go) fun r s4 ⟨u,hr,h4⟩=>?_)
  subst hr
  refine wpAny_passesOwn hp (thn h4 fun _ s5 ⟨x,H5,I5,r5,y5,st5,fr5⟩=>?_)
  have I5':=I5.pinned (stat fr5) (T.obj _ _ st5)
  refine wpAny_passesOwn hp (thn (hg _ s5 σ3 H5 x u _ I5' r5 (step x H5 y5)) fun _ s6 ⟨σ6,H6,I6,q6⟩=>?_)
  refine wpAny_passesOwn hp (thn (hb _ s6 σ6 H6 _ I6 q6) fun f s7 q7=>?_)
  have again:∀ {σ7:St}{H7:Hp},Inv X (pins++QeQ fp s5.heap) σ7 H7 s7→N σ7 H7→∃ m,m<n∧∃ i σ' H',Inv X pins σ' H' s7∧tn i s7.heap∧(∀ b∈fp,H' b=none)∧W i m σ' H':=fun {σ7 H7} I7 n7=>by
   obtain⟨m',hm,w7⟩:=hN σ7 H7 n7
   refine⟨m',hm,i+1,σ7,H7,I7.unpinned,T.keep _ _ _ st5 fun b hb o e=>(I7.pin (b,o) (List.mem_append_right _ (List.mem_append_right _ (QbT hb e)))).1,fun b hb=>?_,w7⟩
   obtain⟨o,e,d⟩:=T.obj _ _ st5 b hb
   exact(I7.pin (b,o) (List.mem_append_right _ (List.mem_append_right _ (QbT hb e)))).2.1
  cases f with
  |next=>obtain⟨σ7,H7,I7,n7⟩:=q7;exact again I7 n7
  |cont=>obtain⟨σ7,H7,I7,n7⟩:=q7;exact again I7 n7
  |brk=>obtain⟨σ7,H7,I7,q7⟩:=q7;exact⟨σ7,H7,I7.unpinned,q7⟩
  |ret v=>obtain⟨x7,σ7,H7,I7,r7,q7⟩:=q7;exact⟨x7,σ7,H7,I7.unpinned,r7,q7⟩
end
theorem Qk0 {K:PySem.W.Frag}{a:Addr}{xs:List V}{g:TG}{tb:TS}{D:Ends}{σ:St}{H:Hp} (Pv:Nat→St→Hp→Prop) (h0:Pv 0 σ H) (hl:∀ i σ H,i≤xs.length→Pv i σ H→SqL K H a xs)
  (hs:∀ i x σ H,xs[i]?=some x→Pv i σ H→g x σ H fun σ2 H2=>tb { D with nx:=Pv (i+1),ct:=Pv (i+1),bk:=D.nx } σ2 H2) (hd:∀ σ H,Pv xs.length σ H→D.nx σ H) :
  ∃ W:Nat→Nat→St→Hp→Prop,(∃ m,W 0 m σ H)∧∀ i m σ H,W i m σ H →
   ((Itl K a).stop i H∧D.nx σ H)∨((Itl K a).go i H∧∃ N:St→Hp→Prop,(∀ σ' H',N σ' H'→∃ m',m'<m∧W (i+1) m' σ' H')∧∀ x H',(Itl K a).yld i H x H'→g x σ H' fun σ2 H2=>tb { D with nx:=N,ct:=N,bk:=D.nx } σ2 H2):=by
 refine⟨fun i m σ H=>m=xs.length-i∧i≤xs.length∧Pv i σ H,⟨xs.length,by simp,Nat.zero_le _,h0⟩,?_⟩
 rintro i m σ H ⟨rfl,hi,p⟩
 have q:=hl i σ H hi p
 by_cases hlt:i<xs.length
 ·refine .inr ⟨⟨xs,xs[i],q,by simp[hlt]⟩,Pv (i+1),fun σ' H' p'=>⟨xs.length-(i+1),by omega,rfl,hlt,p'⟩,fun x H' y=>?_⟩
  obtain⟨e,y⟩:=y
  subst e
  exact hs i x σ _ (y xs q) p
 ·have e:i=xs.length:=by omega
  subst e
  exact .inl ⟨⟨xs,q,Nat.le_refl _⟩,hd σ H p⟩
theorem QlQ {K:PySem.W.Frag}{a:Addr}{xs:List V}{g:TG}{tb:TS}{D:Ends}{σ:St}{H:Hp} (Pv:Nat→St→Hp→Prop) (h0:Pv 0 σ H) (hl:∀ i σ H,i≤xs.length→Pv i σ H→SqT K H a xs)
  (hs:∀ i x σ H,xs[i]?=some x→Pv i σ H→g x σ H fun σ2 H2=>tb { D with nx:=Pv (i+1),ct:=Pv (i+1),bk:=D.nx } σ2 H2) (hd:∀ σ H,Pv xs.length σ H→D.nx σ H) :
  ∃ W:Nat→Nat→St→Hp→Prop,(∃ m,W 0 m σ H)∧∀ i m σ H,W i m σ H →
   ((Itt K a).stop i H∧D.nx σ H)∨((Itt K a).go i H∧∃ N:St→Hp→Prop,(∀ σ' H',N σ' H'→∃ m',m'<m∧W (i+1) m' σ' H')∧∀ x H',(Itt K a).yld i H x H'→g x σ H' fun σ2 H2=>tb { D with nx:=N,ct:=N,bk:=D.nx } σ2 H2):=by
 refine⟨fun i m σ H=>m=xs.length-i∧i≤xs.length∧Pv i σ H,⟨xs.length,by simp,Nat.zero_le _,h0⟩,?_⟩
 rintro i m σ H ⟨rfl,hi,p⟩
 have q:=hl i σ H hi p
 by_cases hlt:i<xs.length
 ·refine .inr ⟨⟨xs,xs[i],q,by simp[hlt]⟩,Pv (i+1),fun σ' H' p'=>⟨xs.length-(i+1),by omega,rfl,hlt,p'⟩,fun x H' y=>?_⟩
  obtain⟨e,y⟩:=y
  subst e
  exact hs i x σ _ (y xs q) p
 ·have e:i=xs.length:=by omega
  subst e
  exact .inl ⟨⟨xs,q,Nat.le_refl _⟩,hd σ H p⟩
theorem Qj8 {lo:Int}{n:Nat}{g:TG}{tb:TS}{D:Ends}{σ:St}{H:Hp} (Pv:Nat→St→Hp→Prop) (h0:Pv 0 σ H)
  (hs:∀ i σ H,i<n→Pv i σ H→g (.int (lo+i)) σ H fun σ2 H2=>tb { D with nx:=Pv (i+1),ct:=Pv (i+1),bk:=D.nx } σ2 H2) (hd:∀ σ H,Pv n σ H→D.nx σ H) :
  ∃ W:Nat→Nat→St→Hp→Prop,(∃ m,W 0 m σ H)∧∀ i m σ H,W i m σ H →
   ((Itr lo n).stop i H∧D.nx σ H)∨((Itr lo n).go i H∧∃ N:St→Hp→Prop,(∀ σ' H',N σ' H'→∃ m',m'<m∧W (i+1) m' σ' H')∧∀ x H',(Itr lo n).yld i H x H'→g x σ H' fun σ2 H2=>tb { D with nx:=N,ct:=N,bk:=D.nx } σ2 H2):=by
 refine⟨fun i m σ H=>m=n-i∧i≤n∧Pv i σ H,⟨n,by simp,Nat.zero_le _,h0⟩,?_⟩
 rintro i m σ H ⟨rfl,hi,p⟩
 by_cases hlt:i<n
 ·refine .inr ⟨hlt,Pv (i+1),fun σ' H' p'=>⟨n-(i+1),by omega,rfl,hlt,p'⟩,fun x H' y=>?_⟩
  obtain⟨e,y⟩:=y
  subst e y
  exact hs i σ _ hlt p
 ·have e:i=n:=by omega
  subst e
  exact .inl ⟨Nat.le_refl _,hd σ H p⟩
end L2
namespace L2
open PySem PySem.Spec PyProof.Rows
noncomputable abbrev R2:=V→V→Hp→VK→Prop
noncomputable def OpR (X:Cx) (f:Value→Value→Sem Value) (r:R2):Prop :=
 ∀ (pins:List (Addr×Obj)) (s:Shared) (σ:St) (H:Hp) (x y:V) (v u:Value) (Q:VK),Inv X pins σ H s→RelV x v→RelV y u→r x y H Q →
  wpAny (model X.prog X.w) X.A (f v u) (EP X pins σ Q) X.xe s
noncomputable def UnR (X:Cx) (f:Value→Sem Value) (r:V→Hp→VK→Prop):Prop :=
 ∀ (pins:List (Addr×Obj)) (s:Shared) (σ:St) (H:Hp) (x:V) (v:Value) (Q:VK),Inv X pins σ H s→RelV x v→r x H Q →
  wpAny (model X.prog X.w) X.A (f v) (EP X pins σ Q) X.xe s
noncomputable def Qby (X:Cx) (f:Value) (r:List V→Hp→VK→Prop):Prop :=
 ∀ (pins:List (Addr×Obj)) (s:Shared) (σ:St) (H:Hp) (xs:List V) (us:List Value) (Q:VK),Inv X pins σ H s→Vals xs us→r xs H Q →
  wpAny (model X.prog X.w) X.A (call f us) (EP X pins σ Q) X.xe s
noncomputable def tOp (r:R2) (ta tb:TE):TE:=fun σ H Q=>ta σ H fun x H1=>tb σ H1 fun y H2=>r x y H2 Q
noncomputable def tUn (r:V→Hp→VK→Prop) (ta:TE):TE:=fun σ H Q=>ta σ H fun x H1=>r x H1 Q
noncomputable def rI (C:Int→Int→Prop) (g:Int→Int→V):R2:=fun x y H Q=>∃ i j,x=.int i∧y=.int j∧C i j∧Q (g i j) H
noncomputable def rI0 (g:Int→Int→V):R2:=fun x y H Q=>∃ i j,x=.int i∧y=.int j∧Q (g i j) H
noncomputable def rU (g:Int→V):V→Hp→VK→Prop:=fun x H Q=>∃ i,x=.int i∧Q (g i) H
section
variable {X:Cx}{a b c:Expr}{ta tb tc:TE}{pos:Pos}
theorem binT (ha:PE X a ta) (hb:PE X b tb) {pins:List (Addr×Obj)}{s:Shared}{σ:St}{H:Hp}{R:V→V→Hp→Prop} (I:Inv X pins σ H s)
  (h:ta σ H fun x H1=>tb σ H1 fun y H2=>R x y H2) {Q:Value→Shared→Prop}{f:Value→Value→Sem Value}
  (hf:∀ v u s2 x y H2,Inv X pins σ H2 s2→RelV x v→RelV y u→R x y H2→wpAny (model X.prog X.w) X.A (f v u) Q X.xe s2) :
  wpAny (model X.prog X.w) X.A (eval a X.env) (fun v s₁=>wpAny (model X.prog X.w) X.A (eval b X.env) (fun u s₂=>wpAny (model X.prog X.w) X.A (f v u) Q X.xe s₂) X.xe s₁) X.xe s:=by
 refine thn (ha pins s σ H _ I h) fun v s1 ⟨x,H1,I1,r1,q1⟩=>?_
 refine thn (hb pins s1 σ H1 _ I1 q1) fun u s2 ⟨y,H2,I2,r2,q2⟩=>?_
 exact hf v u s2 x y H2 I2 r1 r2 q2
theorem QmM {op:Operator}{r:R2} (ho:OpR X (binaryOp op) r) (ha:PE X a ta) (hb:PE X b tb):PE X (.BinOp a op b pos) (tOp r ta tb):=by
 intro pins s σ H Q I h
 exact wpAny_BinOp (binT ha hb I h fun v u s2 x y H2 I2 rx ry q=>ho pins s2 σ H2 x y v u Q I2 rx ry q)
theorem pe_un {op:UnaryOp}{r:V→Hp→VK→Prop} (ho:UnR X (unaryOp op) r) (ha:PE X a ta):PE X (.UnaryOp op a pos) (tUn r ta):=by
 intro pins s σ H Q I h
 exact UnaryOp_ (thn (ha pins s σ H _ I h) fun v s1 ⟨x,H1,I1,r1,q1⟩=>ho pins s1 σ H1 x v Q I1 r1 q1)
theorem opI {f:Value→Value→Sem Value}{C:Int→Int→Prop}{g:Int→Int→Int}
  (rule:∀ (i j:Int) (t u:Tok) (s:Shared) (Q:Value→Shared→Prop) (E:Value→Shared→Prop),C i j→Q (.int (g i j) s.toks) { s with toks:=s.toks+1 }→wpAny (model X.prog X.w) X.A (f (.int i t) (.int j u)) Q E s) :
  OpR X f (rI C fun i j=>.int (g i j)):=by
 intro pins s σ H x y v u Q I rx ry h
 obtain⟨i,j,rfl,rfl,hc,q⟩:=h
 obtain⟨t,rfl⟩:=rx
 obtain⟨t',rfl⟩:=ry
 exact rule i j t t' s _ _ hc ⟨.int (g i j),H,I.tok _,⟨_,rfl⟩,q⟩
theorem opI0 {f:Value→Value→Sem Value}{g:Int→Int→Int}
  (rule:∀ (i j:Int) (t u:Tok) (s:Shared) (Q:Value→Shared→Prop) (E:Value→Shared→Prop),Q (.int (g i j) s.toks) { s with toks:=s.toks+1 }→wpAny (model X.prog X.w) X.A (f (.int i t) (.int j u)) Q E s) :
  OpR X f (rI0 fun i j=>.int (g i j)):=by
 intro pins s σ H x y v u Q I rx ry h
 obtain⟨i,j,rfl,rfl,q⟩:=h
 obtain⟨t,rfl⟩:=rx
 obtain⟨t',rfl⟩:=ry
 exact rule i j t t' s _ _ ⟨.int (g i j),H,I.tok _,⟨_,rfl⟩,q⟩
theorem opB0 {f:Value→Value→Sem Value}{g:Int→Int→Bool}
  (rule:∀ (i j:Int) (t u:Tok) (s:Shared) (Q:Value→Shared→Prop) (E:Value→Shared→Prop),Q (.bool (g i j)) s→wpAny (model X.prog X.w) X.A (f (.int i t) (.int j u)) Q E s) :
  OpR X f (rI0 fun i j=>.bl (g i j)):=by
 intro pins s σ H x y v u Q I rx ry h
 obtain⟨i,j,rfl,rfl,q⟩:=h
 obtain⟨t,rfl⟩:=rx
 obtain⟨t',rfl⟩:=ry
 exact rule i j t t' s _ _ ⟨.bl (g i j),H,I,rfl,q⟩
noncomputable def CPow (i j:Int):Prop:=0≤j∧j≤1000000∧i.natAbs<2 ^ 64
theorem op_add:OpR X (binaryOp .Add) (rI0 fun i j=>.int (i+j)):=opI0 fun _ _ _ _ _ _ _ q=>add_int q
theorem op_sub:OpR X (binaryOp .Sub) (rI0 fun i j=>.int (i-j)):=opI0 fun _ _ _ _ _ _ _ q=>sub_int q
theorem QmC:OpR X (binaryOp .Mod) (rI (fun _ j=>j≠0) fun i j=>.int (i.fmod j)):=opI fun _ _ _ _ _ _ _ hc q=>mod_int' hc q
theorem op_pow:OpR X (binaryOp .Pow) (rI CPow fun i j=>.int (i ^ j.toNat)):=opI fun _ _ _ _ _ _ _ hc q=>pow_int_small hc.1 hc.2.1 hc.2.2 q
theorem unI {f:Value→Sem Value}{g:Int→Int}
  (rule:∀ (i:Int) (t:Tok) (s:Shared) (Q:Value→Shared→Prop) (E:Value→Shared→Prop),Q (.int (g i) s.toks) { s with toks:=s.toks+1 }→wpAny (model X.prog X.w) X.A (f (.int i t)) Q E s) :
  UnR X f (rU fun i=>.int (g i)):=by
 intro pins s σ H x v Q I rx h
 obtain⟨i,rfl,q⟩:=h
 obtain⟨t,rfl⟩:=rx
 exact rule i t s _ _ ⟨.int (g i),H,I.tok _,⟨_,rfl⟩,q⟩
theorem un_neg:UnR X (unaryOp .USub) (rU fun i=>.int (-i)):=unI fun _ _ _ _ _ q=>neg_int q
end
noncomputable def scal:V→V→Bool
 |.non,.non=>true | .non,.int _=>true | .int _,.non=>true | .non,.bl _=>true | .bl _,.non=>true | .non,.str _=>true | .str _,.non=>true
 |.int _,.int _=>true | .bl _,.bl _=>true | .str _,.str _=>true | .byt _,.byt _=>true
 |.int _,.str _=>true | .str _,.int _=>true | .bl _,.str _=>true | .str _,.bl _=>true
 |_,_=>false
noncomputable def rEq:R2:=fun x y H Q=>scal x y=true∧Q (.bl (decide (x=y))) H
noncomputable def rNe:R2:=fun x y H Q=>scal x y=true∧Q (.bl (!decide (x=y))) H
theorem QjF {i j:Int}:decide (V.int i=V.int j)=(i == j):=by
 rw[Bool.eq_iff_iff]
 simp
theorem Ql2 {i j:Bool}:decide (V.bl i=V.bl j)=(i == j):=by
 rw[Bool.eq_iff_iff]
 simp
theorem QiN {i j:Str}:decide (V.str i=V.str j)=(i == j):=by
 rw[Bool.eq_iff_iff]
 simp
theorem Qjh {i j:Array UInt8}:decide (V.byt i=V.byt j)=(i.toList == j.toList):=by
 rw[Bool.eq_iff_iff]
 cases i
 cases j
 simp
section
variable {X:Cx}{a b c:Expr}{ta tb tc:TE}{pos:Pos}
theorem Qav {pins:List (Addr×Obj)}{σ:St}{H:Hp}{s:Shared}{Q:VK}{k k':Bool} (I:Inv X pins σ H s) (q:Q (.bl k) H) (e:k=k'):EP X pins σ Q (.bool k') s:=by
 subst e
 exact⟨.bl k,H,I,rfl,q⟩
theorem op_eq:OpR X (compareOp .Eq) rEq:=by
 intro pins s σ H x y v u Q I rx ry h
 obtain⟨hs,q⟩:=h
 cases x with
 |non =>
  cases rx
  cases y with
  |non=>cases ry;exact PySem.EqNone.eq_none_none (Qav I q (by simp))
  |bl j=>cases ry;exact PySem.EqNone.eq_none_bool (Qav I q (by simp))
  |int j=>obtain⟨t',rfl⟩:=ry;exact PySem.EqNone.eq_none_int (Qav I q (by simp))
  |str j=>obtain⟨t',rfl⟩:=ry;exact PySem.EqNone.eq_none_str (Qav I q (by simp))
  |_=>exact absurd (show false=true from hs) Bool.false_ne_true
 |bl i =>
  cases rx
  cases y with
  |non=>cases ry;exact PySem.EqNone.eq_bool_none (Qav I q (by simp))
  |bl j=>cases ry;exact eq_bool (Qav I q Ql2)
  |str j=>obtain⟨t',rfl⟩:=ry;exact PySem.EqMixed.eq_bool_str (Qav I q (by simp))
  |_=>exact absurd (show false=true from hs) Bool.false_ne_true
 |int i =>
  obtain⟨t,rfl⟩:=rx
  cases y with
  |non=>cases ry;exact PySem.EqNone.eq_int_none (Qav I q (by simp))
  |int j=>obtain⟨t',rfl⟩:=ry;exact eq_int (Qav I q QjF)
  |str j=>obtain⟨t',rfl⟩:=ry;exact PySem.EqMixed.eq_int_str (Qav I q (by simp))
  |_=>exact absurd (show false=true from hs) Bool.false_ne_true
 |str i =>
  obtain⟨t,rfl⟩:=rx
  cases y with
  |non=>cases ry;exact PySem.EqNone.eq_str_none (Qav I q (by simp))
  |bl j=>cases ry;exact PySem.EqMixed.eq_str_bool (Qav I q (by simp))
  |int j=>obtain⟨t',rfl⟩:=ry;exact PySem.EqMixed.eq_str_int (Qav I q (by simp))
  |str j=>obtain⟨t',rfl⟩:=ry;exact eq_str (Qav I q QiN)
  |_=>exact absurd (show false=true from hs) Bool.false_ne_true
 |byt i =>
  obtain⟨t,rfl⟩:=rx
  cases y with
  |byt j=>obtain⟨t',rfl⟩:=ry;exact PySem.W.eq_bytes (Qav I q Qjh)
  |_=>exact absurd (show false=true from hs) Bool.false_ne_true
 |_=>cases y<;>exact absurd (show false=true from hs) Bool.false_ne_true
theorem op_ne:OpR X (compareOp .NotEq) rNe:=by
 intro pins s σ H x y v u Q I rx ry h
 obtain⟨hs,q⟩:=h
 cases x with
 |non =>
  cases rx
  cases y with
  |non=>cases ry;exact PySem.EqNone.ne_none_none (Qav I q (by simp))
  |bl j=>cases ry;exact PySem.EqNone.ne_none_bool (Qav I q (by simp))
  |int j=>obtain⟨t',rfl⟩:=ry;exact PySem.EqNone.ne_none_int (Qav I q (by simp))
  |str j=>obtain⟨t',rfl⟩:=ry;exact PySem.EqNone.ne_none_str (Qav I q (by simp))
  |_=>exact absurd (show false=true from hs) Bool.false_ne_true
 |bl i =>
  cases rx
  cases y with
  |non=>cases ry;exact PySem.EqNone.ne_bool_none (Qav I q (by simp))
  |bl j=>cases ry;exact ne_bool (Qav I q (congrArg not Ql2))
  |str j=>obtain⟨t',rfl⟩:=ry;exact PySem.EqMixed.ne_bool_str (Qav I q (by simp))
  |_=>exact absurd (show false=true from hs) Bool.false_ne_true
 |int i =>
  obtain⟨t,rfl⟩:=rx
  cases y with
  |non=>cases ry;exact PySem.EqNone.ne_int_none (Qav I q (by simp))
  |int j=>obtain⟨t',rfl⟩:=ry;exact ne_int (Qav I q (congrArg not QjF))
  |str j=>obtain⟨t',rfl⟩:=ry;exact PySem.EqMixed.ne_int_str (Qav I q (by simp))
  |_=>exact absurd (show false=true from hs) Bool.false_ne_true
 |str i =>
  obtain⟨t,rfl⟩:=rx
  cases y with
  |non=>cases ry;exact PySem.EqNone.ne_str_none (Qav I q (by simp))
  |bl j=>cases ry;exact PySem.EqMixed.ne_str_bool (Qav I q (by simp))
  |int j=>obtain⟨t',rfl⟩:=ry;exact PySem.EqMixed.ne_str_int (Qav I q (by simp))
  |str j=>obtain⟨t',rfl⟩:=ry;exact ne_str (Qav I q (congrArg not QiN))
  |_=>exact absurd (show false=true from hs) Bool.false_ne_true
 |byt i =>
  obtain⟨t,rfl⟩:=rx
  cases y with
  |byt j=>obtain⟨t',rfl⟩:=ry;exact PySem.W.ne_bytes (Qav I q (congrArg not Qjh))
  |_=>exact absurd (show false=true from hs) Bool.false_ne_true
 |_=>cases y<;>exact absurd (show false=true from hs) Bool.false_ne_true
theorem op_lt:OpR X (compareOp .Lt) (rI0 fun i j=>.bl (decide (i<j))):=opB0 fun _ _ _ _ _ _ _ q=>lt_int q
theorem op_le:OpR X (compareOp .LtE) (rI0 fun i j=>.bl (decide (i≤j))):=opB0 fun _ _ _ _ _ _ _ q=>le_int q
theorem op_gt:OpR X (compareOp .Gt) (rI0 fun i j=>.bl (decide (j<i))):=opB0 fun _ _ _ _ _ _ _ q=>gt_int q
theorem op_ge:OpR X (compareOp .GtE) (rI0 fun i j=>.bl (decide (j≤i))):=opB0 fun _ _ _ _ _ _ _ q=>ge_int q
theorem op_isN:OpR X (compareOp .Is) (fun x y H Q=>y=.non∧Q (.bl (decide (x=.non))) H):=by
 intro pins s σ H x y v u Q I rx ry h
 obtain⟨rfl,q⟩:=h
 cases ry
 refine is_none_gen (Qav I q ?_)
 cases x<;>first
  |(cases rx;rfl)
  |(obtain⟨t,rfl⟩:=rx;rfl)
theorem Qm6:OpR X (compareOp .IsNot) (fun x y H Q=>y=.non∧Q (.bl (!decide (x=.non))) H):=by
 intro pins s σ H x y v u Q I rx ry h
 obtain⟨rfl,q⟩:=h
 cases ry
 refine isnot_none_gen (Qav I q ?_)
 cases x<;>first
  |(cases rx;rfl)
  |(obtain⟨t,rfl⟩:=rx;rfl)
theorem Qme {op:CmpOp}{r:R2} (ho:OpR X (compareOp op) r) (ha:PE X a ta) (hb:PE X b tb) (hm:behindInMarks op b=false):PE X (.Compare a [op] [b] pos) (tOp r ta tb):=by
 intro pins s σ H Q I h
 exact wpAny_Compare1 (binT ha hb I h fun v u s2 x y H2 I2 rx ry q=>ho pins s2 σ H2 x y v u Q I2 rx ry q) hm
noncomputable def tTest (t:TE):TT:=fun σ H Q=>t σ H fun x H'=>∃ k,x=.bl k∧Q k H'
theorem QlR {op:CmpOp}{r:R2} (ho:OpR X (compareOp op) r) (ha:PE X a ta) (hb:PE X b tb) (hm:behindInMarks op b=false):PT X (.Compare a [op] [b] pos) (tTest (tOp r ta tb)):=by
 intro pins s σ H Q I h
 refine wpAny_isTrue_Compare1 (thn (ha pins s σ H _ I h) fun v s1 ⟨x,H1,I1,r1,q1⟩=>thn (hb pins s1 σ H1 _ I1 q1) fun u s2 ⟨y,H2,I2,r2,q2⟩ =>
  thn (ho pins s2 σ H2 x y v u _ I2 r1 r2 q2) fun c s3 ⟨z,H3,I3,r3,k,e,q3⟩=>?_) hm
 subst e
 cases r3
 exact wpAny_truthy_bool ⟨H3,I3,q3⟩
theorem QdY:(sizeLine:Nat)<2 ^ 63:=by rw[sizeLine_eq];decide
theorem QhK:OpR X (binaryOp .Add) (fun x y H Q=>∃ i j,x=.str i∧y=.str j∧i.length+j.length≤sizeLine∧Q (.str (i++j)) H):=by
 intro pins s σ H x y v u Q I rx ry h
 obtain⟨i,j,rfl,rfl,hz,q⟩:=h
 obtain⟨t,rfl⟩:=rx
 obtain⟨t',rfl⟩:=ry
 exact add_str (fun t' tk=>⟨.str (i++j),H,I.tok _,⟨_,rfl⟩,q⟩) hz
theorem QhE {x:V}{us:List Value} (r:Vals [x] us):∃ u,us=[u]∧RelV x u:=by
 cases r with
 |cons r1 r2=>cases r2;exact⟨_,rfl,r1⟩
theorem QmJ {x y:V}{us:List Value} (r:Vals [x,y] us):∃ u w',us=[u,w']∧RelV x u∧RelV y w':=by
 cases r with
 |cons r1 r2 =>
  cases r2 with
  |cons r3 r4=>cases r4;exact⟨_,_,rfl,r1,r3⟩
theorem Qih (hc:X.calm=true):Qby X (.builtin "max") (fun xs H Q=>∃ i j,xs=[.int i,.int j]∧Q (.int (if j>i then j else i)) H):=by
 intro pins s σ H xs us Q I r h
 obtain⟨i,j,rfl,q⟩:=h
 obtain⟨u,w',rfl,⟨t,rfl⟩,⟨t',rfl⟩⟩:=QmJ r
 refine max_two_ints (I.ok.hd hc) fun h' tk k=>⟨_,H,I.kept k,?_,q⟩
 by_cases hj:j>i
 ·rw[if_pos hj,if_pos hj];exact⟨_,rfl⟩
 ·rw[if_neg hj,if_neg hj];exact⟨_,rfl⟩
theorem Qik (hc:X.calm=true):Qby X (.builtin "min") (fun xs H Q=>∃ i j,xs=[.int i,.int j]∧Q (.int (if j<i then j else i)) H):=by
 intro pins s σ H xs us Q I r h
 obtain⟨i,j,rfl,q⟩:=h
 obtain⟨u,w',rfl,⟨t,rfl⟩,⟨t',rfl⟩⟩:=QmJ r
 refine min_two_ints (I.ok.hd hc) fun h' tk k=>⟨_,H,I.kept k,?_,q⟩
 by_cases hj:j<i
 ·rw[if_pos hj,if_pos hj];exact⟨_,rfl⟩
 ·rw[if_neg hj,if_neg hj];exact⟨_,rfl⟩
theorem Qfe:Qby X (.type "int") (fun xs H Q=>(∃ i,xs=[.int i]∧Q (.int i) H)∨∃ k,xs=[.bl k]∧Q (.int (if k then 1 else 0)) H):=by
 intro pins s σ H xs us Q I r h
 rcases h with ⟨i,rfl,q⟩ | ⟨k,rfl,q⟩
 ·obtain⟨u,rfl,t,rfl⟩:=QhE r
  exact call_int_int ⟨.int i,H,I,⟨_,rfl⟩,q⟩
 ·obtain⟨u,rfl,r1⟩:=QhE r
  cases r1
  exact call_int_bool ⟨.int (if k then 1 else 0),H,I.tok _,⟨_,rfl⟩,q⟩
end
end L2
namespace L2
open PySem PySem.Spec PyProof.Rows
structure ObjM (h:Heap) (x dx C:Addr) (mA:Str→Option Value):Prop where
 obj:h.get? x=some (PySem.W.instObj C dx)
 ns:h.Ns1 dx mA
 ne:dx≠x
section
variable {prog:Program}{w:World}{A:Around}{E:Value→Shared→Prop}{s:Shared}{K:PySem.W.Frag}{x dx C f:Addr}{mA:Str→Option Value}{name:Str}{v:Value}
end
noncomputable def putF (f:Str) (v:V):List (Str×V)→List (Str×V)
 |[]=>[(f,v)]
 |(g,x)::r=>if g=f then (g,v)::r else (g,x)::putF f v r
theorem RelO.some_of {v:V}{o:Option Value} (r:RelO (some v) o):∃ u,o=some u∧RelV v u:=by
 cases o with
 |none=>exact(show False from r).elim
 |some u=>exact⟨u,rfl,r⟩
section
variable {P:Program}{w:World}{H H':Hp}{h h':Heap}{a C dx:Addr}{fs fs':List (Str×V)}
end
structure Cls (K:PySem.W.Frag) (C:Addr):Prop where
 pg:PySem.W.plainGet K C Str.empty=true
 hd:PySem.W.hasDictIn K C=true
 po:PySem.W.plainOver K C=true
 sa:PySem.W.findIn K (.ref C) "__setattr__"=some (some (.builtin "object.__setattr__"))
noncomputable def NoAttr (K:PySem.W.Frag) (C:Addr) (f:Str):Prop:=PySem.W.findIn K (.ref C) f=some none
structure Con (K:PySem.W.Frag) (C:Addr) (f:Str) (v:V) (u:Value):Prop where
 at_:PySem.W.findIn K (.ref C) f=some (some u)
 rel:RelV v u
 get:PySem.W.specialIn K u "__get__"=some none
 cp:PySem.W.copiedNames.contains f=false
structure Meth (K:PySem.W.Frag) (C:Addr) (m:Str) (f:Addr):Prop where
 at_:PySem.W.findIn K (.ref C) m=some (some (.ref f))
 fn:PySem.W.isFn K (.ref f)=true
 kp:PySem.W.keepIn K (.ref f)=true
section
variable {X:Cx}{pins:List (Addr×Obj)}{σ:St}{H:Hp}{s:Shared}{a C dx:Addr}{fs:List (Str×V)}{f:Str}{v:V}{A:Around}{E:Value→Shared→Prop}
end
section
variable {X:Cx}{o e value:Expr}{f:Str}{pos pos' tpos:Pos}{ta tv:TE}
end
section
variable {X:Cx}{pins:List (Addr×Obj)}{σ:St}{H:Hp}{s:Shared}{A:Around}{E:Value→Shared→Prop}{Q:Value→Shared→Prop}{c:Value}{b:Bool}
inductive TyOf (K:PySem.W.Frag) (H:Hp):V→Value→Prop where
 |non:TyOf K H .non (.type "NoneType")
 |bl (x:Bool):TyOf K H (.bl x) (.type "bool")
 |int (i:Int):TyOf K H (.int i) (.type "int")
 |str (x:Str):TyOf K H (.str x) (.type "str")
 |flt (x:UInt64):TyOf K H (.flt x) (.type "float")
 |lst {a:Addr}{xs:List V} (e:H a=some (.lst xs)):TyOf K H (.ref a) (.type "list")
 |frz {a:Addr}{o:Obj}{xs:List V} (e:H a=some (.frz o (.lst xs))):TyOf K H (.ref a) (.type "list")
 |tup {a:Addr}{xs:List V} (e:H a=some (.tup xs)):TyOf K H (.ref a) (.type "tuple")
 |dK {a:Addr}{kvs:List (Key×V)} (e:H a=some (.dK kvs)):TyOf K H (.ref a) (.type "dict")
 |dT {a:Addr}{kvs:List (List Key×V)} (e:H a=some (.dT kvs)):TyOf K H (.ref a) (.type "dict")
 |ins {a C dx:Addr}{fs:List (Str×V)} (e:H a=some (.ins C dx fs)) (cl:Cls K C) (ha:PySem.W.findIn K (.ref C) "__class__"=some (some (.builtin "object.__class__")))
  (hn:PySem.W.specialIn K (.builtin "object.__class__") "__get__"=some (some (.builtin "getset_descriptor.__get__"))) (htk:PySem.W.takesIn K (.builtin "object.__class__")=some true)
  (hm:PySem.W.mroIn K C (.type "object")=some true):TyOf K H (.ref a) (.ref C)
end
end L2
namespace L2
open PySem PySem.Spec PyProof.Rows
structure Room (k:Nat) (A:Around):Prop where
 hd:A.handled=none
 dp:A.depth+3*k+5<recursionLimit
 un:A.units+16*k+200<cLine
theorem Room.mono {j k:Nat}{A:Around} (r:Room k A) (h:j≤k):Room j A:=⟨r.hd,by have:=r.dp;omega,by have:=r.un;omega⟩
theorem Room.deeper {k:Nat}{A:Around} (r:Room (k+1) A) (env:Env):Room k (A.deeper env) :=
 ⟨r.hd,by have:=r.dp;show A.depth+1+3*k+5<_;omega,by have:=r.un;show A.units+3+16*k+200<_;omega⟩
theorem Room.depth {k:Nat}{A:Around} (r:Room k A):A.depth<recursionLimit:=by have:=r.dp;omega
theorem Room.units {k:Nat}{A:Around} (r:Room k A):A.units+64<cLine:=by have:=r.un;omega
noncomputable def tNil:TA:=fun _ H Q=>Q [] H
noncomputable def tCons (ta:TE) (tr:TA):TA:=fun σ H Q=>ta σ H fun x H1=>tr σ H1 fun xs H2=>Q (x::xs) H2
section
variable {X:Cx}{e:Expr}{es:List Expr}{te:TE}{t:TA}{pos:Pos}
theorem pa_nil:PA X [] tNil:=fun _ _ _ _ H Q I h=>Calls.spliced_nil ⟨[],H,I,.nil,h⟩
theorem Qbo (ha:PE X e te) (hr:PA X es t) (hs:starEach (e::es) X.env=(false,eval e X.env)::starEach es X.env:=by rfl):PA X (e::es) (tCons te t):=by
 intro pos pins s σ H Q I h
 rw[hs]
 show wpAny _ _ (spliced ((false,eval e X.env)::backTo pos (starEach es X.env))) _ _ s
 refine Calls.spliced_cons (thn (ha pins s σ H _ I h) fun u s1 ⟨x,H1,I1,r1,q1⟩=>?_)
 exact thn (hr pos pins s1 σ H1 _ I1 q1) fun us s2 ⟨xs,H2,I2,r2,q2⟩=>⟨x::xs,H2,I2,.cons r1 r2,q2⟩
noncomputable def tTup (t:TA):TE:=fun σ H Q=>t σ H fun xs H1=>xs.length≤sizeLine∧∀ p,H1 p=none→Q (.ref p) (upd H1 p (.tup xs))
noncomputable def tLst (t:TA):TE:=fun σ H Q=>t σ H fun xs H1=>xs.length≤sizeLine∧∀ p,H1 p=none→Q (.ref p) (upd H1 p (.lst xs))
theorem pe_tup {x1} (h:PA X es t):PE X (.Tuple es x1 pos) (tTup t):=by
 intro pins s σ H Q I hq
 refine wpAny_Tuple_spliced (thn (h pos pins s σ H _ I hq) fun us s1 ⟨xs,H1,I1,r,z,q⟩=>⟨by rw[← r.length];exact z,?_⟩)
 have hf:H1 s1.heap.objs.size=none:=I1.hok.fresh (Nat.le_refl _)
 refine⟨.ref s1.heap.objs.size,upd H1 s1.heap.objs.size (.tup xs),I1.laid (t':=s1.toks) (fun b u e=>Heap.get?_push_of_some _ e) (Nat.le_refl _) ?_,rfl,q _ hf⟩
 exact⟨z,us,r,⟨_,Heap.get?_push_size _ rfl,rfl,_,rfl⟩⟩
theorem Qlr (h:PA X es t):PE X (.List es pos) (tLst t):=by
 intro pins s σ H Q I hq
 refine wpAny_List_spliced (thn (h pos pins s σ H _ I hq) fun us s1 ⟨xs,H1,I1,r,z,q⟩=>⟨by rw[← r.length];exact z,?_⟩)
 have hf:H1 s1.heap.objs.size=none:=I1.hok.fresh (Nat.le_refl _)
 refine⟨.ref s1.heap.objs.size,upd H1 s1.heap.objs.size (.lst xs),I1.laid (t':=s1.toks) (fun b u e=>Heap.get?_push_of_some _ e) (Nat.le_refl _) ?_,rfl,q _ hf⟩
 exact⟨z,us,0,r,Heap.get?_push_size _ rfl⟩
end
noncomputable abbrev Sp:=List V→Hp→VK→XK→Prop
noncomputable abbrev CXT:=List Env→Hp→Shared→XK→Value→Shared→Prop
structure Env0 (P:Program) (w:World) (K:PySem.W.Frag) (mg:Str→Option Value) (base:Heap) (A:Around) (outer:List Env) (s:Shared) (H:Hp):Prop where
 frames:A.frames=some outer
 mod:Mod K mg base
 bs:∀ b o,base.get? b=some o→s.heap.get? b=some o∧H b=none
 bsz:base.objs.size≤s.heap.objs.size
 funs:s.heap.FunFrames base outer
 frf:∀ b∈frs outer,H b=none
 hok:HOk P w H s.heap
 bare:AllBare s.gens
noncomputable def CE (outer:List Env) (P:Program) (w:World) (H:Hp) (s:Shared) (Q:VK) (u:Value) (s':Shared):Prop :=
 ∃ v H',s'.os=s.os∧AllBare s'.gens∧Un (frs outer) [] H H' s.heap s'.heap∧HOk P w H' s'.heap∧RelV v u∧Q v H'
noncomputable def CR (CX:CXT) (outer:List Env) (P:Program) (w:World) (H:Hp) (s:Shared) (Q:VK) (E:XK) (r:Result) (s':Shared):Prop :=
 match r with
 |.ok (.ret u)=>CE outer P w H s Q u s'
 |.ok _=>False
 |.error e=>CX outer H s E e s'
structure FnOk (P:Program) (w:World) (K:PySem.W.Frag) (mg:Str→Option Value) (base:Heap) (CX:CXT) (k:Nat) (f:Addr) (fd:FuncData) (ps:List Str) (sp:Sp):Prop where
 len:∀ vs H Q E,sp vs H Q E→vs.length=ps.length
 run:∀ (A:Around) (outer:List Env) (s:Shared) (H:Hp) (args:Args) (us:List Value) (vs:List V) (Q:VK) (E:XK),Room k A→Env0 P w K mg base A outer s H→BindsTo s fd args (ps.zip us)→Vals vs us→sp vs H Q E →
  codeAny (model P w) A (.call (.ref f) args) (CR CX outer P w H s Q E) s
theorem FnOk.imp {P:Program}{w:World}{K:PySem.W.Frag}{mg:Str→Option Value}{base:Heap}{CX:CXT}{k:Nat}{f:Addr}{fd:FuncData}{ps:List Str}{sp sp':Sp} (F:FnOk P w K mg base CX k f fd ps sp)
  (h:∀ vs H Q E,sp' vs H Q E→sp vs H Q E):FnOk P w K mg base CX k f fd ps sp' :=
 ⟨fun vs H Q E q=>F.len vs H Q E (h _ _ _ _ q),fun A outer s H args us vs Q E hr he hb hv hs=>F.run A outer s H args us vs Q E hr he hb hv (h _ _ _ _ hs)⟩
section
variable {X:Cx}{pins:List (Addr×Obj)}{σ:St}{H:Hp}{s s':Shared}
theorem Inv.env0 (I:Inv X pins σ H s):Env0 X.prog X.w X.K X.mg X.base X.A X.stack s H :=
 ⟨I.ok.frames,I.ok.mod,I.bs,Nat.le_trans I.ok.bsz I.sz,I.stack,I.stkFree,I.hok,I.bare⟩
theorem Inv.after {Q:VK}{u:Value} (I:Inv X pins σ H s) (h:CE X.stack X.prog X.w H s Q u s'):EP X pins σ Q u s':=by
 obtain⟨v,H',os,bare,un,hok,r,q⟩:=h
 obtain⟨hh,g,d,t,os'⟩:=s'
 obtain rfl:os'=s.os:=os
 exact⟨v,H',I.call (h':=hh) (g':=g) (d':=d) (t':=t) (ch:=[]) un hok bare (fun b z=>absurd z (by simp)),r,q⟩
end
noncomputable def tCall (sp:Sp) (dvs:List V) (E:XK) (t:TA):TE:=fun σ H Q=>t σ H fun vs H1=>sp (vs++dvs) H1 Q E
noncomputable def Binds (K:PySem.W.Frag) (fd:FuncData) (ps:List Str) (ds:List Value):Prop :=
 ∀ (s:Shared) (us:List Value),K.In s.heap→(us++ds).length=ps.length→BindsTo s fd ⟨us,[]⟩ (ps.zip (us++ds))
theorem Binds.all {K:PySem.W.Frag}{fd:FuncData}{ps:List Str} (h:∀ us:List Value,us.length=ps.length→bindArgs fd ⟨us,[]⟩=pure (ps.zip us)):Binds K fd ps []:=fun s us _ hl=>by
 rw[List.append_nil]at hl ⊢
 exact .of_eq (h us hl)
noncomputable def QhR (CX:CXT) (X:Cx) (E:XK):Prop:=∀ (pins:List (Addr×Obj)) (σ:St) (H:Hp) (s:Shared) (e:Value) (s':Shared),Inv X pins σ H s→CX X.stack H s E e s'→X.xe e s'
section
variable {X:Cx}{CX:CXT}{k:Nat}{f C:Addr}{fd:FuncData}{ps:List Str}{sp:Sp}{dvs:List V}{ds:List Value}{E:XK}{x m:Str}{p pos apos:Pos}{e o:Expr}{es:List Expr}{ta:TE}{t:TA}
theorem run_fn {pins:List (Addr×Obj)}{σ:St}{H:Hp}{s:Shared}{Q:VK}{us:List Value}{vs:List V} (F:FnOk X.prog X.w X.K X.mg X.base CX k f fd ps sp) (hr:Room k X.A) (hb:Binds X.K fd ps ds) (hd:Vals dvs ds) (hx:QhR CX X E)
  (I:Inv X pins σ H s) (r:Vals vs us) (h:sp (vs++dvs) H Q E):wpAny (model X.prog X.w) X.A (call (.ref f) us) (EP X pins σ Q) X.xe s:=by
 have r2:Vals (vs++dvs) (us++ds):=r.append hd
 have hl:(us++ds).length=ps.length:=by rw[← r2.length];exact F.len _ _ _ _ h
 refine wpAny_call (codeAny_mono (F.run X.A X.stack s H ⟨us,[]⟩ (us++ds) (vs++dvs) Q E hr I.env0 (hb s us I.kIn hl) r2 h) fun r s' hq=>?_)
 cases r with
 |error e=>exact hx pins σ H s e s' I hq
 |ok fl =>
  cases fl with
  |ret u=>exact I.after hq
  |next=>exact False.elim hq
  |brk=>exact False.elim hq
  |cont=>exact False.elim hq
theorem QmH (F:FnOk X.prog X.w X.K X.mg X.base CX k f fd ps sp) (hr:Room k X.A) (hg:Gl X x) (hm:X.mg x=some (.ref f)) (hk:PySem.W.keepIn X.K (.ref f)=true) (hb:Binds X.K fd ps ds) (hd:Vals dvs ds) (hx:QhR CX X E)
  (ha:PA X (e::es) t) (hdb:(x == ("__debug__":Str))=false:=by decide) (he:starEach (e::es) X.env=(false,eval e X.env)::starEach es X.env:=by rfl) (hpl:(backTo pos (starEach es X.env)).any (·.1)=false:=by rfl) :
  PE X (.Call (.Name x p) (e::es) [] pos) (tCall sp dvs E t):=by
 intro pins s σ H Q I h
 refine wpAny_Call_Name_kw (QiO I hg hm ?_ hdb)
 refine PySem.W.callWith_K (h₀:=X.base) I.ok.mod.kin hk (thn (ha pos pins s σ H _ I h) fun us s1 ⟨vs,H1,I1,r,q⟩=>⟨I1.kIn,?_⟩) he hpl
 exact run_fn F hr hb hd hx I1 r q
structure Mk (K:PySem.W.Frag) (C f:Addr):Prop where
 makes:PySem.W.makesIn K C=true
 init:PySem.W.findIn K (.ref C) "__init__"=some (some (.ref f))
 fn:PySem.W.isFn K (.ref f)=true
 kp:PySem.W.keepIn K (.ref C)=true
end
section
variable {X:Cx}{CX:CXT}{k:Nat}{f C:Addr}{fd:FuncData}{ps ks:List Str}{sp:Sp}{E:XK}{x m:Str}{p pos apos kpos:Pos}{e o:Expr}{es:List Expr}{kws:List Keyword}{te ta:TE}{t tk:TA}{nm:Option Str}
structure KBinds (K:PySem.W.Frag) (fd:FuncData) (ps ks:List Str) (g:List Value→List Value→List Value) (gV:List V→List V→List V):Prop where
 to:∀ (s:Shared) (us ws:List Value),K.In s.heap→(g us ws).length=ps.length→BindsTo s fd ⟨us,ks.zip ws⟩ (ps.zip (g us ws))
 rel:∀ {vs:List V}{us:List Value}{zs:List V}{ws:List Value},Vals vs us→Vals zs ws→Vals (gV vs zs) (g us ws)
variable {g:List Value→List Value→List Value}{gV:List V→List V→List V}
end
structure FnScope (N P:List Str) (sc:Scope):Prop where
 kind:sc.kind=.function
 co:sc.isCoroutine=false
 gen:sc.isGenerator=false
 nd:N.Nodup
 pre:N.take P.length=P
 par:∀ x∈P,sc.names.lookup x=some .local∨sc.names.lookup x=some .cell
 nofree:∀ y∈sc.names,y.2≠.free
theorem Qfd {kindOf:Str→Option NameKind}{x:Str}:∀ {binds:List (Str×Value)}{m:Str→Option Value},(∀ v,(x,v)∉binds)→bindL kindOf binds m x=m x
 |[],_,_=>rfl
 |(n,v)::r,m,h=>by
  unfold bindL
  rw[Qfd fun w hw=>h w (List.mem_cons_of_mem _ hw)]
  split
  ·have:x≠n:=by rintro rfl;exact h v List.mem_cons_self
   simp[this]
  ·rfl
theorem QeX {kindOf:Str→Option NameKind}{x:Str}:∀ {binds:List (Str×Value)}{m:Str→Option Value},(∀ v,(x,v)∉binds)→bindC kindOf binds m x=m x
 |[],_,_=>rfl
 |(n,v)::r,m,h=>by
  unfold bindC
  rw[QeX fun w hw=>h w (List.mem_cons_of_mem _ hw)]
  split
  ·rfl
  ·have:x≠n:=by rintro rfl;exact h v List.mem_cons_self
   simp[this]
theorem Qf9 {kindOf:Str→Option NameKind}{x:Str}{v:Value}:∀ {P:List Str}{vs:List Value}{i:Nat}{m:Str→Option Value},P.Nodup→P[i]?=some x→vs[i]?=some v→kindOf x=some .local →
  bindL kindOf (P.zip vs) m x=some v
 |[],_,_,_,_,h,_,_=>by simp at h
 |_::_,[],_,_,_,_,h,_=>by simp at h
 |p::P,w::vs,0,m,nd,h1,h2,hk=>by
  simp at h1 h2;subst h1;subst h2
  show bindL kindOf ((p,w)::P.zip vs) m p=_
  unfold bindL
  rw[Qfd fun v hv=>(List.nodup_cons.mp nd).1 (List.of_mem_zip hv).1,if_pos hk]
  simp
 |p::P,w::vs,i+1,m,nd,h1,h2,hk=>by
  show bindL kindOf ((p,w)::P.zip vs) m x=_
  unfold bindL
  exact Qf9 (i:=i) (List.nodup_cons.mp nd).2 (by simpa using h1) (by simpa using h2) hk
theorem QfG {kindOf:Str→Option NameKind}{x:Str}{v:Value}:∀ {P:List Str}{vs:List Value}{i:Nat}{m:Str→Option Value},P.Nodup→P[i]?=some x→vs[i]?=some v→kindOf x≠some .local →
  bindC kindOf (P.zip vs) m x=some v
 |[],_,_,_,_,h,_,_=>by simp at h
 |_::_,[],_,_,_,_,h,_=>by simp at h
 |p::P,w::vs,0,m,nd,h1,h2,hk=>by
  simp at h1 h2;subst h1;subst h2
  show bindC kindOf ((p,w)::P.zip vs) m p=_
  unfold bindC
  rw[QeX fun v hv=>(List.nodup_cons.mp nd).1 (List.of_mem_zip hv).1,if_neg hk]
  simp
 |p::P,w::vs,i+1,m,nd,h1,h2,hk=>by
  show bindC kindOf ((p,w)::P.zip vs) m x=_
  unfold bindC
  exact QfG (i:=i) (List.nodup_cons.mp nd).2 (by simpa using h1) (by simpa using h2) hk
noncomputable def start (N:List Str) (vs:List V):St:=vs.map some++List.replicate (N.length-vs.length) none
noncomputable def Qkb (CX:CXT) (P:Program) (w:World) (K:PySem.W.Frag) (mg:Str→Option Value) (base:Heap) (N:List Str) (qual:Str) (scope:Scope) (f:Addr) (cd:Value) (A:Around) (outer:List Env) (s:Shared) (H:Hp) (E:XK):Cx where
 prog:=P
 w:=w
 K:=K
 mg:=mg
 base:=base
 A:=A.deeper (envOfC qual scope s.heap.objs.size f cd)
 N:=N
 s₀:=s
 H₀:=H
 env:=envOfC qual scope s.heap.objs.size f cd
 outer:=outer
 stack:=envOfC qual scope s.heap.objs.size f cd::outer
 ex:=[]
 calm:=true
 fn:=fun _=>true
 pn:=[]
 xe:=fun e s'=>wpAny (model P w) (A.deeper (envOfC qual scope s.heap.objs.size f cd)) (leaving (envOfC qual scope s.heap.objs.size f cd) e) (fun _ s''=>CX outer H s E e s'') (fun e' s''=>CX outer H s E e' s'') s'
theorem Qg4 {sc:Scope}{n:Nat}{x:Str} (h:sc.names.lookup x=some .cell):∃ c,(cellsFrom n sc.names []).lookup x=some c:=by
 have q:=PySem.W.cellsFrom_some sc.names n [] (.inl h)
 exact Option.isSome_iff_exists.mp q
theorem Qis {CX:CXT}{P:Program}{w:World}{K:PySem.W.Frag}{mg:Str→Option Value}{base:Heap}{N ps:List Str}{qual:Str}{scope:Scope}{f:Addr}{cd:Value}{A:Around}{outer:List Env}{s s1:Shared}{H:Hp}{E:XK}{us:List Value}{vs:List V}
  (S:FnScope N ps scope) (hd:A.handled=none) (e0:Env0 P w K mg base A outer s H) (hl:vs.length=ps.length) (r:Vals vs us)
  (x:InCallC s s.heap.objs.size (bindL (envOfC qual scope s.heap.objs.size f cd).kindOf (ps.zip us) fun _=>none) (cellsFrom (s.heap.objs.size+1) scope.names []) (bindC (envOfC qual scope s.heap.objs.size f cd).kindOf (ps.zip us) fun _=>none) s1) :
  Inv (Qkb CX P w K mg base N qual scope f cd A outer s H E) [] (start N vs) H s1:=by
 have hpl:ps.length≤N.length:=by have:=congrArg List.length S.pre;rw[List.length_take]at this;omega
 obtain⟨h1,tk,rfl,hk⟩:=x.done
 have noA:∀ b:Addr,b∉(Qkb CX P w K mg base N qual scope f cd A outer s H E).ex:=fun b z=>absurd (show b∈([]:List Addr) from z) (by simp)
 refine⟨⟨e0.mod,S.kind,rfl,rfl,Nat.le_refl _,fun y z c h1 h2=>?_,fun y hy=>?_,fun y c _ h=>?_,fun _=>hd,Around.frames_deeper e0.frames,.inr ⟨rfl,rfl⟩,fun b z=>absurd z (noA b),e0.bs,e0.bsz,fun b _ _=>noA b,fun b z=>absurd z (noA b),e0.funs,e0.frf⟩,
  rfl,e0.bare,Un.kept hk,⟨_,x.toInCall.ns,fun i y v h1 h2 h3=>?_⟩,fun y c h=>⟨_,x.cell y c h⟩,e0.hok.fresh (Nat.le_refl _),fun y c h=>?_,fun p hp=>absurd (show p∈([]:List (Addr×Obj)) from hp) (by simp),e0.hok.kept hk,?_⟩
 ·exact name_of_addr x.apart (PySem.mem_of_lookup h1) (PySem.mem_of_lookup h2)
 ·have hy:scope.names.lookup y=some .cell∨scope.names.lookup y=some .free:=hy
  rcases hy with hy | hy
  ·exact Qg4 hy
  ·exact absurd rfl (S.nofree _ (PySem.mem_of_lookup hy))
 ·exact Nat.le_of_lt (x.above y c (PySem.mem_of_lookup h))
 ·have hi:i<vs.length:=by
   unfold start at h2
   by_cases hi:i<vs.length
   ·exact hi
   ·rw[List.getElem?_append_right (by simpa using hi)]at h2
    rw[List.getElem?_replicate]at h2
    split at h2<;>cases h2
  have ha:vs[i]?=some v:=by
   unfold start at h2
   rw[List.getElem?_append_left (by simpa using hi),List.getElem?_map]at h2
   cases e:vs[i]? with
   |none=>rw[e]at h2;cases h2
   |some a=>rw[e]at h2;cases h2;rfl
  obtain⟨u,hu,rv⟩:=r.get ha
  have hp:ps[i]?=some y:=by
   rw[← S.pre,List.getElem?_take_of_lt (by omega)];exact h1
  have ndP:ps.Nodup:=by rw[← S.pre];exact S.nd.sublist (List.take_sublist _ _)
  refine⟨u,rv,?_⟩
  rcases S.par y (List.mem_of_getElem? hp) with k | k
  ·exact .inl ⟨k,Qf9 ndP hp hu k⟩
  ·obtain⟨c,e⟩:=Qg4 (n:=s.heap.objs.size+1) k
   refine .inr ⟨.inl k,c,e,?_⟩
   have q:=x.cell y c e
   rw[QfG ndP hp hu (by show scope.names.lookup y≠_;rw[k];decide)]at q
   exact q
 ·exact e0.hok.fresh (Nat.le_of_lt (x.above y c (PySem.mem_of_lookup h)))
 ·unfold start
  show _=N.length
  rw[List.length_append,List.length_map,List.length_replicate]
  omega
theorem fn_of {CX:CXT}{P:Program}{w:World}{K:PySem.W.Frag}{mg:Str→Option Value}{base:Heap}{k:Nat}{f:Addr}{name qual:Str}{params:Arguments}{body:List Stmt}{scope:Scope}{dV kV doc pm cdv ct oc:Value}{an od:Option Addr}
  {osl:Array (Option Value)}{N ps:List Str}{sp:Sp} (lk:K.lookup f=some ⟨oc,od,.func (PySem.W.fnOf name qual params body scope dV kV doc pm an cdv ct),osl⟩) (hcd:PySem.W.codeIn K cdv qual=true) (S:FnScope N ps scope)
  (len:∀ vs H Q E,sp vs H Q E→vs.length=ps.length)
  (hbody:∀ (A:Around) (outer:List Env) (s:Shared) (H:Hp) (vs:List V) (Q:VK) (E:XK),Room k (A.deeper (envOfC qual scope s.heap.objs.size f cdv))→sp vs H Q E →
   ∃ t,PSs (Qkb CX P w K mg base N qual scope f cdv A outer s H E) body t∧t { nx:=fun _ H'=>Q .non H',rt:=Q } (start N vs) H) :
  FnOk P w K mg base CX (k+1) f (PySem.W.fnOf name qual params body scope dV kV doc pm an cdv ct) ps sp:=by
 refine⟨len,fun A outer s H args us vs Q E hr e0 hb r hsp=>?_⟩
 have hl:=len _ _ _ _ hsp
 have KX:K.In s.heap:=e0.mod.kin.keeps fun b o e=>(e0.bs b o e).1
 have lim:s.heap.NoLimit:=e0.mod.nolimit.keeps fun b o e=>(e0.bs b o e).1
 have hkind:∀ y∈ps.zip us,scope.names.lookup y.1=some .local∨(scope.names.lookup y.1=some .cell∧((cellsFrom (s.heap.objs.size+1) scope.names []).lookup y.1).isSome=true):=fun ⟨n,v⟩ hy=>by
  rcases S.par n (List.of_mem_zip hy).1 with q | q
  ·exact .inl q
  ·exact .inr ⟨q,PySem.W.cellsFrom_some _ _ _ (.inl q)⟩
 refine codeAny_call_function hr.depth (KX _ _ lk) rfl S.co S.gen rfl (PySem.W.codeRec_of KX hcd) (hb _ _ _ _ ?_)
 refine wpAny_newFunctionEnv_cells S.kind hkind fun env he s1 x=>?_
 subst he
 refine⟨lim.keeps x.toInCall.keep,codeAny_func ?_⟩
 obtain⟨t,ht,hq⟩:=hbody A outer s H vs Q E (hr.deeper _) hsp
 have I:Inv (Qkb CX P w K mg base N qual scope f cdv A outer s H E) [] (start N vs) H s1:=Qis S hr.hd e0 hl r x
 refine wpAny_mono (ht [] s1 (start N vs) H _ I hq) (fun fl s' hs=>?_) fun e s' hs=>hs
 have fin:∀ {σ':St}{H':Hp}{v:V}{u:Value},Inv (Qkb CX P w K mg base N qual scope f cdv A outer s H E) [] σ' H' s'→RelV v u→Q v H'→CE outer P w H s Q u s' :=
  fun {σ' H' v u} J rv q=>⟨v,H',J.os,J.bare,J.base,J.hok,rv,q⟩
 cases fl with
 |ret u =>
  obtain⟨v,σ',H',J,rv,q⟩:=hs
  exact fin J rv q
 |next =>
  obtain⟨σ',H',J,q⟩:=hs
  exact fin (v:=V.non) (u:=Value.none) J rfl q
 |brk =>
  obtain⟨_,_,_,q⟩:=hs
  exact False.elim q
 |cont =>
  obtain⟨_,_,_,q⟩:=hs
  exact False.elim q
end L2
namespace L2
open PySem PySem.Spec PyProof.Rows
section
variable {X:Cx}{x:Str}{p pos:Pos}{e:Expr}{es:List Expr}{t:TA}{id T:String}{r:List V→Hp→VK→Prop}
noncomputable def tCB (r:List V→Hp→VK→Prop) (t:TA):TE:=fun σ H Q=>t σ H fun vs H1=>r vs H1 Q
theorem Qb8 (hc:Qby X (.builtin id) r) (hg:Gl X x) (hm:X.mg x=none) (hv:bootBuiltins x=some (.builtin id)) (ha:PA X (e::es) t) (hn:x≠"__name__":=by decide) (hdb:(x == ("__debug__":Str))=false:=by decide)
  (he:starEach (e::es) X.env=(false,eval e X.env)::starEach es X.env:=by rfl) (hpl:(backTo pos (starEach es X.env)).any (·.1)=false:=by rfl):PE X (.Call (.Name x p) (e::es) [] pos) (tCB r t):=by
 intro pins s σ H Q I h
 refine wpAny_Call_Name_kw (Qd1 I hg hm hv ?_ hn hdb)
 exact PyProof.Rows.callWith_builtin1 (thn (ha pos pins s σ H _ I h) fun us s1 ⟨vs,H1,I1,r1,q1⟩=>hc pins s1 σ H1 vs us Q I1 r1 q1) he hpl
theorem QbN (hc:Qby X (.type T) r) (hg:Gl X x) (hm:X.mg x=none) (hv:bootBuiltins x=some (.type T)) (ha:PA X (e::es) t) (hn:x≠"__name__":=by decide) (hdb:(x == ("__debug__":Str))=false:=by decide)
  (he:starEach (e::es) X.env=(false,eval e X.env)::starEach es X.env:=by rfl) (hpl:(backTo pos (starEach es X.env)).any (·.1)=false:=by rfl):PE X (.Call (.Name x p) (e::es) [] pos) (tCB r t):=by
 intro pins s σ H Q I h
 refine wpAny_Call_Name_kw (Qd1 I hg hm hv ?_ hn hdb)
 exact PyProof.Rows.callWith_type1 (thn (ha pos pins s σ H _ I h) fun us s1 ⟨vs,H1,I1,r1,q1⟩=>hc pins s1 σ H1 vs us Q I1 r1 q1) he hpl
end
end L2
namespace HT
open PySem PyProof.Rows
noncomputable def lexLt:List Int→List Int→Bool
 |[],[]=>false
 |[],_::_=>true
 |_::_,[]=>false
 |x::xs,y::ys=>if x=y then lexLt xs ys else decide (x<y)
section
open PySem.SeqAt
open PySem.AutoSeq1 (wpAny_loadPart')
open PySem.MeetsSeq PySem.MeetsSeq2 PySem.MeetsSeq3
end
section
variable {prog:Program}{w:World}{A:Around}{E:Value→Shared→Prop}{s:Shared}
theorem cat_tup {t b:Addr}{vs ws:List Value}{Q:Value→Shared→Prop} (ht:IsTup s.heap t vs.toArray) (hb:IsTup s.heap b ws.toArray) (hv:vs≠[])
  (h1:ws=[]→Q (.ref t) s) (h2:ws≠[]→Q (.ref s.heap.objs.size) { s with heap:=s.heap.push { cls:=.type "tuple",data:=.seq (vs++ws).toArray } })
  (hsz:vs.length+ws.length≤sizeLine):wpAny (model prog w) A (binaryOp .Add (.ref t) (.ref b)) Q E s:=by
 obtain⟨⟨cls,dd,data,sl⟩,ho,hc,n,hd⟩:=id ht
 obtain⟨⟨cls2,dd2,data2,sl2⟩,ho2,hc2,n2,hd2⟩:=id hb
 simp only at hc hd hc2 hd2
 subst hc hd hc2 hd2
 have e:vs.toArray++ws.toArray=(vs++ws).toArray:=by simp
 by_cases hw:ws=[]
 ·exact concat_meets ⟨_,ho,rfl⟩ ⟨_,ho2,rfl⟩ noFill_tuple_add seq_tuple_add PySem.F.slot_tuple_add PySem.F.entry_tuple_add (PySem.F.args_tuple_add_2 _ _)
   (tuple_addW1 t b vs.toArray ws.toArray n n2 dd dd2 sl sl2 (by simpa using hv) (by simp[hw])) ⟨ho,ho2,h1 hw⟩
 ·refine concat_meets ⟨_,ho,rfl⟩ ⟨_,ho2,rfl⟩ noFill_tuple_add seq_tuple_add PySem.F.slot_tuple_add PySem.F.entry_tuple_add (PySem.F.args_tuple_add_2 _ _)
   (tuple_addW2 t b vs.toArray ws.toArray n n2 dd dd2 sl sl2 (by simpa using hv) (by simpa using hw) (by rw[List.size_toArray,List.size_toArray];exact hsz)) ⟨ho,ho2,?_⟩
  rw[e]
  exact h2 hw
noncomputable def sIx (n d:Nat):Option Int→Nat
 |none=>d
 |some v=>if v<0 then (v+(n:Int)).toNat else min v.toNat n
theorem sIx_none (n d:Nat):sIx n d none=d:=rfl
theorem sIx_nat (n d k:Nat):sIx n d (some (k:Int))=min k n:=by
 show (if (k:Int)<0 then ((k:Int)+(n:Int)).toNat else min (k:Int).toNat n)=min k n
 rw[if_neg (by omega),Int.toNat_natCast]
theorem sIx_le (n d:Nat) (hd:d≤n) (o:Option Int):sIx n d o≤n:=by
 cases o with
 |none=>exact hd
 |some v =>
  show (if v<0 then (v+(n:Int)).toNat else min v.toNat n)≤n
  by_cases hv:v<0
  ·rw[if_pos hv];omega
  ·rw[if_neg hv];exact Nat.min_le_right _ _
theorem Qju (v:Int) (n d:Nat):(if v<0 then max (v+(n:Int)) 0 else min v (n:Int))=((sIx n d (some v):Nat):Int):=by
 show (if v<0 then max (v+(n:Int)) 0 else min v (n:Int))=(((if v<0 then (v+(n:Int)).toNat else min v.toNat n):Nat):Int)
 by_cases hv:v<0
 ·simp only[if_pos hv];omega
 ·simp only[if_neg hv];omega
theorem Qhy (lo hi:Option Int) (n:Nat):Builtin.Slice.sliceAdjust lo hi 1 (n:Int)=(((sIx n 0 lo:Nat):Int),((sIx n n hi:Nat):Int)):=by
 have h1:¬ ((1:Int)<0):=by omega
 unfold Builtin.Slice.sliceAdjust
 simp only[h1,if_false]
 refine Prod.ext ?_ ?_
 ·cases lo with
  |none=>rfl
  |some v=>exact Qju v n 0
 ·cases hi with
  |none=>rfl
  |some v=>exact Qju v n n
theorem QhH (i j:Nat):Builtin.Slice.slicePlaces (i:Int) (j:Int) 1=j-i:=by
 unfold Builtin.Slice.slicePlaces
 have h1:(1:Int)>0:=by omega
 simp only[h1,if_true,Int.ediv_one]
 split<;>omega
theorem Qec {v:Value}{o:Option Int}{Q:Option Int→Shared→Prop} (p:IsPart v o) (h:Q o s):wpAny (model prog w) A (Builtin.Slice.slicePartIndex v) Q E s:=by
 cases p with
 |none=>exact slicePart_none h
 |int i t=>exact slicePart_int h
theorem QcN {sl:Addr}{vl vu:Value}{lo hi:Option Int}{n:Nat}{Q:Int×Int×Nat→Shared→Prop} (hs:s.heap.IsSliceOf sl vl vu .none) (pl:IsPart vl lo) (pu:IsPart vu hi)
  (h:Q (((sIx n 0 lo:Nat):Int),1,sIx n n hi-sIx n 0 lo) s):wpAny (model prog w) A (Builtin.Slice.sliceApplied (.ref sl) (pure (n:Int))) Q E s:=by
 obtain⟨os,hos,hcs,hds⟩:=id hs
 unfold Builtin.Slice.sliceApplied Builtin.Slice.sliceFields
 refine wpAny_bind (wpAny_bind (wpAny_field hos hds (x:=vl) rfl (wpAny_bind (wpAny_field hos hds (x:=vu) rfl (wpAny_bind (wpAny_field hos hds (x:=.none) rfl (wpAny_pure ?_)))))))
 refine wpAny_bind (slicePart_none ?_)
 show wpAny _ _ (if ((1:Int) == 0)=true then _ else _) _ _ s
 rw[if_neg (by decide)]
 refine wpAny_bind (Qec pl (wpAny_bind (Qec pu (wpAny_bind (wpAny_pure ?_)))))
 show wpAny _ _ (match Builtin.Slice.sliceAdjust lo hi 1 (n:Int) with | (lo,hi)=>pure (lo,(1:Int),Builtin.Slice.slicePlaces lo hi 1)) _ _ s
 rw[Qhy lo hi n]
 show wpAny _ _ (pure (((sIx n 0 lo:Nat):Int),(1:Int),Builtin.Slice.slicePlaces ((sIx n 0 lo:Nat):Int) ((sIx n n hi:Nat):Int) 1)) _ _ s
 rw[QhH]
 exact wpAny_pure h
theorem Qkd (xs:Array Value) (i k:Nat):((List.range k).filterMap fun (m:Nat)=>xs[((i:Int)+(m:Int)*1).toNat]?).toArray=((xs.toList.drop i).take k).toArray:=by
 have e:(fun (m:Nat)=>xs[((i:Int)+(m:Int)*1).toNat]?)=fun m=>xs[i+m]?:=by
  funext m
  have:((i:Int)+(m:Int)*1).toNat=i+m:=by omega
  rw[this]
 rw[e]
 have:=pick_run xs i k
 rw[List.filterMap_map]at this
 have e2:((fun x=>xs[x]?) ∘ fun x=>i+x)=fun m=>xs[i+m]?:=rfl
 rw[e2]at this
 rw[this]
theorem getItem_tuple_cut {t sl:Addr}{items:Array Value}{vl vu:Value}{lo hi:Option Int}{Q:Value→Shared→Prop} (ht:IsTup s.heap t items) (hs:s.heap.IsSliceOf sl vl vu .none) (pl:IsPart vl lo) (pu:IsPart vu hi)
  (hw:¬ (sIx items.size 0 lo=0∧sIx items.size items.size hi=items.size))
  (h:Q (.ref s.heap.objs.size) { s with heap:=s.heap.push { cls:=.type "tuple",data:=.seq ((items.toList.drop (sIx items.size 0 lo)).take (sIx items.size items.size hi-sIx items.size 0 lo)).toArray } })
  (hsz:items.size≤sizeLine):wpAny (model prog w) A (getItem (.ref t) (.ref sl)) Q E s:=by
 have htake:sizeOk (.seq ((items.toList.drop (sIx items.size 0 lo)).take (sIx items.size items.size hi-sIx items.size 0 lo)).toArray):=by
  show ((items.toList.drop (sIx items.size 0 lo)).take (sIx items.size items.size hi-sIx items.size 0 lo)).toArray.size≤sizeLine
  rw[List.size_toArray,List.length_take,List.length_drop,Array.length_toList]
  omega
 have hj:sIx items.size items.size hi≤items.size:=sIx_le _ _ (Nat.le_refl _) hi
 obtain⟨os,hos,hcs,hds⟩:=id hs
 have hTs:s.TypeIs (.ref sl) "slice":=⟨os,hos,hcs⟩
 unfold getItem
 try with_reducible refine wpAny_holding ?_
 first | refine wpAny_bind (wpAny_pure ?_) | skip
 refine wpAny_bind (wpAny_sequenceKey ht.typeIs (by decide) ?_)
 refine wpAny_bind (wpAny_callSpecial?_slot (name:=Str.ofString "__getitem__") ht.typeIs PyProof.Rows.slot_tuple_getitem
  (wpAny_call_entry PyProof.Rows.slot_tuple_getitem ht.typeIs entry_tuple_getitem ?_ (args_tuple_getitem _ _)))
 show wpAny _ _ (Builtin.Tuple.tupleItemsOf (.ref t) >>= _) _ _ s
 refine wpAny_bind (tupleItemsOf_ ht ?_)
 refine wpAny_bind (wpAny_typeOf hTs ?_)
 rw[if_pos (by decide)]
 refine wpAny_bind (QcN hs pl pu ?_)
 have hno:¬ ((((sIx items.size 0 lo:Nat):Int) == 0&&(1:Int) == 1&&(sIx items.size items.size hi-sIx items.size 0 lo) == items.size)=true):=by
  intro q
  rw[Bool.and_eq_true,Bool.and_eq_true]at q
  have q1:((sIx items.size 0 lo:Nat):Int)=0:=eq_of_beq q.1.1
  have q2:sIx items.size items.size hi-sIx items.size 0 lo=items.size:=eq_of_beq q.2
  exact hw ⟨by omega,by omega⟩
 show wpAny _ _ (if (((sIx items.size 0 lo:Nat):Int) == 0&&(1:Int) == 1&&(sIx items.size items.size hi-sIx items.size 0 lo) == items.size)=true then _ else _) _ _ s
 rw[if_neg hno,Qkd]
 first
  |exact wpAny_bind (m:=Builtin.Tuple.tupleExact _) (wpAny_newObj_type (wpAny_pure ⟨_,rfl,wpAny_pure h⟩) htake)
  |exact wpAny_bind (m:=Builtin.Tuple.tupleExact _) (wpAny_newObj_type (wpAny_bind (wpAny_pure (wpAny_pure ⟨_,rfl,wpAny_pure h⟩))) htake)
  |exact wpAny_bind (wpAny_bind (m:=Builtin.Tuple.tupleExact _) (wpAny_newObj_type (wpAny_pure (wpAny_pure ⟨_,rfl,wpAny_pure h⟩)) htake))
  |exact wpAny_bind (wpAny_bind (m:=Builtin.Tuple.tupleExact _) (wpAny_newObj_type (wpAny_pure ⟨_,rfl,wpAny_pure h⟩) htake))
end
end HT
namespace L2
open PySem PySem.Spec PyProof.Rows
noncomputable abbrev TO:=St→Hp→(Option Int→Hp→Prop)→Prop
noncomputable def PO (X:Cx) (e:Option Expr) (t:TO):Prop :=
 ∀ (pins:List (Addr×Obj)) (s:Shared) (σ:St) (H:Hp) (Q:Option Int→Hp→Prop),Inv X pins σ H s→t σ H Q →
  wpAny (model X.prog X.w) X.A (evalPart e X.env) (fun u s'=>∃ o H',Inv X pins σ H' s'∧IsPart u o∧Q o H') X.xe s
noncomputable def QmG:TO:=fun _ H Q=>Q none H
noncomputable def tPart (t:TE):TO:=fun σ H Q=>t σ H fun x H1=>∃ i,x=.int i∧Q (some i) H1
section
variable {X:Cx}{e:Expr}{te:TE}{lo hi:Option Expr}{tl th:TO}{pos p2:Pos}
theorem po_none:PO X none QmG:=by
 intro pins s σ H Q I h
 rw[evalPart_none]
 exact wpAny_pure ⟨none,H,I,.none,h⟩
theorem Qnl (h:PE X e te):PO X (some e) (tPart te):=by
 intro pins s σ H Q I hw
 rw[evalPart_some]
 refine thn (h pins s σ H _ I hw) fun u s1 ⟨x,H1,I1,r1,q1⟩=>?_
 obtain⟨i,rfl,q⟩:=q1
 obtain⟨t,rfl⟩:=r1
 exact⟨some i,H1,I1,.int i t,q⟩
noncomputable def SlR (X:Cx) (r:V→Option Int→Option Int→Hp→VK→Prop):Prop :=
 ∀ (pins:List (Addr×Obj)) (s:Shared) (σ:St) (H:Hp) (x:V) (v vl vu:Value) (lo hi:Option Int) (sl:Addr) (Q:VK),Inv X pins σ H s→RelV x v→s.heap.IsSliceOf sl vl vu .none→IsPart vl lo→IsPart vu hi→r x lo hi H Q →
  ∃ T id,typeLookup (.type T) "__getitem__"=pure (some (.builtin id))∧s.TypeIs v T∧wpAny (model X.prog X.w) X.A (getItem v (.ref sl)) (EP X pins σ Q) X.xe s
noncomputable def tSl (r:V→Option Int→Option Int→Hp→VK→Prop) (te:TE) (tl th:TO):TE:=fun σ H Q=>te σ H fun x H1=>tl σ H1 fun l H2=>th σ H2 fun u H3=>r x l u H3 Q
theorem Qk4 {r:V→Option Int→Option Int→Hp→VK→Prop} (hr:SlR X r) (he:PE X e te) (hl:PO X lo tl) (hu:PO X hi th):PE X (.Subscript e (.Slice lo hi none p2) pos) (tSl r te tl th):=by
 intro pins s σ H Q I h
 refine Subscript_ (thn (he pins s σ H _ I h) fun v s1 ⟨x,H1,I1,r1,q1⟩=>?_)
 refine wpAny_Slice (thn (hl pins s1 σ H1 _ I1 q1) fun vl s2 ⟨l,H2,I2,pl,q2⟩=>thn (hu pins s2 σ H2 _ I2 q2) fun vu s3 ⟨u,H3,I3,pu,q3⟩=>?_)
 rw[evalPart_none]
 refine wpAny_pure ?_
 have I4:Inv X pins σ H3 { s3 with heap:=s3.heap.push { cls:=.type "slice",data:=.fields #[vl,vu,.none] } }:=I3.kept (t':=s3.toks) fun b ob q=>Heap.get?_push_of_some _ q
 obtain⟨T,id,hT,ht,hg⟩:=hr pins { s3 with heap:=s3.heap.push { cls:=.type "slice",data:=.fields #[vl,vu,.none] } } σ H3 x v vl vu l u s3.heap.objs.size Q I4 r1 (Heap.IsSliceOf.new ..) pl pu q3
 show wpAny (model X.prog X.w) X.A (subscriptTail e (.Slice lo hi none p2) v (.ref s3.heap.objs.size)) (EP X pins σ Q) X.xe { s3 with heap:=s3.heap.push { cls:=.type "slice",data:=.fields #[vl,vu,.none] } }
 exact tail_any (ops:=[.ref s3.heap.objs.size,v]) ht hT hg (by with_unfolding_all rfl)
noncomputable def Qlt (xs:List V) (lo hi:Option Int):List V:=(xs.drop (HT.sIx xs.length 0 lo)).take (HT.sIx xs.length xs.length hi-HT.sIx xs.length 0 lo)
theorem Qdw (xs:List V) (lo hi:Option Int):(Qlt xs lo hi).length≤xs.length:=by
 unfold Qlt
 rw[List.length_take,List.length_drop]
 omega
noncomputable def rSlT (K:PySem.W.Frag):V→Option Int→Option Int→Hp→VK→Prop:=fun x lo hi H Q=>∃ a xs,x=.ref a∧SqT K H a xs ∧
 ¬ (HT.sIx xs.length 0 lo=0∧HT.sIx xs.length xs.length hi=xs.length)∧∀ p,H p=none→Q (.ref p) (upd H p (.tup (Qlt xs lo hi)))
theorem sl_tup:SlR X (rSlT X.K):=by
 intro pins s σ H x v vl vu lo hi sl Q I rx hs pl pu h
 obtain⟨a,xs,rfl,hx,hw,q⟩:=h
 cases rx
 obtain⟨its,r,ht,hz⟩:=I.tuple hx
 have hlen:its.toArray.size=xs.length:=by rw[List.size_toArray];exact r.length.symm
 refine⟨"tuple",_,PyProof.Rows.slot_tuple_getitem.lookup,ht.typeIs,?_⟩
 refine HT.getItem_tuple_cut ht hs pl pu (by rw[hlen];exact hw) ?_ (by rw[hlen];exact hz)
 rw[hlen]
 refine⟨.ref s.heap.objs.size,_,I.laid (t':=s.toks) (o:=.tup (Qlt xs lo hi)) (fun b ob q=>Heap.get?_push_of_some _ q) (Nat.le_refl _) ?_,rfl,q _ (I.hok.fresh (Nat.le_refl _))⟩
 exact⟨Nat.le_trans (Qdw xs lo hi) hz,_,(r.drop (HT.sIx xs.length 0 lo)).take (HT.sIx xs.length xs.length hi-HT.sIx xs.length 0 lo),IsTup.new _ _⟩
noncomputable def rCatT (K:PySem.W.Frag):R2:=fun x y H Q=>∃ a b xs ys,x=.ref a∧y=.ref b∧SqT K H a xs∧SqT K H b ys∧xs≠[]∧xs.length+ys.length≤sizeLine ∧
 (ys=[]→Q (.ref a) H)∧(ys≠[]→∀ p,H p=none→Q (.ref p) (upd H p (.tup (xs++ys))))
theorem Vals.nil_iff {xs:List V}{us:List Value} (r:Vals xs us):us=[]↔xs=[]:=by
 cases r with
 |nil=>simp
 |cons _ _=>simp
theorem Qn2:OpR X (binaryOp .Add) (rCatT X.K):=by
 intro pins s σ H x y v u Q I rx ry h
 obtain⟨a,b,xs,ys,rfl,rfl,ha,hb,hx,hz,q1,q2⟩:=h
 cases rx
 cases ry
 obtain⟨its,r1,p1,_⟩:=I.tuple ha
 obtain⟨its2,r2,p2,_⟩:=I.tuple hb
 refine HT.cat_tup p1 p2 (fun z=>hx (r1.nil_iff.mp z)) (fun z=>⟨.ref a,H,I,rfl,q1 (r2.nil_iff.mp z)⟩) (fun z=>?_) (by rw[← r1.length,← r2.length];exact hz)
 refine⟨.ref s.heap.objs.size,_,I.laid (t':=s.toks) (o:=.tup (xs++ys)) (fun b ob q=>Heap.get?_push_of_some _ q) (Nat.le_refl _) ?_,rfl,q2 (fun w=>z (r2.nil_iff.mpr w)) _ (I.hok.fresh (Nat.le_refl _))⟩
 exact⟨by rw[List.length_append];exact hz,_,r1.append r2,IsTup.new _ _⟩
end
end L2
namespace L2
open PySem PySem.Spec PyProof.Rows
noncomputable def ixN (n:Nat) (i:Int):Option Nat:=if 0≤i then (if i<n then some i.toNat else none) else if -(n:Int)≤i then some (i+n).toNat else none
noncomputable def atI {α:Type} (xs:List α) (i:Int):Option α:=(ixN xs.length i).bind fun j=>xs[j]?
theorem QiQ {n:Nat}{i:Int}{j:Nat} (h:ixN n i=some j):seqIndex? i n=some j∧j<n∧-(n:Int)≤i∧i<n:=by
 unfold ixN at h
 by_cases h0:0≤i
 ·rw[if_pos h0]at h
  by_cases h1:i<n
  ·rw[if_pos h1]at h
   have e:i.toNat=j:=Option.some.inj h
   exact⟨by rw[seqIndex_of h0 h1,e],by omega,by omega,h1⟩
  ·rw[if_neg h1]at h;cases h
 ·rw[if_neg h0]at h
  by_cases h1:-(n:Int)≤i
  ·rw[if_pos h1]at h
   have e:(i+n).toNat=j:=Option.some.inj h
   exact⟨by rw[seqIndex_neg (by omega) h1,e],by omega,h1,by omega⟩
  ·rw[if_neg h1]at h;cases h
theorem QfY {α:Type}{xs:List α}{i:Int}{v:α} (h:atI xs i=some v):∃ j,seqIndex? i xs.length=some j∧xs[j]?=some v∧j<xs.length∧-(xs.length:Int)≤i∧i<xs.length:=by
 unfold atI at h
 cases e:ixN xs.length i with
 |none=>rw[e]at h;cases h
 |some j =>
  rw[e]at h
  obtain⟨h1,h2,h3,h4⟩:=QiQ e
  exact⟨j,h1,h,h2,h3,h4⟩
theorem QbE {α:Type}{xs:List α}{j:Nat}{v:α} (h:xs[j]?=some v):atI xs (j:Int)=some v:=by
 have hj:j<xs.length:=(List.getElem?_eq_some_iff.mp h).1
 have e:ixN xs.length (j:Int)=some j:=by
  unfold ixN
  rw[if_pos (by omega),if_pos (by omega)];simp
 unfold atI;rw[e];exact h
noncomputable def QiK (b:Expr):Prop:=∀ o i,subscripted b false o i=operate [o,i] (getItem o i)
noncomputable def IxR (X:Cx) (r:R2):Prop :=
 ∀ (value slice:Expr) (pins:List (Addr×Obj)) (s:Shared) (σ:St) (H:Hp) (x y:V) (v u:Value) (Q:VK),Inv X pins σ H s→RelV x v→RelV y u→r x y H Q →
  subscripted slice false v u=operate [v,u] (getItem v u)→wpAny (model X.prog X.w) X.A (subscriptTail value slice v u) (EP X pins σ Q) X.xe s
noncomputable def MtR (X:Cx) (id:String) (r:V→List V→Hp→VK→Prop):Prop :=
 ∀ (pins:List (Addr×Obj)) (s:Shared) (σ:St) (H:Hp) (x:V) (xs:List V) (v:Value) (us:List Value) (Q:VK),Inv X pins σ H s→RelV x v→Vals xs us→r x xs H Q →
  wpAny (model X.prog X.w) X.A (call (.builtin id) (v::us)) (EP X pins σ Q) X.xe s
section
variable {X:Cx}{a b:Expr}{ta tb:TE}{pos:Pos}
theorem pe_ix {r:R2} (hr:IxR X r) (ha:PE X a ta) (hb:PE X b tb) (hs:QiK b):PE X (.Subscript a b pos) (tOp r ta tb):=by
 intro pins s σ H Q I h
 exact Subscript_ (binT ha hb I h fun v u s2 x y H2 I2 rx ry q=>hr a b pins s2 σ H2 x y v u Q I2 rx ry q (hs _ _))
noncomputable def rIxL (K:PySem.W.Frag):R2:=fun x y H Q=>∃ p xs i v,x=.ref p∧y=.int i∧SqL K H p xs∧atI xs i=some v∧Q v H
noncomputable def rIxT (K:PySem.W.Frag):R2:=fun x y H Q=>∃ p xs i v,x=.ref p∧y=.int i∧SqT K H p xs∧atI xs i=some v∧Q v H
noncomputable def rIxS:R2:=fun x y H Q=>∃ z i c,x=.str z∧y=.int i∧z.length≤sizeLine∧atI z.cps.toList i=some c∧Q (.str ⟨#[c]⟩) H
theorem QmE:IxR X (rIxL X.K):=by
 intro value slice pins s σ H x y v u Q I rx ry h hs
 obtain⟨p,xs,i,z,rfl,rfl,hq,he,q⟩:=h
 cases rx
 obtain⟨t,rfl⟩:=ry
 obtain⟨its,r,pl,hz⟩:=I.list hq
 obtain⟨j,h1,h2,h3,h4,h5⟩:=QfY he
 obtain⟨w,ew,rw'⟩:=r.get h2
 have hl:=r.length
 have hn:=QdY
 have fin:EP X pins σ Q w s:=⟨z,H,I,rw',q⟩
 by_cases h0:0≤i
 ·have hj:i.toNat=j:=by
   rw[seqIndex_of h0 h5]at h1
   exact Option.some.inj h1
  exact item_listR pl.isList h0 (by omega) (by rw[hj];simpa using ew) fin hs
 ·have hj:(i+(its.toArray.size:Int)).toNat=j:=by
   rw[seqIndex_neg (by omega) h4]at h1
   rw[List.size_toArray,← hl]
   exact Option.some.inj h1
  exact subscriptTail_builtinR (x:=w) pl.isList.typeIs slot_list_getitem.lookup
   (wpAny_getItem_list_neg (Q:=fun r s'=>r=w∧EP X pins σ Q r s') pl.isList (by omega) (by rw[List.size_toArray]<;>omega) (by omega) (by rw[hj];simpa using ew) ⟨rfl,fin⟩) hs
theorem ix_tup:IxR X (rIxT X.K):=by
 intro value slice pins s σ H x y v u Q I rx ry h hs
 obtain⟨p,xs,i,z,rfl,rfl,hq,he,q⟩:=h
 cases rx
 obtain⟨t,rfl⟩:=ry
 obtain⟨its,r,pl,hz⟩:=I.tuple hq
 obtain⟨j,h1,h2,h3,h4,h5⟩:=QfY he
 obtain⟨w,ew,rw'⟩:=r.get h2
 have hl:=r.length
 have hn:=QdY
 have fin:EP X pins σ Q w s:=⟨z,H,I,rw',q⟩
 exact subscriptTail_builtinR (x:=w) pl.typeIs slot_tuple_getitem.lookup
  (getItem_tuple (j:=j) (Q:=fun r s'=>r=w∧EP X pins σ Q r s') pl (by omega) (by omega) (by rw[List.size_toArray,← hl];exact h1) (by simpa using ew) ⟨rfl,fin⟩) hs
theorem ix_str:IxR X rIxS:=by
 intro value slice pins s σ H x y v u Q I rx ry h hs
 obtain⟨z,i,c,rfl,rfl,hz,he,q⟩:=h
 obtain⟨t,rfl⟩:=rx
 obtain⟨t',rfl⟩:=ry
 obtain⟨j,h1,h2,h3,h4,h5⟩:=QfY he
 have hl:z.cps.toList.length=z.length:=by simp[Str.length]
 rw[hl]at h1 h4 h5
 have hn:=QdY
 exact tail_any (typeIs_str s z t) slot_str_getitem.lookup (getItem_str (c:=c) (by
  have e1:decide (i < -(2 ^ 63:Int))=false:=decide_eq_false (by omega)
  have e2:decide (i≥2 ^ 63)=false:=decide_eq_false (by omega)
  rw[e1,e2,Bool.or_false]) (by rw[h1];simpa using h2) ⟨.str ⟨#[c]⟩,H,I.tok _,⟨_,rfl⟩,q⟩) hs
theorem QhF (its:List Value) (n j:Nat) (u:Value):Obj.mapSeq (·.setIfInBounds j u) { cls:=.type "list",data:=.seq its.toArray n }={ cls:=.type "list",data:=.seq (its.set j u).toArray n }:=by
 simp[Obj.mapSeq]
theorem Inv.lst {pins:List (Addr×Obj)}{σ:St}{H:Hp}{s:Shared}{p:Addr}{xs:List V} (I:Inv X pins σ H s) (h:H p=some (.lst xs)) :
  ∃ (its:List Value) (n:Nat),Vals xs its∧s.heap.get? p=some { cls:=.type "list",data:=.seq its.toArray n }∧xs.length≤sizeLine:=by
 obtain⟨z,its,n,r,e⟩:=I.hok p _ h
 exact⟨its,n,r,e,z⟩
theorem Inv.lstUpd {pins:List (Addr×Obj)}{σ:St}{H:Hp}{s:Shared}{p:Addr}{xs ys:List V}{its its':List Value}{n n':Nat}{f:Obj→Obj} (I:Inv X pins σ H s) (h:H p=some (.lst xs))
  (ho:s.heap.get? p=some { cls:=.type "list",data:=.seq its.toArray n }) (hf:f { cls:=.type "list",data:=.seq its.toArray n }={ cls:=.type "list",data:=.seq its'.toArray n' }) (r:Vals ys its') (hz:ys.length≤sizeLine) (t:Nat) :
  Inv X pins σ (upd H p (.lst ys)) { s with heap:=s.heap.update p f,toks:=t }:=by
 have e:(s.heap.update p f).get? p=some { cls:=.type "list",data:=.seq its'.toArray n' }:=by
  rw[Heap.get?_update_self f ho (by rw[hf]<;>rfl),hf]
 refine I.write (x:=p) (e:=p) (by rw[h];trivial) (.inl rfl) (fun b u hb q=>(Heap.get?_update_other _ _ (Ne.symm hb)).trans q) ⟨_,e⟩ ?_
 exact⟨hz,its',n',r,e⟩
noncomputable def rSetL:V→V→V→Hp→(Hp→Prop)→Prop:=fun o i v H Q=>∃ p xs k j,o=.ref p∧i=.int k∧H p=some (.lst xs)∧ixN xs.length k=some j∧Q (upd H p (.lst (xs.set j v)))
theorem Qlc:PSet X rSetL:=by
 intro pins s σ H o i v ov iv u Q I ro ri rv h
 obtain⟨p,xs,k,j,rfl,rfl,hp,hj,q⟩:=h
 cases ro
 obtain⟨t,rfl⟩:=ri
 obtain⟨its,n,r,ho,hz⟩:=I.lst hp
 obtain⟨h1,h2,h3,h4⟩:=QiQ hj
 have hl:=r.length
 have hn:=QdY
 have I':Inv X pins σ (upd H p (.lst (xs.set j v))) { s with heap:=s.heap.update p (Obj.mapSeq (·.setIfInBounds j u)) } :=
  I.lstUpd hp ho (QhF its n j u) (r.set rv j) (by rw[List.length_set];exact hz) s.toks
 by_cases h0:0≤k
 ·have hk:k.toNat=j:=by
   rw[seqIndex_of h0 h4]at h1
   exact Option.some.inj h1
  exact PySem.W.ki_setAt ho h0 (by omega) (by rw[List.size_toArray,← hl];exact h4) (by rw[hk];exact⟨_,I',q⟩)
 ·have hk:(k+(its.toArray.size:Int)).toNat=j:=by
   rw[seqIndex_neg (by omega) h3]at h1
   rw[List.size_toArray,← hl]
   exact Option.some.inj h1
  exact PySem.W.ki_setBack ho (by omega) (by rw[List.size_toArray,← hl];exact h3) (by omega) (by rw[hk];exact⟨_,I',q⟩)
theorem Qf6 (lo hi:Option Int) (n:Nat):(sliceBounds lo hi none n).1=((HT.sIx n 0 lo:Nat):Int)∧(sliceBounds lo hi none n).2.1=((HT.sIx n n hi:Nat):Int)∧(sliceBounds lo hi none n).2.2=1:=by
 refine⟨?_,?_,rfl⟩
 ·cases lo with
  |none=>simp[sliceBounds,HT.sIx]
  |some i =>
   simp only[sliceBounds,HT.sIx,Option.getD_none,show (1:Int)>0 by decide,if_true]
   by_cases h:i<0
   ·simp only[h,if_true]<;>omega
   ·simp only[h,if_false]<;>omega
 ·cases hi with
  |none=>simp[sliceBounds,HT.sIx]
  |some i =>
   simp only[sliceBounds,HT.sIx,Option.getD_none,show (1:Int)>0 by decide,if_true]
   by_cases h:i<0
   ·simp only[h,if_true]<;>omega
   ·simp only[h,if_false]<;>omega
theorem Qew (its:List Value) (lo hi:Option Int):slicePick its.toArray lo hi none=((its.drop (HT.sIx its.length 0 lo)).take (HT.sIx its.length its.length hi-HT.sIx its.length 0 lo)).toArray:=by
 obtain⟨h1,h2,h3⟩:=Qf6 lo hi its.toArray.size
 unfold slicePick
 rw[h1,h2,h3]
 simp only[sliceRange_one,pick_run,List.size_toArray]<;>rfl
noncomputable def rSlL (K:PySem.W.Frag):V→Option Int→Option Int→Hp→VK→Prop:=fun x lo hi H Q=>∃ a xs,x=.ref a∧SqL K H a xs∧∀ p,H p=none→Q (.ref p) (upd H p (.lst (Qlt xs lo hi)))
theorem Qmk:SlR X (rSlL X.K):=by
 intro pins s σ H x v vl vu lo hi sl Q I rx hs pl pu h
 obtain⟨a,xs,rfl,hx,q⟩:=h
 cases rx
 obtain⟨its,r,ht,hz⟩:=I.list hx
 have hlen:=r.length
 refine⟨"list",_,slot_list_getitem.lookup,ht.isList.typeIs,?_⟩
 refine wpAny_getItem_list_slice ht.isList hs pl pu .none (by simp) ?_ (by rw[List.size_toArray]<;>omega)
 rw[Qew,← hlen]
 refine⟨.ref s.heap.objs.size,_,I.laid (t':=s.toks) (o:=.lst (Qlt xs lo hi)) (fun b ob q=>Heap.get?_push_of_some _ q) (Nat.le_refl _) ?_,rfl,q _ (I.hok.fresh (Nat.le_refl _))⟩
 exact⟨Nat.le_trans (Qdw xs lo hi) hz,_,0,(r.drop (HT.sIx xs.length 0 lo)).take (HT.sIx xs.length xs.length hi-HT.sIx xs.length 0 lo),Heap.get?_push_size _ rfl⟩
noncomputable def Qd9:V→Bool
 |.non=>true
 |.bl _=>true
 |.int _=>true
 |.str _=>true
 |_=>false
noncomputable def eqV:V→V→Bool
 |.non,.non=>true
 |.bl a,.bl b=>a == b
 |.bl a,.int b=>(if a then 1 else 0) == b
 |.int a,.bl b=>a == (if b then 1 else 0)
 |.int a,.int b=>a == b
 |.str a,.str b=>a == b
 |_,_=>false
theorem eqAt_V {A:Around}{s:Shared}{y x:V}{u v:Value} (ry:RelV y u) (rx:RelV x v) (fy:Qd9 y=true) (fx:Qd9 x=true):SeqAt.EqAt A s u v (eqV y x):=by
 cases y with
 |non =>
  cases ry
  cases x with
  |non=>cases rx;exact SeqAt.EqAt.same _
  |bl b=>cases rx;exact SeqAt.EqAt.none_bool b
  |int b=>obtain⟨t,rfl⟩:=rx;exact SeqAt.EqAt.none_int b t
  |str b=>obtain⟨t,rfl⟩:=rx;exact SeqAt.EqAt.none_str b t
  |_=>exact absurd (show false=true from fx) Bool.false_ne_true
 |bl a =>
  cases ry
  cases x with
  |non=>cases rx;exact SeqAt.EqAt.bool_none a
  |bl b=>cases rx;exact SeqAt.EqAt.bool_bool a b
  |int b=>obtain⟨t,rfl⟩:=rx;exact SeqAt.EqAt.bool_int a b t
  |str b=>obtain⟨t,rfl⟩:=rx;exact SeqAt.EqAt.bool_str a b t
  |_=>exact absurd (show false=true from fx) Bool.false_ne_true
 |int a =>
  obtain⟨t',rfl⟩:=ry
  cases x with
  |non=>cases rx;exact SeqAt.EqAt.int_none a t'
  |bl b=>cases rx;exact SeqAt.EqAt.int_bool a t' b
  |int b=>obtain⟨t,rfl⟩:=rx;exact SeqAt.EqAt.int_int a t' b t
  |str b=>obtain⟨t,rfl⟩:=rx;exact SeqAt.EqAt.int_str a t' b t
  |_=>exact absurd (show false=true from fx) Bool.false_ne_true
 |str a =>
  obtain⟨t',rfl⟩:=ry
  cases x with
  |non=>cases rx;exact SeqAt.EqAt.str_none a t'
  |bl b=>cases rx;exact SeqAt.EqAt.str_bool a t' b
  |int b=>obtain⟨t,rfl⟩:=rx;exact SeqAt.EqAt.str_int a t' b t
  |str b=>obtain⟨t,rfl⟩:=rx;exact SeqAt.EqAt.str_str a t' b t
  |_=>exact absurd (show false=true from fx) Bool.false_ne_true
 |_=>exact absurd (show false=true from fy) Bool.false_ne_true
noncomputable def eqU (x:V) (u:Value):Bool:=match u with
 |.none=>eqV .non x
 |.bool b=>eqV (.bl b) x
 |.int i _=>eqV (.int i) x
 |.str z _=>eqV (.str z) x
 |_=>false
theorem Qlo {x y:V}{u:Value} (r:RelV y u) (f:Qd9 y=true):eqU x u=eqV y x:=by
 cases y with
 |non=>cases r;rfl
 |bl b=>cases r;rfl
 |int i=>obtain⟨t,rfl⟩:=r;rfl
 |str z=>obtain⟨t,rfl⟩:=r;rfl
 |_=>exact absurd (show false=true from f) Bool.false_ne_true
theorem Qd4 {x:V}:∀ {xs:List V}{us:List Value},Vals xs us→xs.all Qd9=true→us.any (eqU x)=xs.any fun y=>eqV y x
 |_,_,.nil,_=>rfl
 |y::xs,u::us,.cons r t,f=>by
  rw[List.all_cons,Bool.and_eq_true]at f
  rw[List.any_cons,List.any_cons,Qlo r f.1,Qd4 t f.2]
theorem Qco {A:Around}{s:Shared}{x:V}{v:Value} (rx:RelV x v) (fx:Qd9 x=true):∀ {xs:List V}{us:List Value},Vals xs us→xs.all Qd9=true→∀ u∈us,SeqAt.EqAt A s u v (eqU x u)
 |_,_,.nil,_=>fun u hu=>by cases hu
 |y::xs,u::us,.cons r t,f=>fun u' hu=>by
  rw[List.all_cons,Bool.and_eq_true]at f
  rcases List.mem_cons.mp hu with rfl | hu
  ·rw[Qlo r f.1];exact eqAt_V r rx f.1 fx
  ·exact Qco rx fx t f.2 u' hu
noncomputable def inV (x:V) (xs:List V):Bool:=xs.any fun y=>eqV y x
noncomputable def rIn (K:PySem.W.Frag) (neg:Bool):R2:=fun x y H Q=>∃ p xs,y=.ref p∧(SqL K H p xs∨SqT K H p xs)∧Qd9 x=true∧xs.all Qd9=true∧Q (.bl (if neg then !inV x xs else inV x xs)) H
theorem QiM:OpR X (compareOp .In) (rIn X.K false):=by
 intro pins s σ H x y v u Q I rx ry h
 obtain⟨p,xs,rfl,hq,fx,fs,q⟩:=h
 cases ry
 rcases hq with hq | hq
 ·obtain⟨its,r,pl,hz⟩:=I.list hq
  refine SeqAt.in_listAt (eqU x) pl.isList (fun w hw=>Qco rx fx r fs w (by simpa using hw)) ⟨.bl _,H,I,rfl,?_⟩
  rw[show its.toArray.any (eqU x)=its.any (eqU x) by simp,Qd4 r fs]
  exact q
 ·obtain⟨its,r,pl,hz⟩:=I.tuple hq
  refine SeqAt.in_tupleAt (eqU x) pl (fun w hw=>Qco rx fx r fs w (by simpa using hw)) ⟨.bl _,H,I,rfl,?_⟩
  rw[show its.toArray.any (eqU x)=its.any (eqU x) by simp,Qd4 r fs]
  exact q
theorem Qfq:OpR X (compareOp .NotIn) (rIn X.K true):=by
 intro pins s σ H x y v u Q I rx ry h
 obtain⟨p,xs,rfl,hq,fx,fs,q⟩:=h
 cases ry
 rcases hq with hq | hq
 ·obtain⟨its,r,pl,hz⟩:=I.list hq
  refine SeqAt.notIn_listAt (eqU x) pl.isList (fun w hw=>Qco rx fx r fs w (by simpa using hw)) ⟨.bl _,H,I,rfl,?_⟩
  rw[show its.toArray.any (eqU x)=its.any (eqU x) by simp,Qd4 r fs]
  exact q
 ·obtain⟨its,r,pl,hz⟩:=I.tuple hq
  refine SeqAt.notIn_tupleAt (eqU x) pl (fun w hw=>Qco rx fx r fs w (by simpa using hw)) ⟨.bl _,H,I,rfl,?_⟩
  rw[show its.toArray.any (eqU x)=its.any (eqU x) by simp,Qd4 r fs]
  exact q
theorem QeP:Qby X (.builtin "len") (fun xs H Q=>∃ p ys,xs=[.ref p]∧(SqL X.K H p ys∨SqT X.K H p ys)∧Q (.int ys.length) H):=by
 intro pins s σ H xs us Q I r h
 obtain⟨p,ys,rfl,hq,q⟩:=h
 obtain⟨u,rfl,rx⟩:=QhE r
 cases rx
 have hn:=QdY
 rcases hq with hq | hq
 ·obtain⟨its,r',pl,hz⟩:=I.list hq
  have hlen:=r'.length
  exact Calls.call_len_list pl.isList (by simp only[List.size_toArray]<;>omega) ⟨.int ys.length,H,I.tok _,⟨s.toks+1,by rw[List.size_toArray,hlen]⟩,q⟩
 ·obtain⟨its,r',pl,hz⟩:=I.tuple hq
  have hlen:=r'.length
  exact len_tuple pl (by simp only[List.size_toArray]<;>omega) ⟨.int ys.length,H,I.tok _,⟨s.toks+1,by rw[List.size_toArray,hlen]⟩,q⟩
theorem Qfa:Qby X (.builtin "len") (fun xs H Q=>∃ z,xs=[.str z]∧z.length≤sizeLine∧Q (.int z.length) H):=by
 intro pins s σ H xs us Q I r h
 obtain⟨z,rfl,hz,q⟩:=h
 obtain⟨u,rfl,t,rfl⟩:=QhE r
 have hn:=QdY
 exact len_str (by omega) ⟨.int z.length,H,I.tok _,⟨_,rfl⟩,q⟩
theorem QcH:Qby X (.type "list") (fun xs H Q=>∃ p ys,xs=[.ref p]∧(SqL X.K H p ys∨SqT X.K H p ys)∧∀ l,H l=none→Q (.ref l) (upd H l (.lst ys))):=by
 intro pins s σ H xs us Q I r h
 obtain⟨p,ys,rfl,hq,q⟩:=h
 obtain⟨u,rfl,rx⟩:=QhE r
 cases rx
 have fin:∀ (its:List Value),Vals ys its→ys.length≤sizeLine→∀ (h':Heap) (c':Nat),(∀ b o',s.heap.get? b=some o'→h'.get? b=some o') →
   h'.get? s.heap.objs.size=some { cls:=.type "list",dict:=none,data:=.seq its.toArray c',slots:=#[] }→EP X pins σ Q (.ref s.heap.objs.size) { s with heap:=h' }:=fun its r' hz h' c' kp e =>
  ⟨.ref s.heap.objs.size,_,I.laid (t':=s.toks) kp (Nat.le_refl _) (show ObjOk X.prog X.w _ h' _ (.lst ys) from ⟨hz,its,c',r',e⟩),rfl,q _ (I.hok.fresh (Nat.le_refl _))⟩
 rcases hq with hq | hq
 ·obtain⟨its,r',pl,hz⟩:=I.list hq
  have hlen:=r'.length
  obtain⟨o,ho,hc,n,hd⟩:=pl.isList
  exact call_list_seq p (.inl rfl) ho hc hd (fun h' c' kp e=>fin its r' hz h' c' kp e) (by simp only[List.size_toArray]<;>omega)
 ·obtain⟨its,r',pl,hz⟩:=I.tuple hq
  have hlen:=r'.length
  obtain⟨o,ho,hc,n,hd⟩:=pl
  exact call_list_seq p (.inr rfl) ho hc hd (fun h' c' kp e=>fin its r' hz h' c' kp e) (by simp only[List.size_toArray]<;>omega)
theorem Qcs:Qby X (.type "tuple") (fun xs H Q=>∃ p ys,xs=[.ref p]∧((SqL X.K H p ys∧∀ l,H l=none→Q (.ref l) (upd H l (.tup ys)))∨(SqT X.K H p ys∧Q (.ref p) H))):=by
 intro pins s σ H xs us Q I r h
 obtain⟨p,ys,rfl,h⟩:=h
 obtain⟨u,rfl,rx⟩:=QhE r
 cases rx
 rcases h with ⟨hq,q⟩ | ⟨hq,q⟩
 ·obtain⟨its,r',pl,hz⟩:=I.list hq
  have hlen:=r'.length
  refine call_tuple_list pl.isList (fun h' kp=>?_) (by simp only[List.size_toArray]<;>omega)
  have I1:Inv X pins σ H { s with heap:=h' }:=I.kept (t':=s.toks) kp
  have I2:Inv X pins σ (upd H h'.objs.size (.tup ys)) { s with heap:=h'.push { cls:=.type "tuple",data:=.seq its.toArray } } :=
   I1.laid (t':=s.toks) (fun b o e=>Heap.get?_push_of_some _ e) (Nat.le_refl _) (show ObjOk X.prog X.w _ _ _ (.tup ys) from ⟨hz,its,r',IsTup.new _ _⟩)
  exact⟨.ref h'.objs.size,_,I2,rfl,q _ (I1.hok.fresh (Nat.le_refl _))⟩
 ·obtain⟨its,r',pl,hz⟩:=I.tuple hq
  exact call_tuple_same pl ⟨.ref p,H,I,rfl,q⟩
noncomputable def tyV (K:PySem.W.Frag) (T:String) (x:V) (H:Hp):Prop:=match x with
 |.str _=>T="str"
 |.int _=>T="int"
 |.ref p=>(T="list"∧∃ xs,SqL K H p xs)∨(T="tuple"∧∃ o,K.lookup p=some o∧o.cls=.type "tuple"∧o.dict=none) ∨
  (T="dict"∧((∃ kvs,H p=some (.dK kvs))∨∃ kvs,H p=some (.dT kvs)))∨(T="set"∧∃ S n,H p=some (.set S n))
 |_=>False
theorem tyV_is {pins:List (Addr×Obj)}{σ:St}{H:Hp}{s:Shared}{T:String}{x:V}{v:Value} (I:Inv X pins σ H s) (r:RelV x v) (ty:tyV X.K T x H) :
  s.TypeIs v T∧∀ a,v=.ref a→∃ ob,s.heap.get? a=some ob∧ob.dict=none:=by
 cases x with
 |str z =>
  obtain⟨t,rfl⟩:=r
  cases (show T="str" from ty)
  exact⟨typeIs_str s z t,fun _ e=>nomatch e⟩
 |int i =>
  obtain⟨t,rfl⟩:=r
  cases (show T="int" from ty)
  exact⟨typeIs_int s i t,fun _ e=>nomatch e⟩
 |ref p =>
  cases r
  rcases ty with ⟨rfl,xs,hq⟩ | ⟨rfl,o,hk,hc,hd⟩ | ⟨rfl,hk⟩ | ⟨rfl,S,n,hk⟩
  ·obtain⟨its,_,pl,_⟩:=I.list hq
   refine⟨pl.isList.typeIs,fun a e=>?_⟩
   cases e
   obtain⟨o,n,e,c,hd,_⟩:=pl
   exact⟨o,e,hd⟩
  ·refine⟨⟨o,I.kIn p o hk,hc⟩,fun a e=>?_⟩
   cases e
   exact⟨o,I.kIn _ o hk,hd⟩
  ·have z:∃ o,s.heap.get? p=some o∧o.ExactDict:=by
    rcases hk with ⟨kvs,hk⟩ | ⟨kvs,hk⟩
    ·obtain⟨_,_,_,_,o,_,_,e,ex,_⟩:=I.hok p _ hk
     exact⟨o,e,ex⟩
    ·obtain⟨_,_,_,_,o,_,_,e,ex,_⟩:=I.hok p _ hk
     exact⟨o,e,ex⟩
   obtain⟨o,e,ex⟩:=z
   refine⟨⟨o,e,ex.1⟩,fun a e2=>?_⟩
   cases e2
   exact⟨o,e,ex.2.1⟩
  ·obtain⟨o,_,_,_,e,ex,_⟩:=I.hok p _ hk
   refine⟨⟨o,e,ex.1⟩,fun a e2=>?_⟩
   cases e2
   exact⟨o,e,ex.2.1⟩
 |_=>exact False.elim ty
noncomputable def tBM (K:PySem.W.Frag) (T:String) (r:V→List V→Hp→VK→Prop) (to:TE) (t:TA):TE:=fun σ H Q=>to σ H fun x H1=>tyV K T x H1∧t σ H1 fun xs H2=>r x xs H2 Q
variable {o e:Expr}{es:List Expr}{to:TE}{t:TA}{name:Str}{apos cpos:Pos}{T id:String}{r:V→List V→Hp→VK→Prop}
theorem pe_bm (pa:PlainAttrs T) (slot:Slot T name id) (hty:typeOf (.builtin id)=pure (.type "method_descriptor")) (hm:MtR X id r) (ho:PE X o to) (ha:PA X (e::es) t)
  (hbase:attributeBase o name X.env (eval o X.env)=eval o X.env:=by rfl)
  (hfew:((backTo cpos (starEach (e::es) X.env)).all (fun x=>!x.1)&&(backToKw cpos (keywordEach [] X.env)).all (fun x=>x.1.isSome)
   && decide ((e::es).length+([]:List Keyword).length+(if ([]:List Keyword).isEmpty then 0 else 1)<30))=true:=by rfl)
  (hline:(apos.endLine == cpos.line)=true:=by rfl) (hs:starEach (e::es) X.env=(false,eval e X.env)::starEach es X.env:=by rfl) (hplain:(backTo cpos (starEach es X.env)).any (·.1)=false:=by rfl) :
  PE X (.Call (.Attribute o name apos) (e::es) [] cpos) (tBM X.K T r to t):=by
 intro pins s σ H Q I h
 refine wpAny_Call_method_late hbase hfew hline rfl (thn (ho pins s σ H _ I h) fun v s1 ⟨x,H1,I1,r1,ty,q1⟩=>?_)
 obtain⟨h1,h2⟩:=tyV_is I1 r1 ty
 refine⟨T,id,pa,slot,hty,h1,h2,?_⟩
 have hA:=ha cpos pins s1 σ H1 _ I1 q1
 rw[hs]at hA ⊢
 refine Calls.callWith_builtin (by show (false||(backTo cpos (starEach es X.env)).any (·.1))=false;rw[hplain]<;>rfl) (Calls.evalArgs_plain ?_)
 exact thn hA fun us s2 ⟨vs,H2,I2,r2,q2⟩=>hm pins s2 σ H2 x vs v us Q I2 r1 r2 q2
end
end L2
namespace L2
open PySem PySem.Spec PyProof.Rows
noncomputable def MtM (X:Cx) (id:String) (r:V→List V→Hp→VK→Prop):Prop :=
 ∀ (pins:List (Addr×Obj)) (s:Shared) (σ:St) (H:Hp) (x:V) (xs:List V) (v:Value) (us:List Value) (Q:VK),Inv X pins σ H s→RelV x v→Vals xs us→r x xs H Q →
  wpAny (model X.prog X.w) X.A (call (.builtin id) (v::us)) (EP X pins σ Q) X.xe s
theorem Vals.one:∀ {x:V}{us:List Value},Vals [x] us→∃ u,us=[u]∧RelV x u
 |_,_,.cons r .nil=>⟨_,rfl,r⟩
theorem Vals.rep {xs:List V}{us:List Value} (h:Vals xs us):∀ k:Nat,Vals (List.replicate k xs).flatten (List.replicate k us).flatten
 |0=>.nil
 |k+1=>by
  rw[List.replicate_succ,List.replicate_succ,List.flatten_cons,List.flatten_cons]
  exact Vals.append h (Vals.rep h k)
theorem Qfs (its:List Value):∀ (k:Nat) (acc:List Value),
  List.foldl (fun x1 x2=>x1++x2) acc.toArray (List.replicate k its.toArray)=(acc++(List.replicate k its).flatten).toArray
 |0,acc=>by simp
 |k+1,acc=>by
  have e:acc.toArray++its.toArray=(acc++its).toArray:=by simp
  have e2:(acc++its)++(List.replicate k its).flatten=acc++(List.replicate (k+1) its).flatten:=by
   rw[List.replicate_succ,List.flatten_cons,List.append_assoc]
  rw[← e2,← Qfs its k (acc++its),← e,List.replicate_succ,List.foldl_cons]
section
variable {X:Cx}{pins:List (Addr×Obj)}{σ:St}{H:Hp}{s:Shared}{l b:Addr}{xs ys zs:List V}
theorem Inv.lset {its its':List Value}{n:Nat}{f:Array Value→Array Value}{t':Nat} (I:Inv X pins σ H s) (hH:H l=some (.lst xs))
  (e:s.heap.get? l=some { cls:=.type "list",data:=.seq its.toArray n }) (hf:f its.toArray=its'.toArray) (hv:Vals ys its') (hz:ys.length≤sizeLine) :
  Inv X pins σ (upd H l (.lst ys)) { s with heap:=s.heap.update l (Obj.mapSeq f),toks:=t' }:=by
 have q:=PySem.IsL.update e f
 rw[hf]at q
 refine I.write (x:=l) (e:=l) (by rw[hH];exact trivial) (.inl rfl) (fun b' u hb hu=>(Heap.get?_update_other s.heap (Obj.mapSeq f) (Ne.symm hb)).trans hu) ⟨_,q⟩ ?_
 exact⟨hz,its',_,hv,q⟩
theorem Inv.lnew {its:List Value}{t':Nat} (I:Inv X pins σ H s) (hv:Vals ys its) (hz:ys.length≤sizeLine) :
  Inv X pins σ (upd H s.heap.objs.size (.lst ys)) { s with heap:=s.heap.push { cls:=.type "list",data:=.seq its.toArray },toks:=t' } :=
 I.laid (fun _ _ q=>Heap.get?_push_of_some _ q) (Nat.le_refl _) ⟨hz,its,0,hv,Heap.get?_push_size _ rfl⟩
theorem Inv.fresh (I:Inv X pins σ H s):H s.heap.objs.size=none:=I.hok.fresh (Nat.le_refl _)
theorem Inv.lstM (I:Inv X pins σ H s) (hH:H l=some (.lst xs)):xs.length≤sizeLine∧∃ (its:List Value) (n:Nat),Vals xs its∧xs.length=its.length∧s.heap.get? l=some { cls:=.type "list",data:=.seq its.toArray n }:=by
 obtain⟨z,its,n,r,e⟩:=I.hok l _ hH
 exact⟨z,its,n,r,r.length,e⟩
theorem QkY {n:Nat} (h:n≤sizeLine):Builtin.List.listTooLong n=false:=by
 unfold Builtin.List.listTooLong
 exact decide_eq_false (by omega)
end
section
variable {X:Cx}
noncomputable def Qmy:V→List V→Hp→VK→Prop:=fun x vs H Q=>∃ l xs y,x=.ref l∧vs=[y]∧H l=some (.lst xs)∧xs.length<sizeLine∧Q .non (upd H l (.lst (xs++[y])))
theorem Qfn:MtM X "list.append" Qmy:=by
 intro pins s σ H x vs v us Q I rx rv h
 obtain⟨l,xs,y,rfl,rfl,hH,hz,q⟩:=h
 cases rx
 obtain⟨u,rfl,ru⟩:=rv.one
 obtain⟨z,its,n,r,hl,e⟩:=I.lstM hH
 refine call_meets F.slot_list_append ⟨_,e,rfl⟩ F.entry_list_append (F.args_list_append_2 _ _) (PySem.list_append l its.toArray n u (by rw[List.size_toArray];omega)) ⟨e,?_⟩
 refine⟨.non,_,I.lset (its':=its++[u]) hH e (by simp) (r.append (.cons ru .nil)) ?_,rfl,q⟩
 rw[List.length_append,List.length_singleton]
 omega
noncomputable def rCat:R2:=fun x y H Q=>∃ l b xs zs,x=.ref l∧y=.ref b∧H l=some (.lst xs)∧H b=some (.lst zs)∧xs.length+zs.length≤sizeLine∧∀ p,H p=none→Q (.ref p) (upd H p (.lst (xs++zs)))
theorem Qlp:OpR X (binaryOp .Add) rCat:=by
 intro pins s σ H x y v u Q I rx ry h
 obtain⟨l,b,xs,zs,rfl,rfl,hH,hB,hz,q⟩:=h
 cases rx
 cases ry
 obtain⟨z,its,n,r,hl,e⟩:=I.lstM hH
 obtain⟨z2,its2,n2,r2,hl2,e2⟩:=I.lstM hB
 refine PySem.P.add_list e e2 ?_ (by rw[List.size_toArray,List.size_toArray];omega)
 have ea:its.toArray++its2.toArray=(its++its2).toArray:=by simp
 rw[ea]
 exact⟨.ref _,_,I.lnew (t':=s.toks) (r.append r2) (by rw[List.length_append];omega),rfl,q _ I.fresh⟩
noncomputable def rRep:R2:=fun x y H Q=>∃ l k xs,x=.ref l∧y=.int k∧H l=some (.lst xs)∧-(2 ^ 63)≤k∧k<2 ^ 63∧xs.length*k.toNat≤sizeLine ∧
 ∀ p,H p=none→Q (.ref p) (upd H p (.lst (List.replicate k.toNat xs).flatten))
theorem Qm9 {α:Type} (xs:List α) (k:Nat):(List.replicate k xs).flatten.length=k*xs.length:=by
 induction k with
 |zero=>simp
 |succ k ih=>rw[List.replicate_succ,List.flatten_cons,List.length_append,ih,Nat.succ_mul,Nat.add_comm]
theorem Qlw:OpR X (binaryOp .Mult) rRep:=by
 intro pins s σ H x y v u Q I rx ry h
 obtain⟨l,k,xs,rfl,rfl,hH,h1,h2,hz,q⟩:=h
 cases rx
 obtain⟨t,rfl⟩:=ry
 obtain⟨z,its,n,r,hl,e⟩:=I.lstM hH
 have hlen:its.toArray.size*k.toNat≤sizeLine:=by rw[List.size_toArray,← hl];exact hz
 have hcap:¬ its.toArray.size*k.toNat>(2 ^ 63-1) / 8:=by
  have:(sizeLine:Nat)≤(2 ^ 63-1) / 8:=by decide
  omega
 have hfit:¬ (!Builtin.List.listFitsIndex k)=true:=by
  rw[fitsIndex_both h1 h2]
  exact Bool.false_ne_true
 have hlong:¬ Builtin.List.listTooLong (its.toArray.size*k.toNat)=true:=by
  rw[QkY hlen]
  exact Bool.false_ne_true
 have hnew:List.foldl (fun x1 x2=>x1++x2) #[] (List.replicate (if its.toArray.isEmpty=true then 0 else k.toNat) its.toArray)=(List.replicate k.toNat its).flatten.toArray:=by
  have f0:∀ m:Nat,List.foldl (fun x1 x2=>x1++x2) #[] (List.replicate m its.toArray)=(List.replicate m its).flatten.toArray:=fun m=>by
   have:=Qfs its m []
   rw[List.nil_append]at this
   exact this
  rw[f0]
  cases its with
  |nil=>simp
  |cons a r'=>rw[if_neg (by simp)]
 refine wpAny_binaryOp_repeat_ref (T:="list") (U:="int") (by decide) ⟨_,e,rfl⟩ (fun s'=>typeIs_int s' k t) noFill_list_mul F.fills_int_mul F.slot_int_rmul repeat_list F.slot_int_index.lookup
  (call_meets F.slot_int_rmul (typeIs_int s k t) F.entry_int_rmul (F.args_int_rmul_2 _ _) (int___rmul___int_list k t l its.toArray n)
   ⟨e,rfl,⟨_,e,rfl⟩,call_meets F.slot_list_mul ⟨_,e,rfl⟩ F.entry_list_mul (F.args_list_mul_2 _ _) (AutoListH.list___mul___list_int_3 l its.toArray n k t hfit hcap hlong) ⟨e,?_⟩⟩)
 rw[hnew]
 exact⟨.ref _,_,I.lnew (t':=s.toks) (r.rep k.toNat) (by rw[Qm9,Nat.mul_comm];exact hz),rfl,q _ I.fresh⟩
end
section
variable {prog:Program}{w:World}{A:Around}{E:Value→Shared→Prop}{s:Shared}
end
section
variable {X:Cx}
end
end L2
namespace Att
open PySem PySem.W PySem.Calls PyProof.Rows
theorem Qdd {P:Params}{h:Heap}:∀ (ns:List Int) (vs:List Value),WellAll P h vs (ns.map WData.int)→IntsAre vs ns:=by
 intro ns
 induction ns with
 |nil =>
  intro vs w
  rw[List.map_nil]at w
  cases w
  exact .nil
 |cons n ns ih =>
  intro vs w
  rw[List.map_cons]at w
  cases w with
  |cons a b =>
   cases a
   exact .cons _ _ (ih _ b)
theorem QhZ {l:OpenLaw}{n:Nat} (hn:l.most=some n) {P:Params}{h:Heap}{args:List WData}{vals:List Value}
  (hpre:l.row.toRowW.claim.pre args=true) (hwl:WellAll P h vals args) :
  ∃ a vs ns,vals=[Value.ref a]∧args=[WData.list (ns.map WData.int)]∧h.get? a=some { cls:=.type "list",data:=.seq vs.toArray }∧IntsAre vs ns∧ns.length≤n:=by
 have hsh:WShape.hasAll [] args [.list .int]=true:=(pre_splitW hpre).1
 have hc:l.pre.holds [] { args:=args }=true:=(pre_splitW hpre).2
 obtain⟨d,r,rfl,h1,h2⟩:=hasAllW_cons hsh
 obtain rfl:=hasAllW_nil h2
 obtain⟨xs,rfl,h3⟩:=hasW_list h1
 obtain⟨ns,rfl⟩:=items_int h3
 have hlen:ns.length≤n:=by
  unfold OpenLaw.pre at hc
  have h4:(WTm.not (.lt (.lit (.int (n:Int))) (.len (.arg 0)))).holds [] { args:=[.list (ns.map .int)] }=true:=by
   have h4:=(holds_andW hc).1
   rw[hn]at h4
   exact h4
  have h5:=condW_of h4 (w_not (w_lt w_lit (w_len_list (w_arg rfl))))
  rw[List.length_map]at h5
  refine Nat.le_of_not_lt fun q=>?_
  have q':(n:Int)<((ns.length:Nat):Int):=by omega
  first
   |(rw[decide_eq_true q']at h5;exact absurd h5 (by decide))
   |(simp at h5;omega)
 cases hwl with
 |cons w1 w2 =>
  cases w2
  cases w1 with
  |list ho hall=>exact⟨_,_,ns,rfl,rfl,ho,Qdd ns _ hall,hlen⟩
theorem Qjq (l:OpenLaw) (args:List WData):l.row.toRowW.claim.post args (.bool true) args=true :=
 postW_of (r:=l.row.toRowW) (X:=(true == true))
  (show WShape.has [] (.bool true) .bool=true by first | rfl | decide | simp[WShape.has,WShape.arms,WShape.armsAll])
  (show (WTm.eq .res (.lit (.bool true))).value [] { args:=args,res:=some (.bool true),after:=args }=some (.bool (true == true)) from w_eq_bool (w_res rfl) w_lit) rfl
theorem attach_call {l:OpenLaw}{n:Nat}{q:Program}{loose:List Str}{XP:(Str→Option Value)→Heap→Prop}{YP:World→Heap→Prop}{d:DefRec}
  (hn:l.most=some n) (hdf:d.params.defaults=[])
  (call:∀ (w:World) (s₀ s₁:Shared) (mg mb:Str→Option Value) (fa:Addr) (o:Obj) (pm cd doc:Value) (a:Addr) (vs:List Value) (ns:List Int),
   Ground q loose [] XP w s₀ mg mb s₁.heap→YP w s₁.heap →
   s₁.heap.get? fa=some o→o.data=.func (docDef d.name d.params d.body d.scope pm cd doc)→s₁.heap.CodeRec cd d.name→mg d.name=some (.ref fa) →
   s₁.heap.get? a=some { cls:=.type "list",data:=.seq vs.toArray }→IntsAre vs ns→ns.length≤n→s₁.gens=#[] →
   codeAny (model l.prog w) callerA (.call (.ref fa) ⟨[.ref a],[]⟩) (fun r s'=>r=.ok (.ret (.bool true))∧OldK s₁.heap s'.heap∧s'.os=s₁.os∧AllBare s'.gens) s₁) :
  WalkO q loose XP YP l.row.toRowW d [] (fun f vs=>PySem.call f vs):=by
 intro w s₀ s₁ mg mb G Y fa o pm cd doc dV kV ho hd hcd hD hmg hg args vals as hpre hlay hrd hwl hlo
 obtain rfl:dV=.none:=Dflts.none hD hdf
 obtain rfl:kV=.none:=Dflts.noKw hD
 obtain⟨a,vs,ns,rfl,rfl,hobj,hints,hlen⟩:=QhZ hn hpre hwl
 refine enter_call (codeAny_mono (call w s₀ s₁ mg mb fa o pm cd doc a vs ns G Y ho (fd_plain hd) hcd hmg hobj hints hlen hg) fun r s' hq=>?_)
 obtain⟨rfl,h2,h3,h4⟩:=hq
 exact⟨.inl ⟨.bool true,.bool true,[],rfl,fun _=>rfl,.bool true,Qjq l _,fun _=>⟨List.Pairwise.nil,fun _ hm=>(nomatch hm)⟩⟩,h2,h3,h4⟩
section
variable {prog:Program}{w:World}{A:Around}{E:Value→Shared→Prop}{s:Shared}{K:Frag}
end
end Att
namespace L2
open PySem PySem.Spec PyProof.Rows
theorem Qcm:∀ {vs:List Value}{ns:List Int},IntsAre vs ns→Vals (ns.map V.int) vs
 |_,_,.nil=>.nil
 |_,_,.cons n t h=>.cons ⟨t,rfl⟩ (Qcm h)
noncomputable def Only (H:Hp):Prop:=∀ b,H b=none∨∃ o xs,H b=some (.frz o (.lst xs))
theorem Qlb {P:Program}{w:World}{K:PySem.W.Frag}{mg mb:Str→Option Value}{CX:CXT}{k:Nat}{fa a:Addr}{fd:FuncData}{x:Str}{sp:Sp}{s₁:Shared}{vs:List Value}{ns:List Int}
  (KX:K.In s₁.heap) (hns:s₁.heap.Ns mainGlobals mg) (hb:s₁.heap.Ns builtinsNs mb) (hbb:∀ x:Str,x≠"__name__"→mb x=bootBuiltins x) (hlim:s₁.heap.NoLimit) (hg:s₁.gens=#[])
  (ha:s₁.heap.get? a=some { cls:=.type "list",data:=.seq vs.toArray }) (hi:IntsAre vs ns) (hl:ns.length≤sizeLine) (hr:Room k callerA)
  (F:∀ base:Heap,K.In base→base.Ns mainGlobals mg→FnOk P w K mg base CX k fa fd [x] sp) (hbind:∀ (s:Shared) (u:Value),BindsTo s fd ⟨[u],[]⟩ [(x,u)])
  (hsp:∀ H:Hp,Only H→SqL K H a (ns.map V.int)→sp [.ref a] H (fun v _=>v=.bl true) fun _ _ _=>False)
  (hCX:∀ H e s',CX [] H s₁ (fun _ _ _=>False) e s'→False) :
  codeAny (model P w) callerA (.call (.ref fa) ⟨[.ref a],[]⟩) (fun r s'=>r=.ok (.ret (.bool true))∧OldK s₁.heap s'.heap∧s'.os=s₁.os∧AllBare s'.gens) s₁:=by
 have rv:=Qcm hi
 have lenV:=hi.length
 have core:∀ H:Hp,Only H→SqL K H a (ns.map V.int)→HOk P w H s₁.heap→(∀ b,H b≠none→b=a)→(H a≠none→K.lookup a=none) →
   codeAny (model P w) callerA (.call (.ref fa) ⟨[.ref a],[]⟩) (fun r s'=>r=.ok (.ret (.bool true))∧OldK s₁.heap s'.heap∧s'.os=s₁.os∧AllBare s'.gens) s₁:=by
  intro H hO hS hok hA hK
  have Qex:∀ {b:Addr}{o:Obj},s₁.heap.get? b=some o→H b=none→(Qk8 s₁.heap H).get? b=some o:=fun e n=>Qkt e n
  have noA:∀ {b:Addr}{o:Obj}{es:Array DictEntry}{ep:Nat},s₁.heap.get? b=some o→o.data=.dict es ep→H b=none:=fun {b o es ep} e d=>by
   cases q:H b with
   |none=>rfl
   |some u =>
    have e':b=a:=hA b (by rw[q];simp)
    subst e'
    rw[ha]at e;cases e
    have d':Data.seq vs.toArray _=Data.dict es ep:=d
    cases d'
  have nsK:∀ {b:Addr}{m:Str→Option Value},s₁.heap.Ns b m→(Qk8 s₁.heap H).Ns b m:=fun {b m} ⟨o,es,ep,e,d,r⟩=>⟨o,es,ep,Qex e (noA e d),d,r⟩
  have hKb:K.In (Qk8 s₁.heap H):=fun b o e=>Qex (KX b o e) (by
   cases q:H b with
   |none=>rfl
   |some u =>
    have e':b=a:=hA b (by rw[q];simp)
    subst e'
    rw[hK (by rw[q];simp)]at e;cases e)
  have hM:Mod K mg (Qk8 s₁.heap H):=⟨hKb,nsK hns,⟨mb,nsK hb,hbb⟩,let ⟨mc,h1,h2⟩:=hlim;⟨mc,nsK h1,h2⟩⟩
  have e0:Env0 P w K mg (Qk8 s₁.heap H) callerA [] s₁ H:=⟨rfl,hM,fun b o e=>QmX e,Nat.le_of_eq (Qjg _ _),trivial,fun b hb=>absurd (show b∈([]:List Addr) from hb) (by simp),hok,.of_eq hg⟩
  refine codeAny_mono ((F _ hKb (nsK hns)).run callerA [] s₁ H ⟨[.ref a],[]⟩ [.ref a] [.ref a] _ _ hr e0 (hbind s₁ (.ref a)) (.cons rfl .nil) (hsp H hO hS)) fun r s' h=>?_
  cases r with
  |error e=>exact(hCX H e s' h).elim
  |ok fl =>
   cases fl with
   |next=>exact False.elim h
   |brk=>exact False.elim h
   |cont=>exact False.elim h
   |ret u =>
    obtain⟨v,H',os,bare,un,hok',r',q⟩:=h
    have q':v=.bl true:=q
    subst q'
    obtain rfl:u=Value.bool true:=r'
    refine⟨rfl,OldK.of_keep fun b o e=>?_,os,bare⟩
    cases q:H b with
    |none=>exact un.keep b o e q (by intro z;exact absurd (show b∈([]:List Addr) from z) (by simp)) (by simp)
    |some u =>
     rcases hO b with z | ⟨ob,xs,z⟩
     ·rw[q]at z;cases z
     ·have z2:=un.frzs b ob _ z
      obtain⟨e1,_⟩:=hok b _ z
      obtain⟨e2,_⟩:=hok' b _ z2
      rw[e]at e1;cases e1
      exact e2
 cases hk:K.lookup a with
 |some o =>
  have e:=KX a o hk
  rw[ha]at e
  cases e
  refine core (fun _=>none) (fun _=>.inl rfl) (.inr ⟨_,vs.toArray,_,hk,rfl,rfl,rfl,by rw[List.size_toArray,lenV];exact hl,by simpa using rv⟩) (fun b u z=>by have z':(none:Option HO)=some u:=z;cases z') (fun b z=>absurd rfl z) fun z=>absurd rfl z
 |none =>
  refine core (fun b=>if b=a then some (.frz { cls:=.type "list",data:=.seq vs.toArray } (.lst (ns.map V.int))) else none) (fun b=>?_) (.inl (.inr ⟨{ cls:=.type "list",data:=.seq vs.toArray },if_pos rfl⟩)) (fun b u z=>?_) (fun b z=>?_) fun _=>hk
  ·by_cases hb:b=a
   ·exact .inr ⟨_,_,if_pos hb⟩
   ·exact .inl (if_neg hb)
  ·by_cases hb:b=a
   ·have z':=(if_pos hb).symm.trans z
    cases z'
    subst hb
    exact⟨ha,by rw[List.length_map];exact hl,vs,_,rv,ha⟩
   ·have z':=(if_neg hb).symm.trans z
    cases z'
  ·by_cases hb:b=a
   ·exact hb
   ·exact absurd (if_neg hb) z
end L2
namespace L2
open PySem PySem.Spec PyProof.Rows
noncomputable abbrev KOf {K:PySem.W.Frag}{h:Heap} (_:K.In h):PySem.W.Frag:=K
theorem walk_of {l:PySem.W.OpenLaw}{n k:Nat}{q:Program}{loose:List Str}{XP:(Str→Option Value)→Heap→Prop}{YP:World→Heap→Prop}{d:DefRec}{K:Params→PySem.W.Frag}{CX:World→CXT}{sp:World→Sp}{x:Str}
  (hn:l.most=some n) (hn2:n≤sizeLine) (hdf:d.params.defaults=[]) (hr:Room k callerA)
  (hY:∀ (w:World) (h:Heap),YP w h→(K w.params).In h)
  (F:∀ (w:World) (mg:Str→Option Value) (fa:Addr) (h:Heap),(K w.params).In h→h.Ns mainGlobals mg→mg d.name=some (.ref fa) →
   ∃ fd:FuncData,(∀ (s:Shared) (u:Value),BindsTo s fd ⟨[u],[]⟩ [(x,u)]) ∧
    ∀ base:Heap,(K w.params).In base→base.Ns mainGlobals mg→FnOk l.prog w (K w.params) mg base (CX w) k fa fd [x] (sp w))
  (hsp:∀ (w:World) (H:Hp) (a:Addr) (ns:List Int),ns.length≤n→Only H→SqL (K w.params) H a (ns.map V.int)→sp w [.ref a] H (fun v _=>v=.bl true) fun _ _ _=>False)
  (hCX:∀ (w:World) (H:Hp) (s:Shared) (e:Value) (s':Shared),CX w [] H s (fun _ _ _=>False) e s'→False) :
  PySem.W.WalkO q loose XP YP l.row.toRowW d [] (fun f vs=>PySem.call f vs):=by
 refine Att.attach_call hn hdf fun w s₀ s₁ mg mb fa o pm cd doc a vs ns G Y ho hd hcd hmg hobj hints hlen hg=>?_
 have KX:=hY w _ Y
 obtain⟨fd,hb,hF⟩:=F w mg fa _ KX G.T.g hmg
 exact Qlb KX G.T.g G.T.b G.T.builtins G.T.nolimit hg hobj hints (Nat.le_trans hlen hn2) hr hF hb (fun H hO hS=>hsp w H a ns hlen hO hS) fun H e s'=>hCX w H s₁ e s'
end L2
namespace L2
open PySem PySem.Spec PyProof.Rows
def Qbx (s:Stmt):Arguments:=match s with
 |.FunctionDef _ a _ _ _ _ _ _ _ _=>a
 |_=>{ posonlyargs:=[],args:=[],vararg:=none,kwonlyargs:=[],kw_defaults:=[],kwarg:=none,defaults:=[] }
def Qbb (s:Stmt):List Stmt:=match s with
 |.FunctionDef _ _ b _ _ _ _ _ _ _=>b
 |_=>[]
def Qas (s:Stmt):Scope:=match s with
 |.FunctionDef _ _ _ _ _ _ sc _ _ _=>sc
 |_=>{ kind:=.function,names:=[],isGenerator:=false,isCoroutine:=false }
structure Fun (K:PySem.W.Frag) (x qual:Str) (st:Stmt) (f:Addr) (fd:FuncData):Prop where
 ex:∃ (oc:Value) (od:Option Addr) (kV doc pm:Value) (an:Option Addr) (cdv ct:Value) (osl:Array (Option Value)),
  fd=PySem.W.fnOf x qual (Qbx st) (Qbb st) (Qas st) .none kV doc pm an cdv ct∧K.lookup f=some ⟨oc,od,.func fd,osl⟩∧PySem.W.codeIn K cdv qual=true
 kp:PySem.W.keepIn K (.ref f)=true
section
variable {P:Program}{w:World}{K:PySem.W.Frag}{mg:Str→Option Value}{base:Heap}
theorem fun_mk {x qual:Str}{st:Stmt}{f:Addr}{oc:Value}{od an:Option Addr}{osl:Array (Option Value)}{kV doc pm cdv ct:Value} (l:K.lookup f=some ⟨oc,od,.func (PySem.W.fnOf x qual (Qbx st) (Qbb st) (Qas st) .none kV doc pm an cdv ct),osl⟩)
 (c:PySem.W.codeIn K cdv qual=true) (k:PySem.W.keepIn K (.ref f)=true):Fun K x qual st f (PySem.W.fnOf x qual (Qbx st) (Qbb st) (Qas st) .none kV doc pm an cdv ct):=⟨⟨oc,od,kV,doc,pm,an,cdv,ct,osl,rfl,l,c⟩,k⟩
end
section
variable {X:Cx}
end
theorem Qnk {A B:Prop} (h:B):if false=true then A else B:=by
 rw[if_neg Bool.false_ne_true]
 exact h
theorem Qn3 {A B:Prop} (h:A):if true=true then A else B:=by
 rw[if_pos rfl]
 exact h
end L2
namespace L2
open PySem PySem.Spec PyProof.Rows
section
variable {κ:Type} [DecidableEq κ]
noncomputable def QfP (kvs:List (κ×V)) (k:κ):Option V:=(kvs.find? fun kv=>decide (kv.1=k)).map (·.2)
noncomputable def QeI (kvs:List (κ×V)) (k:κ) (v:V):List (κ×V) :=
 if (kvs.any fun kv=>decide (kv.1=k))=true then kvs.map (fun kv=>if kv.1=k then (kv.1,v) else kv) else kvs++[(k,v)]
theorem QcP {p:κ×V}{r:List (κ×V)}{k:κ} (e:p.1=k):QfP (p::r) k=some p.2:=by simp[QfP,List.find?_cons,e]
theorem QcV {p:κ×V}{r:List (κ×V)}{k:κ} (e:¬ p.1=k):QfP (p::r) k=QfP r k:=by simp[QfP,List.find?_cons,e]
theorem QgK (k:κ):∀ kvs:List (κ×V),(kvs.any fun kv=>decide (kv.1=k))=(QfP kvs k).isSome
 |[]=>rfl
 |p::r=>by
  rw[List.any_cons]
  by_cases e:p.1=k
  ·simp only[QcP e,decide_eq_true e,Bool.true_or,Option.isSome_some]
  ·rw[QcV e,decide_eq_false e,Bool.false_or];exact QgK k r
theorem Qcc (kvs:List (κ×V)) (k:κ) (v:V):(QeI kvs k v).length≤kvs.length+1:=by
 unfold QeI
 split
 ·rw[List.length_map];omega
 ·rw[List.length_append,List.length_cons,List.length_nil];omega
theorem RelO.isSome_eq {o:Option V}{u:Option Value} (r:RelO o u):o.isSome=u.isSome:=by
 cases o with
 |none=>cases u with
  |none=>rfl
  |some _=>exact(show False from r).elim
 |some _=>cases u with
  |none=>exact(show False from r).elim
  |some _=>rfl
theorem KV.val {kvs:List (κ×V)}{vs:List (κ×Value)} (r:KV kvs vs) (k:κ):RelO (QfP kvs k) (valueAt vs k):=by
 unfold KV at r
 induction r with
 |nil=>exact True.intro
 | @cons p q ps qs h t ih =>
  obtain⟨h1,h2⟩:=h
  by_cases e:p.1=k
  ·have e':q.1=k:=h1.symm.trans e
   have b:valueAt (q::qs) k=some q.2:=by simp[valueAt,List.find?_cons,e']
   rw[QcP e,b];exact h2
  ·have e':¬ q.1=k:=fun z=>e (h1.trans z)
   have b:valueAt (q::qs) k=valueAt qs k:=by simp[valueAt,List.find?_cons,e']
   rw[QcV e,b];exact ih
theorem KV.any {kvs:List (κ×V)}{vs:List (κ×Value)} (r:KV kvs vs) (k:κ):(kvs.any fun kv=>decide (kv.1=k))=vs.any fun kv=>decide (kv.1=k):=by
 unfold KV at r
 induction r with
 |nil=>rfl
 |cons h t ih=>rw[List.any_cons,List.any_cons,ih,h.1]
theorem KV.repl {kvs:List (κ×V)}{vs:List (κ×Value)} (r:KV kvs vs) (k:κ) {y:V}{u:Value} (ry:RelV y u) :
  KV (kvs.map fun kv=>if kv.1=k then (kv.1,y) else kv) (vs.map fun kv=>if kv.1=k then (kv.1,u) else kv):=by
 unfold KV at r ⊢
 induction r with
 |nil=>exact .nil
 | @cons p q ps qs h t ih =>
  rw[List.map_cons,List.map_cons]
  refine .cons ?_ ih
  obtain⟨h1,h2⟩:=h
  by_cases e:p.1=k
  ·rw[if_pos e,if_pos (h1.symm.trans e)];exact⟨h1,ry⟩
  ·rw[if_neg e,if_neg (fun z=>e (h1.trans z))];exact⟨h1,h2⟩
theorem KV.put {kvs:List (κ×V)}{vs:List (κ×Value)} (r:KV kvs vs) (k:κ) {y:V}{u:Value} (ry:RelV y u):KV (QeI kvs k y) (stored vs k u):=by
 unfold QeI stored
 rw[r.any k]
 by_cases e:(vs.any fun kv=>decide (kv.1=k))=true
 ·rw[if_pos e,if_pos e];exact r.repl k ry
 ·rw[if_neg e,if_neg e];exact Paired.snoc r ⟨rfl,ry⟩
theorem KV.keys {kvs:List (κ×V)}{vs:List (κ×Value)} (r:KV kvs vs):kvs.map (·.1)=vs.map (·.1):=by
 unfold KV at r
 induction r with
 |nil=>rfl
 |cons h t ih=>rw[List.map_cons,List.map_cons,ih,h.1]
theorem KV.length {kvs:List (κ×V)}{vs:List (κ×Value)} (r:KV kvs vs):kvs.length=vs.length:=Paired.length r
end
theorem Qh8 {P:Program}{w:World}{k:Key}{u:Value} (r:RelV (kV k) u):(QaA P w).is k u=true:=by
 cases k with
 |inl i=>obtain⟨t,e⟩:=(show ∃ t,u=Value.int i t from r);subst e;exact Qgo P w i t
 |inr x=>obtain⟨t,e⟩:=(show ∃ t,u=Value.str x t from r);subst e;exact QfS P w x t
theorem Qfp {P:Program}{w:World}:∀ {ks:List Key}{us:List Value},Vals (ks.map kV) us→ItemsAre (QaA P w) ks us
 |[],_,r=>by rw[List.map_nil]at r;cases r;exact .nil
 |k::ks,_,r=>by
  rw[List.map_cons]at r
  cases r with
  |cons h t=>exact .cons (Qh8 h) (Qfp t)
noncomputable abbrev KT (H:Hp):List (List Key×V)→List (List Key×Addr×Value)→Prop:=Paired fun p q=>p.1=q.1∧H q.2.1=some (.tup (p.1.map kV))∧RelV p.2 q.2.2
theorem KT.val {H:Hp}{kvs:List (List Key×V)}{xs:List (List Key×Addr×Value)} (r:KT H kvs xs) (k:List Key):RelO (QfP kvs k) ((atKey xs k).map (·.2)):=by
 induction r with
 |nil=>exact True.intro
 | @cons p q ps qs h t ih =>
  obtain⟨h1,_,h2⟩:=h
  by_cases e:p.1=k
  ·have e':q.1=k:=h1.symm.trans e
   have b:atKey (q::qs) k=some q.2:=by simp[atKey,List.find?_cons,e']
   rw[QcP e,b];exact h2
  ·have e':¬ q.1=k:=fun z=>e (h1.trans z)
   have b:atKey (q::qs) k=atKey qs k:=by simp[atKey,List.find?_cons,e']
   rw[QcV e,b];exact ih
theorem KT.repl {H:Hp}{kvs:List (List Key×V)}{xs:List (List Key×Addr×Value)} (r:KT H kvs xs) (k:List Key) {y:V}{u:Value} (ry:RelV y u) :
  KT H (kvs.map fun kv=>if kv.1=k then (kv.1,y) else kv) (xs.map (putAt k u)):=by
 induction r with
 |nil=>exact .nil
 | @cons p q ps qs h t ih =>
  rw[List.map_cons,List.map_cons]
  refine .cons ?_ ih
  obtain⟨h1,h2,h3⟩:=h
  unfold putAt
  by_cases e:p.1=k
  ·rw[if_pos e,if_pos (h1.symm.trans e)];exact⟨h1,h2,ry⟩
  ·rw[if_neg e,if_neg (fun z=>e (h1.trans z))];exact⟨h1,h2,h3⟩
theorem KT.put {H:Hp}{kvs:List (List Key×V)}{xs:List (List Key×Addr×Value)} (r:KT H kvs xs) (k:List Key) {b:Addr}{y:V}{u:Value} (hb:H b=some (.tup (k.map kV))) (ry:RelV y u) :
  KT H (QeI kvs k y) (storedH xs k b u):=by
 have e:(kvs.any fun kv=>decide (kv.1=k))=(atKey xs k).isSome:=by
  rw[QgK,(r.val k).isSome_eq,Option.isSome_map]
 unfold QeI storedH
 rw[e]
 by_cases q:(atKey xs k).isSome=true
 ·rw[if_pos q,if_pos q];exact r.repl k ry
 ·rw[if_neg q,if_neg q];exact Paired.snoc r ⟨rfl,hb,ry⟩
theorem KT.keeps {H H':Hp}{kvs:List (List Key×V)}{xs:List (List Key×Addr×Value)} (r:KT H kvs xs) (ht:∀ b ys,H b=some (.tup ys)→H' b=some (.tup ys)):KT H' kvs xs :=
 Paired.mapP r fun _ _ z=>⟨z.1,ht _ _ z.2.1,z.2.2⟩
section
variable {P:Program}{w:World}{H:Hp}{h:Heap}{a:Addr}
theorem rd_of {u:HO} (ok:HOk P w H h) (e:Rd H a u):ObjOk P w H h a u:=e.ok ok
theorem Qgp {kvs:List (Key×V)} (ok:HOk P w H h) (e:Rd H a (.dK kvs)):kvs.length≤sizeLine∧(a == sysModules)=false∧∃ vs,KV kvs vs∧h.DictOf (QaA P w) a vs :=
 show ObjOk P w H h a (.dK kvs) from rd_of ok e
theorem Qmx {kvs:List (Key×V)} (ok:HOk P w H h) (e:H a=some (.dK kvs)):kvs.length≤sizeLine∧(a == sysModules)=false∧∃ vs,KV kvs vs∧h.DictOf (QaA P w) a vs:=Qgp ok (.inl e)
theorem QeV {ks:List Key} (ok:HOk P w H h) (e:H a=some (.tup (ks.map kV))):(tupleKind (QaA P w)).is h ks a:=by
 obtain⟨_,its,r,o,h1,h2,n,h3⟩:=(show ObjOk P w H h a (.tup (ks.map kV)) from ok a _ e)
 exact⟨o,its.toArray,n,h1,h2,h3,by simpa using Qfp r⟩
theorem Qir {kvs:List (List Key×V)} (ok:HOk P w H h) (e:Rd H a (.dT kvs)):kvs.length≤sizeLine∧(a == sysModules)=false ∧
  ∃ xs,KT H kvs xs∧h.DictOfH (tupleKind (QaA P w)) a xs:=by
 obtain⟨z,y,xs,r,o,es,ep,h1,h2,h3,h4,h5⟩:=(show ObjOk P w H h a (.dT kvs) from rd_of ok e)
 refine⟨z,y,xs,r,o,es,ep,h1,h2,h3,h4,fun x hx=>?_,h5⟩
 have all:∀ {l:List (List Key×V)}{m:List (List Key×Addr×Value)},KT H l m→∀ x∈m,(tupleKind (QaA P w)).is h x.1 x.2.1:=by
  intro l m q
  induction q with
  |nil=>intro x hx;exact nomatch hx
  | @cons p q ps qs hq t ih =>
   intro x hx
   rcases List.mem_cons.mp hx with e | hx
   ·subst e
    exact QeV ok (by rw[← hq.1];exact hq.2.1)
   ·exact ih x hx
 exact all r x hx
theorem dt_of {kvs:List (List Key×V)} (ok:HOk P w H h) (e:H a=some (.dT kvs)):kvs.length≤sizeLine∧(a == sysModules)=false ∧
 ∃ xs,KT H kvs xs∧h.DictOfH (tupleKind (QaA P w)) a xs:=Qir ok (.inl e)
end
noncomputable def DGet (H:Hp) (a:Addr) (y:V) (r:Option V):Prop :=
 (∃ kvs k,Rd H a (.dK kvs)∧y=kV k∧r=QfP kvs k)∨∃ kvs k b,Rd H a (.dT kvs)∧y=.ref b∧H b=some (.tup (k.map kV))∧r=QfP kvs k
noncomputable def DPut (H:Hp) (a:Addr) (y v:V) (H':Hp):Prop :=
 (∃ kvs k,H a=some (.dK kvs)∧y=kV k∧kvs.length<sizeLine∧H'=upd H a (.dK (QeI kvs k v))) ∨
 ∃ kvs k b,H a=some (.dT kvs)∧y=.ref b∧H b=some (.tup (k.map kV))∧kvs.length<sizeLine∧H'=upd H a (.dT (QeI kvs k v))
theorem DGet.k {H:Hp}{a:Addr}{kvs:List (Key×V)}{k:Key} (e:H a=some (.dK kvs)):DGet H a (kV k) (QfP kvs k):=.inl ⟨kvs,k,.inl e,rfl,rfl⟩
theorem DPut.k {H:Hp}{a:Addr}{kvs:List (Key×V)}{k:Key}{v:V} (e:H a=some (.dK kvs)) (hl:kvs.length<sizeLine):DPut H a (kV k) v (upd H a (.dK (QeI kvs k v))):=.inl ⟨kvs,k,e,rfl,hl,rfl⟩
section
variable {X:Cx}{pins:List (Addr×Obj)}{σ:St}{H:Hp}{s:Shared}{a:Addr}{y v:V}{u r:Value}{o:Option V}{A:Around}{E:Value→Shared→Prop}
theorem Inv.big (I:Inv X pins σ H s):sysModules<s.heap.objs.size:=by
 have h:mainGlobals<s.heap.objs.size:=(I.mod.glob.keeps I.bk).lt
 exact Nat.lt_trans (by decide) h
theorem QiS {Q:Value→Shared→Prop} (hu:A.units+1<cLine) (I:Inv X pins σ H s) (g:DGet H a y (some v)) (ry:RelV y u) (h:∀ w' s',Inv X pins σ H s'→RelV v w'→Q w' s') :
  wpAny (model X.prog X.w) A (getItem (.ref a) u) Q E s:=by
 rcases g with ⟨kvs,k,e,ey,l⟩ | ⟨kvs,k,b,e,ey,eb,l⟩
 ·subst ey
  obtain⟨z,hd,vs,rel,dd⟩:=Qgp I.hok e
  obtain⟨w',hw,rw'⟩:=RelO.some_of (v:=v) (o:=valueAt vs k) (by rw[l];exact rel.val k)
  exact wpAny_getItem_of (Qh8 ry) dd.mapOf hw (h w' _ (I.tok _) rw')
 ·subst ey
  cases (show u=Value.ref b from ry)
  obtain⟨z,hd,xs,rel,dd⟩:=Qir I.hok e
  obtain⟨w',hw,rw'⟩:=RelO.some_of (v:=v) (o:=(atKey xs k).map (·.2)) (by rw[l];exact rel.val k)
  obtain⟨p,hp,hp2⟩:=Option.map_eq_some_iff.mp hw
  refine wpAny_getItem_heap (tupleKind_room_in1 hu) (QeV I.hok eb) dd hp ?_
  rw[hp2]
  exact h w' _ (I.tok _) rw'
theorem d_in {Q:Value→Shared→Prop} (hu:A.units+1<cLine) (I:Inv X pins σ H s) (g:DGet H a y o) (ry:RelV y u) (h:∀ s',Inv X pins σ H s'→Q (.bool o.isSome) s') :
  wpAny (model X.prog X.w) A (compareOp .In u (.ref a)) Q E s:=by
 rcases g with ⟨kvs,k,e,ey,l⟩ | ⟨kvs,k,b,e,ey,eb,l⟩
 ·subst ey
  obtain⟨z,hd,vs,rel,dd⟩:=Qgp I.hok e
  refine wpAny_in_of (Qh8 ry) hd dd.mapOf ?_
  rw[← (rel.val k).isSome_eq,← l]
  exact h _ (I.tok _)
 ·subst ey
  cases (show u=Value.ref b from ry)
  obtain⟨z,hd,xs,rel,dd⟩:=Qir I.hok e
  refine wpAny_in_heap (tupleKind_room_in1 hu) (QeV I.hok eb) hd dd ?_
  have q:=(rel.val k).isSome_eq
  rw[Option.isSome_map]at q
  rw[← q,← l]
  exact h _ (I.tok _)
theorem Qmq {Q:Value→Shared→Prop} (hu:A.units+1<cLine) (I:Inv X pins σ H s) (g:DGet H a y o) (ry:RelV y u) (h:∀ s',Inv X pins σ H s'→Q (.bool (!o.isSome)) s') :
  wpAny (model X.prog X.w) A (compareOp .NotIn u (.ref a)) Q E s:=by
 rcases g with ⟨kvs,k,e,ey,l⟩ | ⟨kvs,k,b,e,ey,eb,l⟩
 ·subst ey
  obtain⟨z,hd,vs,rel,dd⟩:=Qgp I.hok e
  refine wpAny_notIn_of (Qh8 ry) hd dd.mapOf ?_
  rw[← (rel.val k).isSome_eq,← l]
  exact h _ (I.tok _)
 ·subst ey
  cases (show u=Value.ref b from ry)
  obtain⟨z,hd,xs,rel,dd⟩:=Qir I.hok e
  refine wpAny_notIn_heap (tupleKind_room_in1 hu) (QeV I.hok eb) hd dd ?_
  have q:=(rel.val k).isSome_eq
  rw[Option.isSome_map]at q
  rw[← q,← l]
  exact h _ (I.tok _)
theorem Qgn {h':Heap}{t':Nat}{ob:HO} (I:Inv X pins σ H s) (mu:Mut (H a)) (hs:Heap.SameBut a s.heap h') (he:∃ q,h'.get? a=some q) (new:ObjOk X.prog X.w (upd H a ob) h' a ob) :
  Inv X pins σ (upd H a ob) { s with heap:=h',toks:=t' } :=
 I.write (x:=a) (e:=a) mu (.inl rfl) (fun b q hb z=>(hs.2 b hb).trans z) he new
theorem QiW {P:Program}{w:World}{H':Hp}{h':Heap}{kvs:List (Key×V)}{vs:List (Key×Value)} (z:kvs.length≤sizeLine) (hd:(a == sysModules)=false) (rel:KV kvs vs) (dd:h'.DictOf (QaA P w) a vs) :
 ObjOk P w H' h' a (.dK kvs):=⟨z,hd,vs,rel,dd⟩
theorem QiA {H':Hp}{Q:Unit→Shared→Prop} (hu:A.units+1<cLine) (I:Inv X pins σ H s) (g:DPut H a y v H') (ry:RelV y u) (rv:RelV v r) (h:∀ s',Inv X pins σ H' s'→Q () s') :
  wpAny (model X.prog X.w) A (setItem (.ref a) u r) Q E s:=by
 rcases g with ⟨kvs,k,e,ey,l,eH⟩ | ⟨kvs,k,b,e,ey,eb,l,eH⟩
 ·subst ey eH
  obtain⟨z,hd,vs,rel,dd⟩:=Qmx I.hok e
  have hz:vs.length≤sizeLine:=by rw[← rel.length];exact z
  have hl:(QeI kvs k v).length≤sizeLine:=by have:=Qcc kvs k v;omega
  refine wpAny_setItem_pairs (hsz:=hz) (Qh8 ry) dd fun h' dd' hs=>h _ ?_
  have he:∃ q,h'.get? a=some q:=let ⟨q,_,_,hq,_⟩:=dd';⟨q,hq⟩
  exact Qgn I (by rw[e];exact True.intro) hs he (QiW hl hd (rel.put k rv) dd')
 ·subst ey eH
  cases (show u=Value.ref b from ry)
  obtain⟨z,hd,xs,rel,dd⟩:=dt_of I.hok e
  have hz:xs.length≤sizeLine:=by rw[← Paired.length rel];exact z
  have hl:(QeI kvs k v).length≤sizeLine:=by have:=Qcc kvs k v;omega
  refine wpAny_setItem_heap (hsz:=hz) (tupleKind_room_in1 hu) (QeV I.hok eb) dd fun h' dd' hs=>h _ ?_
  obtain⟨q,es,ep,hq,h2,h3,h4,_,h5⟩:=dd'
  refine Qgn I (by rw[e];exact True.intro) hs ⟨q,hq⟩ ⟨hl,hd,_,(rel.put k eb rv).keeps fun c ys ec=>?_,q,es,ep,hq,h2,h3,h4,h5⟩
  rw[Qar (ne_of ec e (fun z=>nomatch z))]
  exact ec
end
section
variable {X:Cx}{pins:List (Addr×Obj)}{σ:St}{H:Hp}{s:Shared}{a:Addr}{kvs:List (Key×V)}{k:Key}{u:Value}{A:Around}{E:Value→Shared→Prop}
theorem d_len {Q:Value→Shared→Prop} (I:Inv X pins σ H s) (e:Rd H a (.dK kvs)) (h:∀ t s',Inv X pins σ H s'→Q (.int kvs.length t) s'):wpAny (model X.prog X.w) A (call (.builtin "len") [.ref a]) Q E s:=by
 obtain⟨z,hd,vs,rel,dd⟩:=Qgp I.hok e
 refine call_len_dict hd dd (by rw[← rel.length];rw[sizeLine_eq]at z;omega) ?_
 rw[← rel.length]
 exact h _ _ (I.tok _)
end
theorem Qgl {X:Cx}{pins:List (Addr×Obj)}{σ:St}{H:Hp}{s:Shared}{a:Addr}{y:V}{o:Option V} (I:Inv X pins σ H s) (g:DGet H a y o):s.TypeIs (.ref a) "dict":=by
 rcases g with ⟨kvs,k,e,_,_⟩ | ⟨kvs,k,b,e,_,_,_⟩
 ·obtain⟨_,_,vs,_,dd⟩:=Qgp I.hok e
  exact dd.typeIs
 ·obtain⟨_,_,xs,_,dd⟩:=Qir I.hok e
  exact dd.typeIs
section
variable {X:Cx}{o i e value:Expr}{pos pos' tpos:Pos}{td ty tv:TE}
end
theorem Qgx {P:Program}{w:World}{H:Hp} (h:Heap) (hb:sysModules<h.objs.size):ObjOk P w H (h.push { cls:=.type "dict",data:=.dict #[] }) h.objs.size (.dK []) :=
 ⟨Nat.zero_le _,beq_eq_false_iff_ne.mpr (Ne.symm (Nat.ne_of_lt hb)),[],.nil,Heap.DictOf.new h⟩
noncomputable def tDNewK:TE:=fun _ H Q=>∀ p,H p=none→Q (.ref p) (upd H p (.dK []))
section
variable {X:Cx}{pos:Pos}
theorem QjT:PE X (.Dict [] [] pos) tDNewK:=fun pins s σ H Q I h =>
 wpAny_Dict_empty ⟨.ref s.heap.objs.size,_,I.laid (a:=s.heap.objs.size) (o:=.dK []) (t':=s.toks) (fun _ _ q=>Heap.get?_push_of_some _ q) (Nat.le_refl _) (Qgx s.heap I.big),rfl,h _ (I.hok.fresh (Nat.le_refl _))⟩
end
noncomputable def Qjv:List (TE×TE)→St→Hp→(List (V×V)→Hp→Prop)→Prop
 |[],_,H,Q=>Q [] H
 |(tk,tv)::r,σ,H,Q=>tk σ H fun x H1=>tv σ H1 fun y H2=>Qjv r σ H2 fun ps H3=>Q ((x,y)::ps) H3
noncomputable abbrev VV:List (V×V)→List (Value×Value)→Prop:=Paired fun p q=>RelV p.1 q.1∧RelV p.2 q.2
noncomputable def PPs (X:Cx) (pos:Pos) (keys:List (Option Expr)) (values:List Expr) (trs:List (TE×TE)):Prop :=
 ∀ (pins:List (Addr×Obj)) (s:Shared) (σ:St) (H:Hp) (Q:List (V×V)→Hp→Prop),Inv X pins σ H s→Qjv trs σ H Q →
  wpAny (model X.prog X.w) X.A (evalPairs (pairTrees keys values X.env pos)) (fun vs s'=>∃ ps H',Inv X pins σ H' s'∧VV ps vs∧Q ps H') X.xe s
theorem QlV {X:Cx}{pos:Pos}:PPs X pos [] [] []:=fun pins s σ H Q I h=>pairTrees_nil_walk ⟨[],H,I,.nil,h⟩
theorem Qla {X:Cx}{pos:Pos}{k v:Expr}{ks:List (Option Expr)}{vs:List Expr}{tk tv:TE}{trs:List (TE×TE)} (hk:PE X k tk) (hv:PE X v tv) (hr:PPs X pos ks vs trs) :
  PPs X pos (some k::ks) (v::vs) ((tk,tv)::trs):=fun pins s σ H Q I h =>
 pairTrees_cons_walk (thn (hk pins s σ H _ I h) fun u s1 ⟨x,H1,I1,rx,q1⟩=>thn (hv pins s1 σ H1 _ I1 q1) fun w2 s2 ⟨y,H2,I2,ry,q2⟩ =>
  thn (hr pins s2 σ H2 _ I2 q2) fun ws s3 ⟨ps,H3,I3,rel,q3⟩=>⟨(x,y)::ps,H3,I3,.cons ⟨rx,ry⟩ rel,q3⟩)
noncomputable def QeT (kvs more:List (Key×V)):List (Key×V):=more.foldl (fun acc kv=>QeI acc kv.1 kv.2) kvs
theorem KV.merge:∀ {more:List (Key×V)}{rs:List (Key×Value)}{kvs:List (Key×V)}{vs:List (Key×Value)},KV more rs→KV kvs vs→KV (QeT kvs more) (merged vs rs):=by
 intro more rs kvs vs r
 unfold KV at r
 induction r generalizing kvs vs with
 |nil=>intro q;exact q
 | @cons p q ps qs h t ih =>
  intro r0
  have e:KV (QeI kvs p.1 p.2) (stored vs q.1 q.2):=by
   have:=r0.put p.1 h.2
   rw[← h.1];exact this
  exact ih e
theorem Qci:∀ (more kvs:List (Key×V)),(QeT kvs more).length≤kvs.length+more.length
 |[],kvs=>by show kvs.length≤kvs.length+0;omega
 |p::r,kvs=>by
  have h1:=Qci r (QeI kvs p.1 p.2)
  have h2:=Qcc kvs p.1 p.2
  show (QeT (QeI kvs p.1 p.2) r).length≤_
  rw[List.length_cons];omega
theorem QdH {P:Program}{w:World}:∀ {kvs:List (Key×V)}{ws:List (Value×Value)},VV (kvs.map fun kv=>(kV kv.1,kv.2)) ws→∃ rs,Carries (QaA P w) ws rs∧KV kvs rs
 |[],_,r=>by rw[List.map_nil]at r;cases r;exact⟨[],True.intro,.nil⟩
 |p::kvs,_,r=>by
  rw[List.map_cons]at r
  cases r with
  | @cons a b as bs h t =>
   obtain⟨rs,c,q⟩:=QdH (P:=P) (w:=w) t
   obtain⟨b1,b2⟩:=b
   exact⟨(p.1,b2)::rs,⟨Qh8 h.1,rfl,c⟩,.cons ⟨rfl,h.2⟩ q⟩
noncomputable def tDisp (trs:List (TE×TE)):TE:=fun σ H Q=>∀ p,H p=none→Qjv trs σ (upd H p (.dK [])) fun ps H2=>H2 p=some (.dK [])∧∃ kvs:List (Key×V),ps=kvs.map (fun kv=>(kV kv.1,kv.2))∧kvs.length≤15∧Q (.ref p) (upd H2 p (.dK (QeT [] kvs)))
theorem QmP {X:Cx}{pos:Pos}{keys:List (Option Expr)}{values:List Expr}{trs:List (TE×TE)} (h:PPs X pos keys values trs) (hall:keys.all (·.isSome)=true) (hl:keys.length=values.length) (h0:keys≠[])
  (h15:keys.length≤15):PE X (.Dict keys values pos) (tDisp trs):=by
 intro pins s σ H Q I q
 have hn:=I.hok.fresh (Nat.le_refl s.heap.objs.size)
 have I1:=I.laid (a:=s.heap.objs.size) (o:=.dK []) (h':=s.heap.push { cls:=.type "dict",data:=.dict #[] }) (t':=s.toks) (fun _ _ q=>Heap.get?_push_of_some _ q) (Nat.le_refl _) (Qgx s.heap I.big)
 refine wpAny_Dict_walk (knd:=QaA X.prog X.w) hall hl h0 h15 (thn (h pins _ σ _ _ I1 (q _ hn)) fun ws s2 ⟨ps,H2,I2,rel,e,kvs,ep,lk,q2⟩=>?_)
 subst ep
 obtain⟨rs,c,rk⟩:=QdH (P:=X.prog) (w:=X.w) rel
 obtain⟨z,hd,vs0,r0,dd⟩:=Qmx I2.hok e
 cases r0
 refine⟨rs,c,dd,fun h' dd' hs=>⟨.ref s.heap.objs.size,_,?_,rfl,q2⟩⟩
 have hz:(QeT [] kvs).length≤sizeLine:=by
  have h1:=Qci kvs []
  rw[List.length_nil]at h1
  rw[sizeLine_eq];omega
 have he:∃ q,h'.get? s.heap.objs.size=some q:=let ⟨q,_,_,hq,_⟩:=dd';⟨q,hq⟩
 exact Qgn I2 (by rw[e];exact True.intro) hs he (QiW hz hd (rk.merge .nil) dd')
structure M1 (X:Cx) (o:Expr) (m:Str) (apos:Pos) (e:Expr) (cpos:Pos):Prop where
 base:attributeBase o m X.env (eval o X.env)=eval o X.env
 few:((backTo cpos (starEach [e] X.env)).all (fun x=>!x.1)&&(backToKw cpos (keywordEach [] X.env)).all (fun x=>x.1.isSome)
  && decide (([e]:List Expr).length+([]:List Keyword).length+(if ([]:List Keyword).isEmpty then 0 else 1)<30))=true
 line:(apos.endLine == cpos.line)=true
 trees:backTo cpos (starEach [e] X.env)=[(false,eval e X.env)]
structure M2 (X:Cx) (o:Expr) (m:Str) (apos:Pos) (e f:Expr) (cpos:Pos):Prop where
 base:attributeBase o m X.env (eval o X.env)=eval o X.env
 few:((backTo cpos (starEach [e,f] X.env)).all (fun x=>!x.1)&&(backToKw cpos (keywordEach [] X.env)).all (fun x=>x.1.isSome)
  && decide (([e,f]:List Expr).length+([]:List Keyword).length+(if ([]:List Keyword).isEmpty then 0 else 1)<30))=true
 line:(apos.endLine == cpos.line)=true
 trees:backTo cpos (starEach [e,f] X.env)=[(false,eval e X.env),(false,eval f X.env)]
section
variable {X:Cx}{pins:List (Addr×Obj)}{σ:St}{H:Hp}{s:Shared}{a:Addr}{y d:V}{u r:Value}{o:Option V}{A:Around}{E:Value→Shared→Prop}
end
section
variable {X:Cx}{o e f:Expr}{apos cpos:Pos}{td ty tx:TE}
end
section
variable {X:Cx}{pins:List (Addr×Obj)}{σ:St}{H:Hp}{s:Shared}{a:Addr}{kvs:List (Key×V)}{A:Around}{E:Value→Shared→Prop}
theorem QkH {Q:Value→Shared→Prop} (I:Inv X pins σ H s) (e:Rd H a (.dK kvs)) (h:∀ p s',H p=none→Inv X pins σ (upd H p (.dK kvs)) s'→Q (.ref p) s'):wpAny (model X.prog X.w) A (call (.type "dict") [.ref a]) Q E s:=by
 obtain⟨z,hd,vs,rel,dd⟩:=Qgp I.hok e
 refine kt_call_dict hd dd (by rw[← rel.length];exact z) fun h' dd' hs=>?_
 refine h _ _ (I.hok.fresh (Nat.le_refl _)) (I.laid (a:=s.heap.objs.size) (o:=.dK kvs) (t':=s.toks) (fun b q hq=>?_) (Nat.le_refl _) (QiW z (beq_eq_false_iff_ne.mpr (Ne.symm (Nat.ne_of_lt I.big))) rel dd'))
 exact(hs.2 b (Nat.ne_of_lt (Heap.lt_size hq))).trans (Heap.get?_push_of_some _ hq)
end
section
variable {X:Cx}{pins:List (Addr×Obj)}{σ:St}{H:Hp}{s:Shared}{a:Addr}{y:V}{u:Value}{A:Around}{E:Value→Shared→Prop}
end
end L2
namespace L2
open PySem PySem.Spec PyProof.Rows
section
variable {κ:Type} [DecidableEq κ]
end
end L2
set_option Elab.async false
set_option linter.all false
set_option maxRecDepth 100000
set_option maxHeartbeats 4000000
namespace J
open PySem PySem.Spec PyProof.Rows L2
noncomputable def nub:List Str→List Str
 |[]=>[]
 |x::xs=>if x∈xs then nub xs else x::nub xs
section
variable {P:Program}{w:World}{A:Around}{E:Value→Shared→Prop}{s:Shared}
theorem QkK {l:Addr}{o:Obj}{vs:List Value}{n:Nat}{T:String}{Q:List Value→Shared→Prop} (ho:s.heap.get? l=some o) (hc:o.cls=.type T) (hT:T="list"∨T="tuple") (hd:o.data=.seq vs.toArray n)
  (hz:vs.length≤sizeLine) (h:Q vs { s with heap:=(s.heap.push (seqObj "list" #[] 0)).update s.heap.objs.size (Obj.mapSeq (·++vs.toArray)) }):wpAny (model P w) A (collect (.ref l)) Q E s:=by
 unfold collect
 refine wpAny_bind (wpAny_runValue (codeAny_builtin entry_proto_collect' ?_))
 show wpAny _ _ (do again (.builtin "list.__iadd__" ⟨[← newList [],.ref l],[]⟩)) _ _ _
 refine wpAny_bind (wpAny_newList (wpAny_pure ⟨Code.quiet_builtin _ (by decide +kernel),codeAny_builtin entry_list_iadd' ?_⟩))
 show wpAny _ _ (Builtin.List.listExtendWith (.ref s.heap.objs.size) (.ref l) (.ref s.heap.objs.size)) _ _ _
 unfold Builtin.List.listExtendWith
 have ho1:(s.heap.push (seqObj "list" #[] 0)).get? l=some o:=Heap.get?_push_of_some _ ho
 refine wpAny_bind (wpAny_typeOf (T:=T) ⟨o,ho1,hc⟩ ?_)
 have ht:((Value.type T == Value.type "list")||(Value.type T == Value.type "tuple"))=true:=by rcases hT with rfl | rfl<;>rfl
 rw[if_pos (by rw[Bool.or_assoc,ht,Bool.or_true])]
 refine wpAny_bind (listItems_at ho1 hd ?_)
 refine wpAny_bind (listItems_at (xs:=#[]) (n:=0) (Heap.get?_push_size _ rfl) rfl ?_)
 rw[if_neg (by simp)]
 refine wpAny_bind (listUpdate_at (xs:=#[]) (n:=0) (Heap.get?_push_size _ rfl) rfl ?_ (Nat.zero_le _) ?_)
 ·refine wpAny_pure ?_
  show wpAny (model P w) A (do let o ← load s.heap.objs.size;(match o.data with | .seq xs _=>pure xs.toList | _=>unsupported "internal:collect")) Q E _
  refine wpAny_bind (wpAny_load (get?_update_seq (Heap.get?_push_size _ rfl) _) ?_)
  show wpAny _ _ (pure (#[]++vs.toArray).toList) Q E _
  rw[show ((#[]:Array Value)++vs.toArray).toList=vs by simp]
  exact wpAny_pure h
 ·show (#[]++vs.toArray).size≤sizeLine+1
  rw[Array.size_append];simp;omega
theorem QjW {l:Addr}{o:Obj}{vs:List Value}{n:Nat}{T:String}{ss:List Str}{Q:Value→Shared→Prop} (ho:s.heap.get? l=some o) (hc:o.cls=.type T) (hT:T="list"∨T="tuple") (hd:o.data=.seq vs.toArray n)
  (hS:StrsAre vs ss) (h64:vs.length<64) (h:∀ (out:Array Value) (ss':List Str),StrsAre out.toList ss'→ss'.Perm ss→sortedS ss'=true→Q (.ref (s.heap.objs.size+1)) { s with heap:=sortedAll s.heap vs out }) :
  wpAny (model P w) A (call (.builtin "sorted") [.ref l]) Q E s:=by
 refine Calls.call_function_entry kind_sorted plain_sorted entry_sorted (args_sorted1 _) ?_
 unfold Builtin.«sorted»
 refine wpAny_bind (m:=checkCount "sorted" 1 1 _) (wpAny_pure (wpAny_bind (QkK ho hc hT hd (by rw[sizeLine_eq];omega) (wpAny_bind (wpAny_newList ?_)))))
 have z:((s.heap.push (seqObj "list" #[] 0)).update s.heap.objs.size (Obj.mapSeq (·++vs.toArray))).objs.size=s.heap.objs.size+1:=(Heap.size_update _ _ _).trans (size_push' _ _)
 have hL:(((s.heap.push (seqObj "list" #[] 0)).update s.heap.objs.size (Obj.mapSeq (·++vs.toArray))).push (seqObj "list" vs.toArray 0)).get? (s.heap.objs.size+1)=some (seqObj "list" vs.toArray 0):=(congrArg _ z.symm).trans (Heap.get?_push_size _ rfl)
 show wpAny _ _ _ _ _ { s with heap:=((s.heap.push (seqObj "list" #[] 0)).update s.heap.objs.size (Obj.mapSeq (·++vs.toArray))).push (seqObj "list" vs.toArray 0) }
 rw[z]
 refine wpAny_bind (wpAny_holding (wpAny_call_entry slot_list_sort ⟨_,hL,rfl⟩ entry_list_sort (list_sort_treeK strKind_oneLt hL hS.keysOf (fun v1 v2 r e=>keyKind_strs (by rw[← e];exact hS)) h64 fun st a1 a2=>⟨_,rfl,wpAny_pure ⟨_,rfl,?_⟩⟩) (args_list_sort _)))
 obtain⟨ss',b1,b2,b3⟩:=sorted_out_str hS a1 a2
 exact h _ ss' b1 b2 b3
end
section
variable {P:Program}{w:World}{A:Around}{E:Value→Shared→Prop}{s:Shared}
end
inductive W where
 |non | bl (b:Bool) | int (i:Int) | str (s:Str)
 |tup (ws:List W) | lst (ws:List W) | scr (ws:List W) | dic (ks:List Str) (ws:List W)
 |ref (n:Nat) | ins (c:Nat) (ws:List W)
inductive Ob where
 |lst (ws:List W) | dic (ks:List Str) (ws:List W)
noncomputable abbrev Qac:=List Ob
inductive Res (α:Type) where
 |ok (a:α) (h:Qac) | exc (c:Nat) (h:Qac) | stuck
noncomputable def bnd {α β:Type} (r:Res α) (f:α→Qac→Res β):Res β:=match r with
 |.ok a h=>f a h
 |.exc c h=>.exc c h
 |.stuck=>.stuck
noncomputable def cName:Nat→Str
 |0=>"Standing"
 |_=>"Register"
noncomputable def Qj0:Nat→List Str
 |0=>["deed","part_list","follows","dead"]
 |_=>["names","standings"]
noncomputable def nowh:Hp:=fun _=>none
noncomputable def QT (K:PySem.W.Frag) (ρ:List Addr) (H:Hp) (a:Addr) (xs:List V):Prop:=(a∉ρ∧Rd H a (.tup xs))∨SqT K nowh a xs
noncomputable def QL (K:PySem.W.Frag) (ρ:List Addr) (H:Hp) (a:Addr) (xs:List V):Prop:=(a∉ρ∧Rd H a (.lst xs))∨SqL K nowh a xs
theorem Rd.nowh {a:Addr}{u:HO} (h:Rd nowh a u):False:=by
 rcases h with h | ⟨_,h⟩<;>cases h
theorem QT.sq {K:PySem.W.Frag}{ρ:List Addr}{H:Hp}{a:Addr}{xs:List V} (q:QT K ρ H a xs):SqT K H a xs:=by
 rcases q with ⟨_,q⟩ | q | q
 ·exact .inl q
 ·exact(Rd.nowh q).elim
 ·exact .inr q
theorem QL.sq {K:PySem.W.Frag}{ρ:List Addr}{H:Hp}{a:Addr}{xs:List V} (q:QL K ρ H a xs):SqL K H a xs:=by
 rcases q with ⟨_,q⟩ | q | q
 ·exact .inl q
 ·exact(Rd.nowh q).elim
 ·exact .inr q
mutual
noncomputable def Rel (K:PySem.W.Frag) (ρ:List Addr) (H:Hp):W→V→Prop
 |.non,v=>v=.non
 |.bl b,v=>v=.bl b
 |.int i,v=>v=.int i
 |.str s,v=>v=.str s
 |.tup ws,v=>∃ a xs,v=.ref a∧QT K ρ H a xs∧RelL K ρ H ws xs
 |.lst ws,v=>∃ a xs,v=.ref a∧a∉ρ∧H a=some (.lst xs)∧RelL K ρ H ws xs
 |.scr ws,v=>∃ a xs,v=.ref a∧QL K ρ H a xs∧RelL K ρ H ws xs
 |.dic ks ws,v=>∃ a xs,v=.ref a∧a∉ρ∧Rd H a (.dK ((ks.map Sum.inr).zip xs))∧ks.length=xs.length∧RelL K ρ H ws xs
 |.ref n,v=>∃ a,v=.ref a∧ρ[n]?=some a
 |.ins c ws,v=>∃ a dx xs C,v=.ref a∧a∉ρ∧H a=some (.ins C dx ((Qj0 c).zip xs))∧(Qj0 c).length=xs.length∧PySem.W.nsIn K mainGlobals (cName c)=some (some (.ref C))∧RelL K ρ H ws xs
noncomputable def RelL (K:PySem.W.Frag) (ρ:List Addr) (H:Hp):List W→List V→Prop
 |[],xs=>xs=[]
 |w::ws,xs=>∃ y ys,xs=y::ys∧Rel K ρ H w y∧RelL K ρ H ws ys
end
mutual
noncomputable def Qan:W→Bool
 |.tup ws=>Qam ws
 |.lst ws=>Qam ws
 |.scr ws=>Qam ws
 |.dic _ ws=>Qam ws
 |.ref _=>false
 |.ins _ ws=>Qam ws
 |_=>true
noncomputable def Qam:List W→Bool
 |[]=>true
 |w::ws=>Qan w&&Qam ws
end
mutual
theorem Rel.less {K:PySem.W.Frag}{ρ ρ':List Addr}{H:Hp} (hs:∀ a,a∈ρ→a∈ρ'):∀ (w:W) (v:V),Qan w=true→Rel K ρ' H w v→Rel K ρ H w v
 |.non,v,_,h=>by rw[Rel]at h ⊢;exact h
 |.bl b,v,_,h=>by rw[Rel]at h ⊢;exact h
 |.int i,v,_,h=>by rw[Rel]at h ⊢;exact h
 |.str s,v,_,h=>by rw[Rel]at h ⊢;exact h
 |.tup ws,v,p,h=>by
  rw[Rel]at h ⊢
  rw[Qan]at p
  obtain⟨a,xs,e,q,r⟩:=h
  exact⟨a,xs,e,q.imp (fun z=>⟨fun y=>z.1 (hs a y),z.2⟩) id,RelL.less hs ws xs p r⟩
 |.lst ws,v,p,h=>by
  rw[Rel]at h ⊢
  rw[Qan]at p
  obtain⟨a,xs,e,n,q,r⟩:=h
  exact⟨a,xs,e,fun y=>n (hs a y),q,RelL.less hs ws xs p r⟩
 |.scr ws,v,p,h=>by
  rw[Rel]at h ⊢
  rw[Qan]at p
  obtain⟨a,xs,e,q,r⟩:=h
  exact⟨a,xs,e,q.imp (fun z=>⟨fun y=>z.1 (hs a y),z.2⟩) id,RelL.less hs ws xs p r⟩
 |.dic ks ws,v,p,h=>by
  rw[Rel]at h ⊢
  rw[Qan]at p
  obtain⟨a,xs,e,n,q,l,r⟩:=h
  exact⟨a,xs,e,fun y=>n (hs a y),q,l,RelL.less hs ws xs p r⟩
 |.ref n,v,p,h=>by rw[Qan]at p;cases p
 |.ins c ws,v,p,h=>by
  rw[Rel]at h ⊢
  rw[Qan]at p
  obtain⟨a,dx,xs,C,e,n,q,l,z,r⟩:=h
  exact⟨a,dx,xs,C,e,fun y=>n (hs a y),q,l,z,RelL.less hs ws xs p r⟩
theorem RelL.less {K:PySem.W.Frag}{ρ ρ':List Addr}{H:Hp} (hs:∀ a,a∈ρ→a∈ρ'):∀ (ws:List W) (xs:List V),Qam ws=true→RelL K ρ' H ws xs→RelL K ρ H ws xs
 |[],xs,_,h=>by rw[RelL]at h ⊢;exact h
 |w::ws,xs,p,h=>by
  rw[RelL]at h ⊢
  rw[Qam,Bool.and_eq_true]at p
  obtain⟨y,ys,e,r,rs⟩:=h
  exact⟨y,ys,e,Rel.less hs w y p.1 r,RelL.less hs ws ys p.2 rs⟩
end
noncomputable def ObRel (K:PySem.W.Frag) (ρ:List Addr) (H:Hp) (a:Addr):Ob→Prop
 |.lst ws=>Qam ws=true∧∃ xs,H a=some (.lst xs)∧RelL K ρ H ws xs
 |.dic ks ws=>Qam ws=true∧∃ xs,H a=some (.dK ((ks.map Sum.inr).zip xs))∧ks.length=xs.length∧RelL K ρ H ws xs
structure HRel (K:PySem.W.Frag) (ρ:List Addr) (h:Qac) (H:Hp):Prop where
 len:ρ.length=h.length
 nd:ρ.Nodup
 at_:∀ (n:Nat) (a:Addr) (o:Ob),ρ[n]?=some a→h[n]?=some o→ObRel K ρ H a o
structure Ext (ρ:List Addr) (H:Hp) (ρ':List Addr) (H':Hp):Prop where
 pre:ρ <+: ρ'
 keep:∀ a o,H a=some o→a∉ρ→H' a=some o∨∃ ob kvs,o=.dK kvs∧H' a=some (.frz ob o)
 out:∀ a o,H a=some o→a∉ρ→a∉ρ'
theorem Ext.refl {ρ:List Addr}{H:Hp}:Ext ρ H ρ H:=⟨List.prefix_refl _,fun _ _ e _=>.inl e,fun _ _ _ h=>h⟩
theorem Ext.trans {ρ ρ1 ρ2:List Addr}{H H1 H2:Hp} (x:Ext ρ H ρ1 H1) (y:Ext ρ1 H1 ρ2 H2):Ext ρ H ρ2 H2 :=
 ⟨x.pre.trans y.pre,fun a o e n=>(by
  rcases x.keep a o e n with h | ⟨ob,kvs,ek,h⟩
  ·exact y.keep a o h (x.out a o e n)
  ·rcases y.keep a _ h (x.out a o e n) with h2 | ⟨_,_,ek2,_⟩
   ·exact .inr ⟨ob,kvs,ek,h2⟩
   ·cases ek2),fun a o e n=>(by
  rcases x.keep a o e n with h | ⟨ob,kvs,ek,h⟩
  ·exact y.out a o h (x.out a o e n)
  ·exact y.out a _ h (x.out a o e n))⟩
theorem Ext.keepN {ρ ρ':List Addr}{H H':Hp}{a:Addr}{o:HO} (x:Ext ρ H ρ' H') (e:H a=some o) (n:a∉ρ) (d:∀ kvs,o≠.dK kvs):H' a=some o:=by
 rcases x.keep a o e n with h | ⟨_,kvs,ek,_⟩
 ·exact h
 ·exact absurd ek (d kvs)
theorem Ext.keepD {ρ ρ':List Addr}{H H':Hp}{a:Addr}{kvs:List (Key×V)} (x:Ext ρ H ρ' H') (e:Rd H a (.dK kvs)) (n:a∉ρ):Rd H' a (.dK kvs)∧a∉ρ':=by
 rcases e with e | ⟨ob,e⟩
 ·refine⟨?_,x.out a _ e n⟩
  rcases x.keep a _ e n with h | ⟨ob,_,_,h⟩
  ·exact .inl h
  ·exact .inr ⟨ob,h⟩
 ·exact⟨.inr ⟨ob,x.keepN e n (fun _ z=>by cases z)⟩,x.out a _ e n⟩
section
variable {K:PySem.W.Frag}{ρ ρ':List Addr}{H H':Hp}
theorem QT.ext {a:Addr}{xs:List V} (x:Ext ρ H ρ' H') (q:QT K ρ H a xs):QT K ρ' H' a xs:=by
 rcases q with ⟨n,q | ⟨o,q⟩⟩ | q
 ·exact .inl ⟨x.out a _ q n,.inl (x.keepN q n (fun _ z=>by cases z))⟩
 ·exact .inl ⟨x.out a _ q n,.inr ⟨o,x.keepN q n (fun _ z=>by cases z)⟩⟩
 ·exact .inr q
theorem QL.ext {a:Addr}{xs:List V} (x:Ext ρ H ρ' H') (q:QL K ρ H a xs):QL K ρ' H' a xs:=by
 rcases q with ⟨n,q | ⟨o,q⟩⟩ | q
 ·exact .inl ⟨x.out a _ q n,.inl (x.keepN q n (fun _ z=>by cases z))⟩
 ·exact .inl ⟨x.out a _ q n,.inr ⟨o,x.keepN q n (fun _ z=>by cases z)⟩⟩
 ·exact .inr q
mutual
theorem Rel.ext (x:Ext ρ H ρ' H'):∀ (w:W) (v:V),Rel K ρ H w v→Rel K ρ' H' w v
 |.non,v,h=>by rw[Rel]at h ⊢;exact h
 |.bl b,v,h=>by rw[Rel]at h ⊢;exact h
 |.int i,v,h=>by rw[Rel]at h ⊢;exact h
 |.str s,v,h=>by rw[Rel]at h ⊢;exact h
 |.tup ws,v,h=>by
  rw[Rel]at h ⊢
  obtain⟨a,xs,e,q,r⟩:=h
  exact⟨a,xs,e,q.ext x,RelL.ext x ws xs r⟩
 |.lst ws,v,h=>by
  rw[Rel]at h ⊢
  obtain⟨a,xs,e,n,q,r⟩:=h
  exact⟨a,xs,e,x.out a _ q n,x.keepN q n (fun _ z=>by cases z),RelL.ext x ws xs r⟩
 |.scr ws,v,h=>by
  rw[Rel]at h ⊢
  obtain⟨a,xs,e,q,r⟩:=h
  exact⟨a,xs,e,q.ext x,RelL.ext x ws xs r⟩
 |.dic ks ws,v,h=>by
  rw[Rel]at h ⊢
  obtain⟨a,xs,e,n,q,l,r⟩:=h
  exact⟨a,xs,e,(x.keepD q n).2,(x.keepD q n).1,l,RelL.ext x ws xs r⟩
 |.ref n,v,h=>by
  rw[Rel]at h ⊢
  obtain⟨a,e,q⟩:=h
  obtain⟨t,rfl⟩:=x.pre
  exact⟨a,e,by rw[List.getElem?_append_left (List.getElem?_eq_some_iff.mp q).1];exact q⟩
 |.ins c ws,v,h=>by
  rw[Rel]at h ⊢
  obtain⟨a,dx,xs,C,e,n,q,l,z,r⟩:=h
  exact⟨a,dx,xs,C,e,x.out a _ q n,x.keepN q n (fun _ z=>by cases z),l,z,RelL.ext x ws xs r⟩
theorem RelL.ext (x:Ext ρ H ρ' H'):∀ (ws:List W) (xs:List V),RelL K ρ H ws xs→RelL K ρ' H' ws xs
 |[],xs,h=>by rw[RelL]at h ⊢;exact h
 |w::ws,xs,h=>by
  rw[RelL]at h ⊢
  obtain⟨y,ys,e,r,rs⟩:=h
  exact⟨y,ys,e,Rel.ext x w y r,RelL.ext x ws ys rs⟩
end
end
section
variable {K:PySem.W.Frag}{ρ:List Addr}{H:Hp}
theorem RelL.length:∀ {ws:List W}{xs:List V},RelL K ρ H ws xs→ws.length=xs.length
 |[],xs,h=>by rw[RelL]at h;subst h;rfl
 |w::ws,xs,h=>by
  rw[RelL]at h
  obtain⟨y,ys,rfl,_,rs⟩:=h
  simp[RelL.length rs]
theorem RelL.get:∀ {ws:List W}{xs:List V}{i:Nat}{w:W},RelL K ρ H ws xs→ws[i]?=some w→∃ x,xs[i]?=some x∧Rel K ρ H w x
 |[],_,_,_,_,e=>by simp at e
 |u::ws,xs,i,w,h,e=>by
  rw[RelL]at h
  obtain⟨y,ys,rfl,r,rs⟩:=h
  cases i with
  |zero=>simp at e;subst e;exact⟨y,rfl,r⟩
  |succ i =>
   obtain⟨x,h1,h2⟩:=RelL.get (i:=i) rs (by simpa using e)
   exact⟨x,by simpa using h1,h2⟩
theorem RelL.nil:RelL K ρ H [] []:=by rw[RelL]
theorem RelL.cons {w:W}{x:V}{ws:List W}{xs:List V} (r:Rel K ρ H w x) (rs:RelL K ρ H ws xs):RelL K ρ H (w::ws) (x::xs):=by
 rw[RelL];exact⟨x,xs,rfl,r,rs⟩
theorem RelL.append:∀ {ws us:List W}{xs ys:List V},RelL K ρ H ws xs→RelL K ρ H us ys→RelL K ρ H (ws++us) (xs++ys)
 |[],_,xs,_,h,k=>by rw[RelL]at h;subst h;exact k
 |w::ws,us,xs,ys,h,k=>by
  rw[RelL]at h
  obtain⟨y,zs,rfl,r,rs⟩:=h
  exact RelL.cons r (RelL.append rs k)
theorem RelL.set:∀ {ws:List W}{xs:List V}{w:W}{x:V} (i:Nat),RelL K ρ H ws xs→Rel K ρ H w x→RelL K ρ H (ws.set i w) (xs.set i x)
 |[],xs,_,_,_,h,_=>by rw[RelL]at h;subst h;simp[RelL]
 |u::ws,xs,w,x,i,h,r=>by
  rw[RelL]at h
  obtain⟨y,ys,rfl,r',rs⟩:=h
  cases i with
  |zero=>exact RelL.cons r rs
  |succ i=>exact RelL.cons r' (RelL.set i rs r)
theorem RelL.take:∀ {ws:List W}{xs:List V} (n:Nat),RelL K ρ H ws xs→RelL K ρ H (ws.take n) (xs.take n)
 |_,_,0,_=>by simp[RelL]
 |[],xs,_+1,h=>by rw[RelL]at h;subst h;simp[RelL]
 |w::ws,xs,n+1,h=>by
  rw[RelL]at h
  obtain⟨y,ys,rfl,r,rs⟩:=h
  exact RelL.cons r (RelL.take n rs)
theorem RelL.drop:∀ {ws:List W}{xs:List V} (n:Nat),RelL K ρ H ws xs→RelL K ρ H (ws.drop n) (xs.drop n)
 |_,_,0,h=>h
 |[],xs,_+1,h=>by rw[RelL]at h;subst h;simp[RelL]
 |w::ws,xs,n+1,h=>by
  rw[RelL]at h
  obtain⟨y,ys,rfl,r,rs⟩:=h
  exact RelL.drop n rs
theorem RelL.flatrep {ws:List W}{xs:List V} (r:RelL K ρ H ws xs):∀ n:Nat,RelL K ρ H (List.replicate n ws).flatten (List.replicate n xs).flatten
 |0=>.nil
 |n+1=>by
  rw[List.replicate_succ,List.replicate_succ,List.flatten_cons,List.flatten_cons]
  exact r.append (RelL.flatrep r n)
end
noncomputable abbrev Qai:=List (Option W)
noncomputable def RelO (K:PySem.W.Frag) (ρ:List Addr) (H:Hp) (o:Option W) (o':Option V):Prop:=∀ w,o=some w→∃ v,o'=some v∧Rel K ρ H w v
structure RelE (K:PySem.W.Frag) (ρ:List Addr) (H:Hp) (σ:Qai) (τ:L2.St):Prop where
 len:σ.length=τ.length
 at_:∀ (i:Nat) (w:W),σ[i]?=some (some w)→∃ v,τ[i]?=some (some v)∧Rel K ρ H w v
section
variable {K:PySem.W.Frag}{ρ ρ':List Addr}{H H':Hp}{σ:Qai}{τ:L2.St}
theorem RelE.ext (x:Ext ρ H ρ' H') (r:RelE K ρ H σ τ):RelE K ρ' H' σ τ:=⟨r.len,fun i w e=>let ⟨v,h1,h2⟩:=r.at_ i w e;⟨v,h1,Rel.ext x w v h2⟩⟩
theorem RelE.set {w:W}{v:V} (r:RelE K ρ H σ τ) (i:Nat) (h:Rel K ρ H w v):RelE K ρ H (σ.set i (some w)) (τ.set i (some v)):=by
 refine⟨by simp[r.len],fun j u e=>?_⟩
 rw[List.getElem?_set]at e ⊢
 split at e
 ·rename_i hij
  rw[if_pos hij]
  split at e
  ·rename_i hl
   rw[if_pos (by rw[← r.len];exact hl)]
   have e':w=u:=Option.some.inj (Option.some.inj e)
   subst e'
   exact⟨v,rfl,h⟩
  ·cases e
 ·rename_i hij
  rw[if_neg hij]
  exact r.at_ j u e
end
noncomputable abbrev EXT:=Nat→Qac→List Addr→Hp→Prop
noncomputable def RQ {α:Type} (K:PySem.W.Frag) (EX:EXT) (ρ:List Addr) (H:Hp) (r:Res α) (k:α→Qac→List Addr→Hp→Prop):Prop:=match r with
 |.ok a h=>∀ ρ' H',Ext ρ H ρ' H'→HRel K ρ' h H'→k a h ρ' H'
 |.exc c h=>∀ ρ' H',Ext ρ H ρ' H'→HRel K ρ' h H'→EX c h ρ' H'
 |.stuck=>False
section
variable {α β:Type}{K:PySem.W.Frag}{EX:EXT}{ρ:List Addr}{H:Hp}{h:Qac}
theorem RQ.bnd {r:Res α}{f:α→Qac→Res β}{k:β→Qac→List Addr→Hp→Prop} (q:RQ K EX ρ H (bnd r f) k) :
  RQ K EX ρ H r (fun a h' ρ' H'=>RQ K EX ρ' H' (f a h') k):=by
 cases r with
 |ok a h' =>
  intro ρ' H' x hr
  cases e:f a h' with
  |ok b h2 =>
   have q':∀ ρ2 H2,Ext ρ H ρ2 H2→HRel K ρ2 h2 H2→k b h2 ρ2 H2:=by
    have q1:RQ K EX ρ H (f a h') k:=q
    rw[e]at q1;exact q1
   exact fun ρ2 H2 y hr2=>q' ρ2 H2 (x.trans y) hr2
  |exc c h2 =>
   have q':∀ ρ2 H2,Ext ρ H ρ2 H2→HRel K ρ2 h2 H2→EX c h2 ρ2 H2:=by
    have q1:RQ K EX ρ H (f a h') k:=q
    rw[e]at q1;exact q1
   exact fun ρ2 H2 y hr2=>q' ρ2 H2 (x.trans y) hr2
  |stuck =>
   have q1:RQ K EX ρ H (f a h') k:=q
   rw[e]at q1;exact q1
 |exc c h'=>exact q
 |stuck=>exact q
theorem RQ.mono {r:Res α}{k k':α→Qac→List Addr→Hp→Prop} (q:RQ K EX ρ H r k) (m:∀ a h' ρ' H',Ext ρ H ρ' H'→HRel K ρ' h' H'→k a h' ρ' H'→k' a h' ρ' H'):RQ K EX ρ H r k':=by
 cases r with
 |ok a h'=>exact fun ρ' H' x hr=>m _ _ _ _ x hr (q ρ' H' x hr)
 |exc c h'=>exact q
 |stuck=>exact q
theorem RQ.wk {r:Res α}{k:α→Qac→List Addr→Hp→Prop}{ρ1:List Addr}{H1:Hp} (x:Ext ρ H ρ1 H1) (q:RQ K EX ρ H r k):RQ K EX ρ1 H1 r k:=by
 cases r with
 |ok a h'=>exact fun ρ' H' y hr=>q ρ' H' (x.trans y) hr
 |exc c h'=>exact fun ρ' H' y hr=>q ρ' H' (x.trans y) hr
 |stuck=>exact q
theorem RQ.here {a:α}{k:α→Qac→List Addr→Hp→Prop} (hr:HRel K ρ h H) (q:RQ K EX ρ H (.ok a h) k):k a h ρ H:=q ρ H .refl hr
end
noncomputable def tI (K:PySem.W.Frag) (EX:EXT) (ev:Qai→Qac→Res W):TE:=fun τ H Q =>
 ∃ ρ σ h,RelE K ρ H σ τ∧HRel K ρ h H∧RQ K EX ρ H (ev σ h) fun w _ ρ' H'=>∀ v,Rel K ρ' H' w v→Q v H'
noncomputable def tIT (K:PySem.W.Frag) (EX:EXT) (ev:Qai→Qac→Res Bool):TT:=fun τ H Q =>
 ∃ ρ σ h,RelE K ρ H σ τ∧HRel K ρ h H∧RQ K EX ρ H (ev σ h) fun b _ _ H'=>Q b H'
noncomputable def tIA (K:PySem.W.Frag) (EX:EXT) (ev:Qai→Qac→Res (List W)):TA:=fun τ H Q =>
 ∃ ρ σ h,RelE K ρ H σ τ∧HRel K ρ h H∧RQ K EX ρ H (ev σ h) fun ws _ ρ' H'=>∀ vs,RelL K ρ' H' ws vs→Q vs H'
inductive Fl where
 |nx (σ:Qai) | ret (w:W) | brk (σ:Qai) | cnt (σ:Qai)
noncomputable def FlQ (K:PySem.W.Frag) (D:Ends):Fl→Qac→List Addr→Hp→Prop
 |.nx σ,_,ρ,H=>∀ τ,RelE K ρ H σ τ→D.nx τ H
 |.brk σ,_,ρ,H=>∀ τ,RelE K ρ H σ τ→D.bk τ H
 |.cnt σ,_,ρ,H=>∀ τ,RelE K ρ H σ τ→D.ct τ H
 |.ret w,_,ρ,H=>∀ v,Rel K ρ H w v→D.rt v H
noncomputable def tIS (K:PySem.W.Frag) (EX:EXT) (ex:Qai→Qac→Res Fl):TS:=fun D τ H =>
 ∃ ρ σ h,RelE K ρ H σ τ∧HRel K ρ h H∧RQ K EX ρ H (ex σ h) (FlQ K D)
theorem _root_.L2.PE.sub {X:Cx}{e:Expr}{t t':TE} (p:PE X e t) (h:∀ τ H Q,t' τ H Q→t τ H Q):PE X e t':=fun pins s σ H Q I q=>p pins s σ H Q I (h _ _ _ q)
theorem _root_.L2.PT.sub {X:Cx}{e:Expr}{t t':TT} (p:PT X e t) (h:∀ τ H Q,t' τ H Q→t τ H Q):PT X e t':=fun pins s σ H Q I q=>p pins s σ H Q I (h _ _ _ q)
theorem _root_.L2.PW.sub {X:Cx}{e:Expr}{t t':TT} (p:PW X e t) (h:∀ τ H Q,t' τ H Q→t τ H Q):PW X e t':=fun whole pins s σ H Q I q=>p whole pins s σ H Q I (h _ _ _ q)
theorem _root_.L2.PA.sub {X:Cx}{e:List Expr}{t t':TA} (p:PA X e t) (h:∀ τ H Q,t' τ H Q→t τ H Q):PA X e t':=fun pos pins s σ H Q I q=>p pos pins s σ H Q I (h _ _ _ q)
theorem _root_.L2.PS.sub {X:Cx}{e:Stmt}{t t':TS} (p:PS X e t) (h:∀ D τ H,t' D τ H→t D τ H):PS X e t':=fun pins s σ H D I q=>p pins s σ H D I (h _ _ _ q)
theorem _root_.L2.PSs.sub {X:Cx}{e:List Stmt}{t t':TS} (p:PSs X e t) (h:∀ D τ H,t' D τ H→t D τ H):PSs X e t':=fun pins s σ H D I q=>p pins s σ H D I (h _ _ _ q)
inductive Ty where | int | bool | str | tuple | list
 deriving DecidableEq
inductive Bl where | len | list | tuple | max | min | int | sorted | dict | all | any
 deriving DecidableEq
inductive Mt where | append | clear | pop | extend | get | get2
 deriving DecidableEq
set_option genInjectivity false in
inductive E where
 |con (w:W) | var (i:Nat)
 |bin (op:Operator) (a b:E) | neg (a:E)
 |cmp (op:CmpOp) (a b:E)
 |and_ (a b:E) | or_ (a b:E) | not_ (a:E) | ite (c a b:E)
 |tup (es:List E) | lst (es:List E)
 |ix (a b:E) | sl (a:E) (lo hi:Option E)
 |call (f:Nat) (es:List E) | blt (b:Bl) (es:List E) | isi (a:E) (ts:List Ty)
 |meth (m:Mt) (a:E) (es:List E)
 |dic0 | newAdd (a b:E)
 |fld (c k:Nat) (a:E) | mth (f:Nat) (a:E) (es:List E) | chn (o1 o2:CmpOp) (a b c:E)
 |slen (a:E) | lrng (a b:E) | zipE (a b:E) | enmE (k:Int) (a:E) | revE (a:E) | lrev (a:E)
 |compS (is:List Nat) (n:Nat) (a:E) (ifs:List E) (elt:E)
 |compR (is:List Nat) (n:Nat) (es:List E) (ifs:List E) (elt:E)
set_option genInjectivity false in
inductive It where
 |seq (a:E) | rng (es:List E)
set_option genInjectivity false in
inductive Fp where
 |lit | con | var (i:Nat) | rep (i:Nat)
inductive Hd where
 |ret (w:W) | asg (i:Nat) (w:W) | flg (i:Nat) (cs:List Nat)
set_option genInjectivity false in
inductive S where
 |raise (c:Nat) (ps:List Fp) | tryR (e:E) (hs:List (Nat×Hd)) | tryA (i:Nat) (e:E) (hs:List (Nat×Hd))
 |dupd (i:Nat) (e:E) (k v:Nat) | freshD (i:Nat) | freshD1 (i:Nat) (k v:E)
 |asg (i:Nat) (e:E) | fresh (i:Nat) (e:E) | par (i j:Nat) (a b:E) | unp (is:List Nat) (e:E)
 |setix (a b e:E) | exp (e:E) | ret (e:E)
 |if_ (c:E) (a b:List S) | while_ (c:E) (b:List S) | for_ (is:List Nat) (it:It) (b:List S)
 |pass_ | brk | cnt
noncomputable def QlN (h:Qac):W→Option (List W)
 |.lst ws=>some ws
 |.scr ws=>some ws
 |.ref n=>match h[n]? with
  |some (.lst ws)=>some ws
  |_=>none
 |_=>none
noncomputable def Qbt (h:Qac):W→Option (List Str×List W)
 |.dic ks ws=>some (ks,ws)
 |.ref n=>match h[n]? with
  |some (.dic ks ws)=>some (ks,ws)
  |_=>none
 |_=>none
noncomputable def Qc8:List Str→List W→Str→Option W
 |k::ks,w::ws,x=>if k=x then some w else Qc8 ks ws x
 |_,_,_=>none
noncomputable def QhG:List Str→List W→Str→W→List W
 |k::ks,w::ws,x,v=>(if k=x then v else w)::QhG ks ws x v
 |_,ws,_,_=>ws
noncomputable def QfL (ks:List Str) (ws:List W) (x:Str) (v:W):List Str×List W:=if (ks.any fun k=>decide (k=x))=true then (ks,QhG ks ws x v) else (ks++[x],ws++[v])
noncomputable def Qc5 (h:Qac):W→Option (List W)
 |.lst ws=>some ws
 |.ref n=>match h[n]? with
  |some (.lst ws)=>some ws
  |_=>none
 |_=>none
noncomputable def Qlj:W→Option (List W)
 |.tup ws=>some ws
 |_=>none
noncomputable def seqA (h:Qac) (w:W):Option (List W):=(Qlj w).or (QlN h w)
noncomputable def okI (i:Int) (h:Qac):Res W:=.ok (.int i) h
noncomputable def okB (b:Bool) (h:Qac):Res W:=.ok (.bl b) h
noncomputable def Qc4 (i j:Int):Bool:=decide ((-(2 ^ 64)<i∧i<2 ^ 64)∨(-(2 ^ 64)<j∧j<2 ^ 64))||decide (PySem.Builtin.Int.intBits i+PySem.Builtin.Int.intBits j≤134217728)
noncomputable def QfQ (op:Operator) (i j:Int) (h:Qac):Res W:=match op with
 |.Add=>okI (i+j) h
 |.Sub=>okI (i-j) h
 |.Mult=>if Qc4 i j then okI (i*j) h else .stuck
 |.FloorDiv=>if j≠0∧j.natAbs.log2<9000 then okI (i.fdiv j) h else .stuck
 |.Mod=>if j≠0 then okI (i.fmod j) h else .stuck
 |.Pow=>if 0≤j∧j≤1000000∧i.natAbs<2 ^ 64 then okI (i ^ j.toNat) h else .stuck
 |_=>.stuck
noncomputable def QfO (x y:Option (List W)) (h:Qac):Res (List W):=match x,y with
 |some ws,some us=>if ws.length+us.length≤sizeLine then .ok (ws++us) h else .stuck
 |_,_=>.stuck
noncomputable def repL (x:Option (List W)) (j:Int) (h:Qac):Res (List W):=match x with
 |some ws=>if -(2 ^ 63)≤j∧j<2 ^ 63∧ws.length*j.toNat≤sizeLine then .ok (List.replicate j.toNat ws).flatten h else .stuck
 |none=>.stuck
noncomputable def okL (r:Res (List W)):Res W:=bnd r fun ws h=>.ok (.lst ws) h
noncomputable def okT (r:Res (List W)):Res W:=bnd r fun ws h=>.ok (.tup ws) h
noncomputable def ltS (a b:Str):Bool:=decide (a.cps.toList<b.cps.toList)
noncomputable def opW (op:Operator) (x y:W) (h:Qac):Res W:=match x,y with
 |.int i,.int j=>QfQ op i j h
 |.str a,.str b=>match op with
  |.Add=>if a.length+b.length≤sizeLine then .ok (.str (a++b)) h else .stuck
  |_=>.stuck
 |.str a,.int n=>match op with
  |.Mult=>if a.length≤1000∧-1000≤n∧n≤1000 then .ok (.str (Txt.mul a n)) h else .stuck
  |_=>.stuck
 |.tup ws,.tup us=>match op with
  |.Add=>okT (QfO (some ws) (some us) h)
  |_=>.stuck
 |x,.int j=>match op with
  |.Mult=>okL (repL (Qc5 h x) j h)
  |_=>.stuck
 |x,y=>match op with
  |.Add=>okL (QfO (Qc5 h x) (Qc5 h y) h)
  |_=>.stuck
mutual
noncomputable def toP:W→PyData
 |.non=>.none
 |.bl b=>.bool b
 |.int i=>.int i
 |.str x=>.str x
 |.tup ws=>.tuple (QdP ws)
 |.lst ws=>.list (QdP ws)
 |.scr ws=>.list (QdP ws)
 |.dic _ _=>.none
 |.ref _=>.none
 |.ins _ _=>.none
noncomputable def QdP:List W→List PyData
 |[]=>[]
 |w::ws=>toP w::QdP ws
end
mutual
noncomputable def okP:W→Bool
 |.tup ws=>QjN ws
 |.lst ws=>QjN ws
 |.scr ws=>QjN ws
 |.dic _ _=>false
 |.ref _=>false
 |.ins _ _=>false
 |_=>true
noncomputable def QjN:List W→Bool
 |[]=>true
 |w::ws=>okP w&&QjN ws
end
noncomputable def Qcy (h:Qac) (w:W):Option W:=match w with
 |.ref n=>match h[n]? with
  |some (.lst ws)=>if QjN ws then some (.lst ws) else none
  |_=>none
 |w=>if okP w then some w else none
noncomputable def eqW (h:Qac) (x y:W):Option Bool:=match x,y with
 |.int i,.int j=>some (decide (i=j))
 |.bl i,.bl j=>some (decide (i=j))
 |.str i,.str j=>some (decide (i=j))
 |x,y=>match Qcy h x,Qcy h y with
  |some a,some b=>if SeqAt.shaped (toP a)&&SeqAt.shaped (toP b) then some (PyData.eqv (toP a) (toP b)) else none
  |_,_=>none
noncomputable def Qgi:W→Bool
 |.non=>true
 |.bl _=>true
 |.int _=>true
 |.str _=>true
 |_=>false
noncomputable def toV:W→V
 |.bl b=>.bl b
 |.int i=>.int i
 |.str x=>.str x
 |_=>.non
noncomputable def inW (neg : Bool) (x y : W) (h : Qac) : Res W := match Qbt h y with
 |some (ks, ws) => match x with
  |.str k=>okB (if neg then !(Qc8 ks ws k).isSome else (Qc8 ks ws k).isSome) h
  |_ => .stuck
 |none => match seqA h y with
  |some ws=>if Qgi x&&ws.all Qgi then okB (if neg then !inV (toV x) (ws.map toV) else inV (toV x) (ws.map toV)) h else .stuck
  |none=>.stuck
noncomputable def Qn0:W→Bool
 |.non=>true
 |_=>false
noncomputable def Qfl (op:CmpOp) (x y:W) (h:Qac):Res W:=match op with
 |.Eq=>match eqW h x y with
  |some b=>okB b h
  |none=>.stuck
 |.NotEq=>match eqW h x y with
  |some b=>okB (!b) h
  |none=>.stuck
 |.Lt=>match x,y with
  |.int i,.int j=>okB (decide (i<j)) h
  |.str i,.str j=>okB (ltS i j) h
  |_,_=>.stuck
 |.LtE=>match x,y with
  |.int i,.int j=>okB (decide (i≤j)) h
  |.str i,.str j=>okB (!ltS j i) h
  |_,_=>.stuck
 |.Gt=>match x,y with
  |.int i,.int j=>okB (decide (j<i)) h
  |.str i,.str j=>okB (ltS j i) h
  |_,_=>.stuck
 |.GtE=>match x,y with
  |.int i,.int j=>okB (decide (j≤i)) h
  |.str i,.str j=>okB (!ltS i j) h
  |_,_=>.stuck
 |.In=>inW false x y h
 |.NotIn=>inW true x y h
 |.Is=>match y with
  |.non=>okB (Qn0 x) h
  |_=>.stuck
 |.IsNot=>match y with
  |.non=>okB (!Qn0 x) h
  |_=>.stuck
noncomputable def ixS (z:Str) (i:Int) (h:Qac):Res W:=if z.length≤1000 then (match atI z.cps.toList i with
 |some c=>.ok (.str ⟨#[c]⟩) h
 |none=>.stuck) else .stuck
noncomputable def ixW (x y:W) (h:Qac):Res W:=match y with
 |.int i => match x with
  |.str z=>ixS z i h
  |x => match seqA h x with
   |some ws=>match atI ws i with
    |some w=>.ok w h
    |none=>.stuck
   |none=>.stuck
 |.str k=>match Qbt h x with
   |some (ks,ws)=>match Qc8 ks ws k with
    |some w=>.ok w h
    |none=>.stuck
   |none=>.stuck
 |_=>.stuck
noncomputable def QaY (h:Qac) (x:W) (t:Ty):Option Bool:=match x with
 |.int _=>some (decide (t=.int))
 |.bl _=>some (decide (t=.int)||decide (t=.bool))
 |.str _=>some (decide (t=.str))
 |.tup _=>some (decide (t=.tuple))
 |.lst _=>some (decide (t=.list))
 |.scr _=>some (decide (t=.list))
 |.ref n=>match h[n]? with
  |some (.lst _)=>some (decide (t=.list))
  |_=>none
 |_=>none
noncomputable def Qb2:List W→Option (List Str)
 |[]=>some []
 |.str s::ws=>(Qb2 ws).map (s::·)
 |_=>none
noncomputable def intsOf:List W→Option (List Int)
 |[]=>some []
 |.int s::ws=>(intsOf ws).map (s::·)
 |_=>none
noncomputable def QbH:List W→Option (List Bool)
 |[]=>some []
 |.bl s::ws=>(QbH ws).map (s::·)
 |_=>none
noncomputable def Qmn {α:Type} (lt:α→α→Bool) (x:α):List α→List α
 |[]=>[x]
 |y::ys=>if lt y x then y::Qmn lt x ys else x::y::ys
noncomputable def QhO {α:Type} (lt:α→α→Bool):List α→List α
 |[]=>[]
 |x::xs=>Qmn lt x (QhO lt xs)
noncomputable def lenW (x:W) (h:Qac):Res W:=match seqA h x with
 |some us=>okI us.length h
 |none=>match Qbt h x with
  |some (ks,_)=>okI ks.length h
  |none=>match x with
   |.str z=>if z.length≤1000 then okI z.length h else .stuck
   |_=>.stuck
noncomputable def Qkz (x:W) (h:Qac):Res W:=match Qbt h x with
 |some (ks,ws)=>.ok (.dic ks ws) h
 |none=>.stuck
noncomputable def QgE (x:W) (h:Qac):Res W:=match seqA h x with
 |some us=>.ok (.tup us) h
 |none=>.stuck
noncomputable def Qkm (x:W) (h:Qac):Res W:=match seqA h x with
 |some us=>.ok (.lst us) h
 |none=>.stuck
noncomputable def intW (x:W) (h:Qac):Res W:=match x with
 |.int i=>okI i h
 |.bl k=>okI (if k then 1 else 0) h
 |_=>.stuck
noncomputable def QjR (x:W) (h:Qac):Res W:=match (seqA h x).bind Qb2 with
 |some ss=>if ss.length<64 then .ok (.lst ((QhO ltS ss).map W.str)) h else .stuck
 |none=>.stuck
noncomputable def allW (f:List Bool→Bool) (x:W) (h:Qac):Res W:=match (Qc5 h x).bind QbH with
 |some bs=>okB (f bs) h
 |none=>.stuck
noncomputable def on1 (f:W→Qac→Res W) (ws:List W) (h:Qac):Res W:=match ws with
 |[x]=>f x h
 |_=>.stuck
noncomputable def Qh5:W→Option Int
 |.int i=>some i
 |_=>none
noncomputable def on2 (f:Int→Int→Int) (ws:List W) (h:Qac):Res W:=match ws with
 |[x,y]=>match Qh5 x with
  |some i=>match Qh5 y with
   |some j=>okI (f i j) h
   |none=>.stuck
  |none=>.stuck
 |_=>.stuck
noncomputable def Qgv:Bl→List W→Qac→Res W
 |.len=>on1 lenW
 |.dict=>on1 Qkz
 |.tuple=>on1 QgE
 |.list=>on1 Qkm
 |.int=>on1 intW
 |.sorted=>on1 QjR
 |.all=>on1 (allW fun bs=>bs.all id)
 |.any=>on1 (allW fun bs=>bs.any id)
 |.max=>on2 fun i j=>if j>i then j else i
 |.min=>on2 fun i j=>if j<i then j else i
noncomputable def QlL (h:Qac):W→Option Bool
 |.bl b=>some b
 |_=>none
noncomputable def tst (r:Res W):Res Bool:=bnd r fun w h=>match QlL h w with
 |some b=>.ok b h
 |none=>.stuck
noncomputable def QjL (ws:List W) (lo hi:Option Int):List W:=(ws.drop (HT.sIx ws.length 0 lo)).take (HT.sIx ws.length ws.length hi-HT.sIx ws.length 0 lo)
noncomputable def slW (x:W) (lo hi:Option Int) (h:Qac):Res W:=match x with
 |.str z=>if z.length≤1000 then .ok (.str (Txt.slice z lo hi)) h else .stuck
 |.tup ws=>if HT.sIx ws.length 0 lo=0∧HT.sIx ws.length ws.length hi=ws.length then .stuck else .ok (.tup (QjL ws lo hi)) h
 |x=>match QlN h x with
  |some ws=>.ok (.lst (QjL ws lo hi)) h
  |none=>.stuck
noncomputable def appW (x w:W) (h:Qac):Res W:=match x with
 |.ref n=>match h[n]? with
  |some (.lst us)=>if Qan w=true∧us.length<sizeLine then .ok .non (h.set n (.lst (us++[w]))) else .stuck
  |_=>.stuck
 |_=>.stuck
noncomputable def clrW (x:W) (h:Qac):Res W:=match x with
 |.ref n=>match h[n]? with
  |some (.lst _)=>.ok .non (h.set n (.lst []))
  |_=>.stuck
 |_=>.stuck
noncomputable def popW (x:W) (h:Qac):Res W:=match x with
 |.ref n=>match h[n]? with
  |some (.lst us)=>match us[us.length-1]? with
   |some w=>.ok w (h.set n (.lst us.dropLast))
   |none=>.stuck
  |_=>.stuck
 |_=>.stuck
noncomputable def extW (x y:W) (h:Qac):Res W:=match x with
 |.ref n=>match h[n]? with
  |some (.lst us)=>match Qc5 h y with
   |some ws=>if Qam ws=true∧us.length+ws.length≤sizeLine then .ok .non (h.set n (.lst (us++ws))) else .stuck
   |none=>.stuck
  |_=>.stuck
 |_=>.stuck
noncomputable def getW (x k d:W) (h:Qac):Res W:=match Qbt h x with
 |some (ks,ws)=>match k with
  |.str s=>.ok ((Qc8 ks ws s).getD d) h
  |_=>.stuck
 |none=>.stuck
noncomputable def methW (m:Mt) (x:W) (ws:List W) (h:Qac):Res W:=match m with
 |.append=>on1 (appW x) ws h
 |.extend=>on1 (extW x) ws h
 |.clear=>if ws.isEmpty then clrW x h else .stuck
 |.pop=>if ws.isEmpty then popW x h else .stuck
 |.get=>on1 (fun k=>getW x k .non) ws h
 |.get2=>match ws with
  |[k,d]=>getW x k d h
  |_=>.stuck
noncomputable def Qg3 (m:Mt) (h:Qac) (x:W):Bool:=match m with
 |.get=>(Qbt h x).isSome
 |.get2=>(Qbt h x).isSome
 |_=>(Qc5 h x).isSome
noncomputable def isReg:W→Bool
 |.ins 1 _=>true
 |_=>false
noncomputable section
noncomputable def Qcj:List Nat→List W→Qai→Option Qai
 |[],[],σ=>some σ
 |i::is,w::ws,σ=>Qcj is ws (σ.set i (some w))
 |_,_,_=>none
noncomputable def QaG (is:List Nat) (w:W) (σ:Qai):Option Qai:=match is with
 |[i]=>some (σ.set i (some w))
 |is=>match w with
  |.tup ws=>Qcj is ws σ
  |.lst ws=>Qcj is ws σ
  |_=>none
noncomputable def Qh9 (ws:List W):Option (List W):=match ws with
 |[.int j]=>if -(2 ^ 62)≤j∧j<2 ^ 62 then some ((List.range j.toNat).map fun (k:Nat)=>W.int (0+(k:Int))) else none
 |[.int i,.int j]=>if -(2 ^ 62)≤i∧i<2 ^ 62∧-(2 ^ 62)≤j∧j<2 ^ 62 then some ((List.range (j-i).toNat).map fun (k:Nat)=>W.int (i+(k:Int))) else none
 |_=>none
noncomputable def strI (z:Str):List W:=z.cps.toList.map fun c=>W.str ⟨#[c]⟩
noncomputable def seqI (h:Qac):W→Option (List W)
 |.str z=>if z.length≤1000 then some (strI z) else none
 |x=>seqA h x
noncomputable def clr {α:Type}:List Nat→List (Option α)→List (Option α)
 |[],σ=>σ
 |i::is,σ=>clr is (σ.set i none)
noncomputable def Qd8:W→Option Nat
 |.ref k=>some k
 |_=>none
open Classical in
noncomputable def lc (n:Nat) (src:Option Nat) (f:W→Qac→Res (Option W)):List W→Qac→Res Unit
 |[],h=>.ok () h
 |w::ws,h=>bnd (f w h) fun o h'=>if (∀ k,src=some k→h'[k]?=h[k]?) then (match o with
  |none=>lc n src f ws h'
  |some u=>match h'[n]? with
   |some (.lst us)=>if Qan u=true∧us.length<sizeLine then lc n src f ws (h'.set n (.lst (us++[u]))) else .stuck
   |_=>.stuck) else .stuck
noncomputable def Qh2 (n0:Nat) (r:Res Unit):Res W:=match r with
 |.ok _ h=>match h[n0]? with
  |some (.lst us)=>.ok (.lst us) (h.take n0)
  |_=>.stuck
 |_=>.stuck
noncomputable def QbJ (bd:Option Qai) (ts:Qai→Qac→Res Bool) (ev:Qai→Qac→Res W) (h:Qac):Res (Option W):=match bd with
 |none=>.stuck
 |some σ=>bnd (ts σ h) fun b h=>if b=true then bnd (ev σ h) fun w h=>.ok (some w) h else .ok none h
noncomputable abbrev CF:=Nat→List W→Qac→Res W
mutual
noncomputable def evE (cf:CF):E→Qai→Qac→Res W
 |.con w,_,h=>.ok w h
 |.dic0,_,h=>.ok (.dic [] []) h
 |.newAdd a b,σ,h=>bnd (evE cf a σ h) fun x h=>bnd (evE cf b σ h) fun y h=>bnd (QfO (Qc5 h x) (Qc5 h y) h) fun ws h=>if Qam ws then .ok (.ref h.length) (h++[.lst ws]) else .stuck
 |.var i,σ,h=>match σ[i]? with
  |some (some w)=>.ok w h
  |_=>.stuck
 |.bin op a b,σ,h=>bnd (evE cf a σ h) fun x h=>bnd (evE cf b σ h) fun y h=>opW op x y h
 |.neg a,σ,h=>bnd (evE cf a σ h) fun x h=>match x with
  |.int i=>okI (-i) h
  |_=>.stuck
 |.cmp op a b,σ,h=>bnd (evE cf a σ h) fun x h=>bnd (evE cf b σ h) fun y h=>Qfl op x y h
 |.and_ a b,σ,h=>bnd (evE cf a σ h) fun x h=>match x with
  |.bl true=>evE cf b σ h
  |.bl false=>okB false h
  |_=>.stuck
 |.or_ a b,σ,h=>bnd (evE cf a σ h) fun x h=>match x with
  |.bl true=>okB true h
  |.bl false=>evE cf b σ h
  |_=>.stuck
 |.not_ a,σ,h=>bnd (tst (evE cf a σ h)) fun b h=>okB (!b) h
 |.ite c a b,σ,h=>bnd (tst (evE cf c σ h)) fun k h=>if k then evE cf a σ h else evE cf b σ h
 |.tup es,σ,h=>bnd (evA cf es σ h) fun ws h=>if ws.length≤sizeLine then .ok (.tup ws) h else .stuck
 |.lst es,σ,h=>bnd (evA cf es σ h) fun ws h=>if ws.length≤sizeLine then .ok (.lst ws) h else .stuck
 |.ix a b,σ,h=>bnd (evE cf a σ h) fun x h=>bnd (evE cf b σ h) fun y h=>ixW x y h
 |.sl a lo hi,σ,h=>bnd (evE cf a σ h) fun x h=>bnd (evO cf lo σ h) fun l h=>bnd (evO cf hi σ h) fun u h=>slW x l u h
 |.call f es,σ,h=>bnd (evA cf es σ h) fun ws h=>cf f ws h
 |.blt b es,σ,h=>bnd (evA cf es σ h) fun ws h=>Qgv b ws h
 |.isi a ts,σ,h=>bnd (evE cf a σ h) fun x h=>match ts.mapM (QaY h x) with
  |some bs=>okB (bs.any id) h
  |none=>.stuck
 |.fld c k a,σ,h=>bnd (evE cf a σ h) fun x h=>match x with
  |.ins c' ws=>if c'=c then (match ws[k]? with
   |some w=>.ok w h
   |none=>.stuck) else .stuck
  |_=>.stuck
 |.mth f a es,σ,h=>bnd (evE cf a σ h) fun x h=>if isReg x then bnd (evA cf es σ h) fun ws h=>cf f (x::ws) h else .stuck
 |.chn o1 o2 a b c,σ,h=>bnd (evE cf a σ h) fun x h=>bnd (evE cf b σ h) fun y h=>bnd (Qfl o1 x y h) fun k h=>match k with
  |.bl true=>bnd (evE cf c σ h) fun z h=>Qfl o2 y z h
  |.bl false=>okB false h
  |_=>.stuck
 |.slen a,σ,h=>bnd (evE cf a σ h) fun x h=>match (seqA h x).bind Qb2 with
  |some ss=>if ss.length<64 then okI (nub ss).length h else .stuck
  |none=>.stuck
 |.lrng a b,σ,h=>bnd (evE cf a σ h) fun x h=>bnd (evE cf b σ h) fun y h=>match Qh9 [x,y] with
  |some ks=>if ks.length≤1000 then .ok (.lst ks) h else .stuck
  |none=>.stuck
 |.lrev a,σ,h=>bnd (evE cf a σ h) fun x h=>match seqA h x with
  |some us=>.ok (.lst us.reverse) h
  |none=>.stuck
 |.revE a,σ,h=>bnd (evE cf a σ h) fun x h=>match seqA h x with
  |some us=>.ok (.lst us.reverse) h
  |none=>.stuck
 |.zipE a b,σ,h=>bnd (evE cf a σ h) fun x h=>bnd (evE cf b σ h) fun y h=>match seqA [] x,seqA [] y with
  |some us,some vs=>.ok (.lst (List.zipWith (fun u v=>W.tup [u,v]) us vs)) h
  |_,_=>.stuck
 |.enmE k a,σ,h=>bnd (evE cf a σ h) fun x h=>match seqA [] x with
  |some us=>.ok (.lst (us.mapIdx fun i u=>W.tup [.int (k+(i:Int)),u])) h
  |none=>.stuck
 |.meth m a es,σ,h=>bnd (evE cf a σ h) fun x h=>if Qg3 m h x then bnd (evA cf es σ h) fun ws h=>methW m x ws h else .stuck
 |.compS is n a ifs elt,σ,h=>bnd (evE cf a σ h) fun x h=>match seqI h x with
  |some ws=>Qh2 h.length (lc h.length (Qd8 x) (fun w h=>QbJ (QaG is w (clr is σ++List.replicate n none)) (Qc2 cf ifs) (evE cf elt) h) ws (h++[.lst []]))
  |none=>.stuck
 |.compR is n es ifs elt,σ,h=>bnd (evA cf es σ h) fun ws h=>match Qh9 ws with
  |some ks=>Qh2 h.length (lc h.length none (fun w h=>QbJ (QaG is w (clr is σ++List.replicate n none)) (Qc2 cf ifs) (evE cf elt) h) ks (h++[.lst []]))
  |none=>.stuck
noncomputable def Qc2 (cf:CF):List E→Qai→Qac→Res Bool
 |[],_,h=>.ok true h
 |e::es,σ,h=>bnd (tst (evE cf e σ h)) fun b h=>if b=true then Qc2 cf es σ h else .ok false h
noncomputable def evA (cf:CF):List E→Qai→Qac→Res (List W)
 |[],_,h=>.ok [] h
 |e::es,σ,h=>bnd (evE cf e σ h) fun w h=>bnd (evA cf es σ h) fun ws h=>.ok (w::ws) h
noncomputable def evO (cf:CF):Option E→Qai→Qac→Res (Option Int)
 |none,_,h=>.ok none h
 |some e,σ,h=>bnd (evE cf e σ h) fun w h=>match w with
  |.int i=>.ok (some i) h
  |_=>.stuck
end
noncomputable def evF (cf:CF):E→Qai→Qac→Res (List W)
 |.lst es,σ,h=>bnd (evA cf es σ h) fun ws h=>if ws.length≤sizeLine then .ok ws h else .stuck
 |.bin .Mult a b,σ,h=>bnd (evE cf a σ h) fun x h=>bnd (evE cf b σ h) fun y h=>match y with
  |.int j=>repL (Qc5 h x) j h
  |_=>.stuck
 |.bin .Add a b,σ,h=>bnd (evE cf a σ h) fun x h=>bnd (evE cf b σ h) fun y h=>QfO (Qc5 h x) (Qc5 h y) h
 |.blt .list [a],σ,h=>bnd (evE cf a σ h) fun x h=>match seqA h x with
  |some us=>.ok us h
  |none=>.stuck
 |.revE a,σ,h=>bnd (evE cf a σ h) fun x h=>match QlN h x with
  |some us=>.ok us.reverse h
  |none=>.stuck
 |_,_,_=>.stuck
noncomputable def fpW (σ:Qai):Fp→Bool
 |.lit=>true
 |.con=>true
 |.var i=>match σ[i]? with
  |some (some (.int n))=>decide (n.natAbs<10 ^ 100)
  |some (some (.str s))=>decide (s.length≤1000)
  |_=>false
 |.rep i=>match σ[i]? with
  |some (some (.str s))=>decide (s.length≤1000)&&s.cps.toList.all fun c=>decide (c<1000)
  |_=>false
noncomputable def hdl (hs:List (Nat×Hd)) (sub:Nat→Nat→Bool) (c:Nat) (σ:Qai):Option Fl:=match hs with
 |[]=>none
 |(d,hd)::hs=>if sub c d then some (match hd with
  |.ret w=>.ret w
  |.asg i w=>.nx ((σ.map fun _=>none).set i (some w))
  |.flg i cs=>.nx ((σ.map fun _=>none).set i (some (.lst (cs.map fun k=>.bl (decide (c=k))))))) else hdl hs sub c σ
noncomputable def wh (test:Qai→Qac→Res Bool) (body:Qai→Qac→Res Fl):Nat→Qai→Qac→Res Fl
 |0,_,_=>.stuck
 |n+1,σ,h=>bnd (test σ h) fun c h=>if c then bnd (body σ h) fun fl h=>match fl with
   |.nx σ=>wh test body n σ h
   |.cnt σ=>wh test body n σ h
   |.brk σ=>.ok (.nx σ) h
   |.ret w=>.ok (.ret w) h
  else .ok (.nx σ) h
noncomputable def fo (is:List Nat) (body:Qai→Qac→Res Fl):List W→Qai→Qac→Res Fl
 |[],σ,h=>.ok (.nx σ) h
 |w::ws,σ,h=>match QaG is w σ with
  |none=>.stuck
  |some σ=>bnd (body σ h) fun fl h=>match fl with
   |.nx σ=>fo is body ws σ h
   |.cnt σ=>fo is body ws σ h
   |.brk σ=>.ok (.nx σ) h
   |.ret w=>.ok (.ret w) h
noncomputable def foC (n:Nat) (is:List Nat) (body:Qai→Qac→Res Fl):Nat→Nat→Qai→Qac→Res Fl
 |0,_,_,_=>.stuck
 |k+1,i,σ,h=>match h[n]? with
  |some (.lst ws)=>match ws[i]? with
   |none=>.ok (.nx σ) h
   |some w=>match QaG is w σ with
    |none=>.stuck
    |some σ=>bnd (body σ h) fun fl h=>match fl with
     |.nx σ=>foC n is body k (i+1) σ h
     |.cnt σ=>foC n is body k (i+1) σ h
     |.brk σ=>.ok (.nx σ) h
     |.ret w=>.ok (.ret w) h
  |_=>.stuck
mutual
noncomputable def exS (cf:CF) (fw:Nat):S→Qai→Qac→Res Fl
 |.raise c ps,σ,h=>if ps.all (fpW σ) then .exc c h else .stuck
 |.tryR e hs,σ,h=>match evE cf e σ h with
  |.ok w h=>.ok (.ret w) h
  |.exc c h=>match hdl hs (fun c d=>decide (c=d)) c σ with
   |some fl=>.ok fl h
   |none=>.stuck
  |.stuck=>.stuck
 |.tryA i e hs,σ,h=>match evE cf e σ h with
  |.ok w h=>.ok (.nx (σ.set i (some w))) h
  |.exc c h=>match hdl hs (fun c d=>decide (c=d)) c σ with
   |some fl=>.ok fl h
   |none=>.stuck
  |.stuck=>.stuck
 |.dupd i e k v,σ,h=>bnd (evE cf e σ h) fun x h=>match Qbt h x,σ[k]?,σ[v]? with
  |some (ks,ws),some (some (.str s)),some (some y)=>if i≠k∧i≠v∧ks.length<1000 then .ok (.nx (σ.set i (some (.dic (QfL ks ws s y).1 (QfL ks ws s y).2)))) h else .stuck
  |_,_,_=>.stuck
 |.freshD i,σ,h=>.ok (.nx (σ.set i (some (.ref h.length)))) (h++[.dic [] []])
 |.freshD1 i k v,σ,h=>bnd (evE cf k σ (h++[.dic [] []])) fun x h1=>bnd (evE cf v σ h1) fun y h2=>match x,h2[h.length]? with
  |.str s,some (.dic [] [])=>if Qan y then .ok (.nx (σ.set i (some (.ref h.length)))) (h2.set h.length (.dic [s] [y])) else .stuck
  |_,_=>.stuck
 |.asg i e,σ,h=>bnd (evE cf e σ h) fun w h=>.ok (.nx (σ.set i (some w))) h
 |.fresh i e,σ,h=>bnd (evF cf e σ h) fun ws h=>if Qam ws then .ok (.nx (σ.set i (some (.ref h.length)))) (h++[.lst ws]) else .stuck
 |.par i j a b,σ,h=>bnd (evE cf a σ h) fun x h=>bnd (evE cf b σ h) fun y h=>.ok (.nx ((σ.set i (some x)).set j (some y))) h
 |.unp is e,σ,h=>bnd (evE cf e σ h) fun w h=>match w with
  |.tup ws=>match Qcj is ws σ with
   |some σ=>.ok (.nx σ) h
   |none=>.stuck
  |.lst ws=>match Qcj is ws σ with
   |some σ=>.ok (.nx σ) h
   |none=>.stuck
  |_=>.stuck
 |.setix a b e,σ,h=>bnd (evE cf e σ h) fun w h=>bnd (evE cf a σ h) fun x h=>bnd (evE cf b σ h) fun y h=>match x,y with
  |.ref n,.int k=>match h[n]? with
   |some (.lst us)=>if Qan w then (match ixN us.length k with
    |some j=>.ok (.nx σ) (h.set n (.lst (us.set j w)))
    |none=>.stuck) else .stuck
   |_=>.stuck
  |.ref n,.str k=>match h[n]? with
   |some (.dic ks ws)=>if Qan w=true∧ks.length<sizeLine then .ok (.nx σ) (h.set n (.dic (QfL ks ws k w).1 (QfL ks ws k w).2)) else .stuck
   |_=>.stuck
  |_,_=>.stuck
 |.exp e,σ,h=>bnd (evE cf e σ h) fun _ h=>.ok (.nx σ) h
 |.ret e,σ,h=>bnd (evE cf e σ h) fun w h=>.ok (.ret w) h
 |.if_ c a b,σ,h=>bnd (tst (evE cf c σ h)) fun k h=>if k then exB cf fw a σ h else exB cf fw b σ h
 |.while_ c b,σ,h=>wh (fun σ h=>tst (evE cf c σ h)) (exB cf fw b) fw σ h
 |.for_ is (.seq a) b,σ,h=>bnd (evE cf a σ h) fun x h=>match x with
  |.ref n=>foC n is (exB cf fw b) fw 0 σ h
  |.tup ws=>fo is (exB cf fw b) ws σ h
  |.lst ws=>fo is (exB cf fw b) ws σ h
  |.scr ws=>fo is (exB cf fw b) ws σ h
  |.dic ks _=>fo is (exB cf fw b) (ks.map W.str) σ h
  |_=>.stuck
 |.for_ is (.rng es) b,σ,h=>bnd (evA cf es σ h) fun ws h=>match Qh9 ws with
  |some ks=>fo is (exB cf fw b) ks σ h
  |none=>.stuck
 |.pass_,σ,h=>.ok (.nx σ) h
 |.brk,σ,h=>.ok (.brk σ) h
 |.cnt,σ,h=>.ok (.cnt σ) h
noncomputable def exB (cf:CF) (fw:Nat):List S→Qai→Qac→Res Fl
 |[],σ,h=>.ok (.nx σ) h
 |s::ss,σ,h=>bnd (exS cf fw s σ h) fun fl h=>match fl with
  |.nx σ=>exB cf fw ss σ h
  |fl=>.ok fl h
end
structure Fn where
 np:Nat
 ns:Nat
 body:List S
 ini:Option (Nat×List (Bool×E)):=none
mutual
noncomputable def unr (h:Qac) (n0:Nat):W→Option W
 |.ref n=>if n<n0 then some (.ref n) else match h[n]? with
  |some (.lst ws)=>some (.lst ws)
  |some (.dic ks ws)=>some (.dic ks ws)
  |none=>none
 |.tup ws=>(QcU h n0 ws).map .tup
 |.lst ws=>(QcU h n0 ws).map .lst
 |.scr ws=>(QcU h n0 ws).map .scr
 |.ins c ws=>(QcU h n0 ws).map (.ins c)
 |.dic ks ws=>(QcU h n0 ws).map (.dic ks)
 |w=>some w
noncomputable def QcU (h:Qac) (n0:Nat):List W→Option (List W)
 |[]=>some []
 |w::ws=>match unr h n0 w,QcU h n0 ws with
  |some u,some us=>some (u::us)
  |_,_=>none
end
noncomputable def fin (n0:Nat) (r:Res Fl):Res W:=match r with
 |.stuck=>.stuck
 |.exc c h=>.exc c (h.take n0)
 |.ok fl h => match fl with
  |.ret w => match unr h n0 w with
   |some u=>.ok u (h.take n0)
   |none => .stuck
  |.nx _=>.ok .non (h.take n0)
  |_ => .stuck
noncomputable def finO (n0:Nat) (r:Res Fl):Res W:=match r with
 |.ok (.ret (.ref n)) h=>if n<n0 then .ok (.ref n) (h.take n0) else match h[n]? with
  |some (.lst ws)=>.ok (.ref n0) (h.take n0++[.lst ws])
  |_=>.stuck
 |r=>fin n0 r
noncomputable def Qnb (cf:CF) (σ:Qai):List (Bool×E)→Qac→Res (List W)
 |[],h=>.ok [] h
 |(false,e)::r,h=>bnd (evE cf e σ h) fun w h=>bnd (Qnb cf σ r h) fun ws h=>.ok (w::ws) h
 |(true,e)::r,h=>bnd (evF cf e σ h) fun us h=>if Qam us then bnd (Qnb cf σ r (h++[.lst us])) fun ws h'=>.ok (.ref h.length::ws) h' else .stuck
noncomputable def Qae (fw:Nat) (tb:List Fn):Nat→CF
 |0=>fun _ _ _=>.stuck
 |d+1=>fun f ws h=>match tb[f]? with
  |some g=>if ws.length=g.np then fin h.length (exB (Qae fw tb d) fw g.body (ws.map some++List.replicate (g.ns-g.np) none) h) else .stuck
  |none=>match tb[f-1000]? with
   |some g=>if 1000≤f∧ws.length=g.np then finO h.length (exB (Qae fw tb d) fw g.body (ws.map some++List.replicate (g.ns-g.np) none) h) else .stuck
   |none=>match tb[f-2000]? with
    |some g=>match g.ini with
     |some (c,fl)=>if 2000≤f∧ws.length+1=g.np then bnd (Qnb (Qae fw tb d) (none::ws.map some) fl h) fun us h=>.ok (.ins c us) h else .stuck
     |none=>.stuck
    |none=>.stuck
end
section
variable {K:PySem.W.Frag}{ρ:List Addr}{H:Hp}{h:Qac}
theorem HRel.trk (r:HRel K ρ h H) {a:Addr} (m:a∈ρ):∃ o,H a=some o:=by
 obtain⟨n,hn,e⟩:=List.getElem_of_mem m
 have hl:n<h.length:=by rw[← r.len];exact hn
 have q:=r.at_ n a h[n] (by rw[List.getElem?_eq_getElem hn,e]) (List.getElem?_eq_getElem hl)
 cases e2:h[n] with
 |lst ws=>rw[e2]at q;obtain⟨_,xs,z,_⟩:=q;exact⟨_,z⟩
 |dic ks ws=>rw[e2]at q;obtain⟨_,xs,z,_⟩:=q;exact⟨_,z⟩
theorem HRel.new (r:HRel K ρ h H) {a:Addr} (n:H a=none):a∉ρ:=fun m=>by
 obtain⟨o,e⟩:=r.trk m
 rw[n]at e;cases e
theorem ext_new {a:Addr}{o:HO} (r:HRel K ρ h H) (n:H a=none):Ext ρ H ρ (upd H a o) :=
 ⟨List.prefix_refl _,fun b u e _=>.inl (by rw[Qar (QaJ e n)];exact e),fun _ _ _ z=>z⟩
theorem ObRel.ext {ρ':List Addr}{H':Hp}{a:Addr}{o:Ob} (x:Ext ρ H ρ' H') (k:∀ u,H a=some u→H' a=some u) (q:ObRel K ρ H a o):ObRel K ρ' H' a o:=by
 cases o with
 |lst ws=>obtain⟨p,xs,e,r⟩:=q;exact⟨p,xs,k _ e,RelL.ext x ws xs r⟩
 |dic ks ws=>obtain⟨p,xs,e,l,r⟩:=q;exact⟨p,xs,k _ e,l,RelL.ext x ws xs r⟩
theorem HRel.ext_new {a:Addr}{o:HO} (r:HRel K ρ h H) (n:H a=none):HRel K ρ h (upd H a o) :=
 ⟨r.len,r.nd,fun m b u e1 e2=>(r.at_ m b u e1 e2).ext (J.ext_new r n) fun v e=>by rw[Qar (QaJ e n)];exact e⟩
theorem ext_cell {a:Addr}{o:HO} (r:HRel K ρ h H) (n:H a=none):Ext ρ H (ρ++[a]) (upd H a o) :=
 ⟨List.prefix_append _ _,fun b u e _=>.inl (by rw[Qar (QaJ e n)];exact e),fun b u e z m=>by
  rcases List.mem_append.mp m with m | m
  ·exact z m
  ·rw[List.mem_singleton.mp m,n]at e;cases e⟩
theorem HRel.cell {a:Addr}{ws:List W}{xs:List V} (r:HRel K ρ h H) (n:H a=none) (p:Qam ws=true) (q:RelL K ρ H ws xs):HRel K (ρ++[a]) (h++[.lst ws]) (upd H a (.lst xs)):=by
 have x:=J.ext_cell (o:=.lst xs) r n
 refine⟨by simp[r.len],?_,fun m b u e1 e2=>?_⟩
 ·rw[List.nodup_append]
  refine⟨r.nd,by simp,fun b hb c hc=>?_⟩
  rw[List.mem_singleton.mp hc]
  rintro rfl
  exact r.new n hb
 ·by_cases hm:m<ρ.length
  ·rw[List.getElem?_append_left hm]at e1
   rw[List.getElem?_append_left (by rw[← r.len];exact hm)]at e2
   exact(r.at_ m b u e1 e2).ext x fun v e=>by rw[Qar (QaJ e n)];exact e
  ·rw[List.getElem?_append_right (by omega)]at e1
   rw[List.getElem?_append_right (by have:=r.len;omega)]at e2
   have h0:m-ρ.length=0:=by
    by_cases z:m-ρ.length=0
    ·exact z
    ·rw[List.getElem?_eq_none (by simp;omega)]at e1;cases e1
   rw[h0]at e1
   rw[show m-h.length=0 by have:=r.len;omega]at e2
   simp at e1 e2
   subst e1;subst e2
   exact⟨p,xs,QaK,RelL.ext x ws xs q⟩
theorem ext_write {n:Nat}{a:Addr}{o:HO} (e:ρ[n]?=some a):Ext ρ H ρ (upd H a o) :=
 ⟨List.prefix_refl _,fun b u q z=>.inl (by
  have hb:b≠a:=by rintro rfl;exact z (List.mem_of_getElem? e)
  rw[Qar hb];exact q),fun _ _ _ z=>z⟩
theorem HRel.write {n:Nat}{a:Addr}{ws:List W}{xs:List V} (r:HRel K ρ h H) (e:ρ[n]?=some a) (p:Qam ws=true) (q:RelL K ρ H ws xs):HRel K ρ (h.set n (.lst ws)) (upd H a (.lst xs)):=by
 have x:=J.ext_write (H:=H) (o:=.lst xs) e
 refine⟨by simp[r.len],r.nd,fun m b u e1 e2=>?_⟩
 by_cases hm:n=m
 ·subst hm
  rw[e]at e1;cases e1
  rw[List.getElem?_set_self (by rw[← r.len];exact(List.getElem?_eq_some_iff.mp e).1)]at e2
  cases e2
  exact⟨p,xs,QaK,RelL.ext x ws xs q⟩
 ·rw[List.getElem?_set_ne hm]at e2
  refine(r.at_ m b u e1 e2).ext x fun v hv=>?_
  have hb:b≠a:=by
   rintro rfl
   exact hm ((List.getElem?_inj (List.getElem?_eq_some_iff.mp e).1 r.nd).mp (e.trans e1.symm))
  rw[Qar hb];exact hv
theorem HRel.cellD {a:Addr} (r:HRel K ρ h H) (n:H a=none):HRel K (ρ++[a]) (h++[.dic [] []]) (upd H a (.dK [])):=by
 have x:=J.ext_cell (o:=.dK []) r n
 refine⟨by simp[r.len],?_,fun m b u e1 e2=>?_⟩
 ·rw[List.nodup_append]
  refine⟨r.nd,by simp,fun b hb c hc=>?_⟩
  rw[List.mem_singleton.mp hc]
  rintro rfl
  exact r.new n hb
 ·by_cases hm:m<ρ.length
  ·rw[List.getElem?_append_left hm]at e1
   rw[List.getElem?_append_left (by rw[← r.len];exact hm)]at e2
   exact(r.at_ m b u e1 e2).ext x fun v e=>by rw[Qar (QaJ e n)];exact e
  ·rw[List.getElem?_append_right (by omega)]at e1
   rw[List.getElem?_append_right (by have:=r.len;omega)]at e2
   have h0:m-ρ.length=0:=by
    by_cases z:m-ρ.length=0
    ·exact z
    ·rw[List.getElem?_eq_none (by simp;omega)]at e1;cases e1
   rw[h0]at e1
   rw[show m-h.length=0 by have:=r.len;omega]at e2
   simp at e1 e2
   subst e1;subst e2
   exact⟨rfl,[],QaK,rfl,.nil⟩
theorem HRel.writeD {n:Nat}{a:Addr}{ks:List Str}{ws:List W}{xs:List V} (r:HRel K ρ h H) (e:ρ[n]?=some a) (p:Qam ws=true) (l:ks.length=xs.length) (q:RelL K ρ H ws xs):HRel K ρ (h.set n (.dic ks ws)) (upd H a (.dK ((ks.map Sum.inr).zip xs))):=by
 have x:=J.ext_write (H:=H) (o:=.dK ((ks.map Sum.inr).zip xs)) e
 refine⟨by simp[r.len],r.nd,fun m b u e1 e2=>?_⟩
 by_cases hm:n=m
 ·subst hm
  rw[e]at e1;cases e1
  rw[List.getElem?_set_self (by rw[← r.len];exact(List.getElem?_eq_some_iff.mp e).1)]at e2
  cases e2
  exact⟨p,xs,QaK,l,RelL.ext x ws xs q⟩
 ·rw[List.getElem?_set_ne hm]at e2
  refine(r.at_ m b u e1 e2).ext x fun v hv=>?_
  have hb:b≠a:=by
   rintro rfl
   exact hm ((List.getElem?_inj (List.getElem?_eq_some_iff.mp e).1 r.nd).mp (e.trans e1.symm))
  rw[Qar hb];exact hv
theorem QbK {w:W}{v:V}{ks:List Str}{ws:List W} (r:HRel K ρ h H) (e:Qbt h w=some (ks,ws)) (q:Rel K ρ H w v):∃ a xs,v=.ref a∧Rd H a (.dK ((ks.map Sum.inr).zip xs))∧ks.length=xs.length∧RelL K ρ H ws xs:=by
 cases w with
 |dic ks' ws' =>
  rw[Rel]at q
  obtain⟨a,xs,e1,_,e2,e3,e4⟩:=q
  cases (show (ks',ws')=(ks,ws) from Option.some.inj e)
  exact⟨a,xs,e1,e2,e3,e4⟩
 |ref n =>
  rw[Rel]at q
  obtain⟨a,e1,e2⟩:=q
  have e':(match h[n]? with | some (.dic ks ws)=>some (ks,ws) | _=>none)=some (ks,ws):=e
  split at e'<;>try (cases e';done)
  rename_i us vs e3
  cases e'
  obtain⟨_,xs,z,zl,zr⟩:=r.at_ n a _ e2 e3
  exact⟨a,xs,e1,.inl z,zl,zr⟩
 |_=>cases e
theorem Qel {x:Str}:∀ {ks:List Str}{ws:List W}{xs:List V},ks.length=xs.length→RelL K ρ H ws xs→(∀ w,Qc8 ks ws x=some w→∃ v,QfP ((ks.map Sum.inr).zip xs) (Sum.inr x:Key)=some v∧Rel K ρ H w v)∧(Qc8 ks ws x=none→QfP ((ks.map Sum.inr).zip xs) (Sum.inr x:Key)=none)
 |[],ws,xs,l,r=>⟨fun w e=>(by cases e),fun _=>rfl⟩
 |k::ks,[],xs,l,r=>by rw[RelL]at r;subst r;cases l
 |k::ks,w::ws,xs,l,r=>by
  rw[RelL]at r
  obtain⟨y,ys,rfl,r1,r2⟩:=r
  have ih:=Qel (x:=x) (ks:=ks) (ws:=ws) (xs:=ys) (by simpa using l) r2
  rw[List.map_cons,List.zip_cons_cons]
  unfold Qc8
  by_cases hk:k=x
  ·subst hk
   rw[if_pos rfl,QcP rfl]
   exact⟨fun w' e=>by cases e;exact⟨y,rfl,r1⟩,fun e=>by cases e⟩
  ·rw[if_neg hk,QcV (by intro z;exact hk (Sum.inr.inj z))]
   exact ih
theorem QeM {x:Str}{ks:List Str}{ws:List W}{xs:List V} (l:ks.length=xs.length) (r:RelL K ρ H ws xs):(Qc8 ks ws x).isSome=(QfP ((ks.map Sum.inr).zip xs) (Sum.inr x:Key)).isSome:=by
 obtain⟨h1,h2⟩:=Qel (x:=x) l r
 cases e:Qc8 ks ws x with
 |none=>rw[h2 e];rfl
 |some w=>obtain⟨v,ev,_⟩:=h1 w e;rw[ev];rfl
theorem QjY {x:Str}{w:W}{v:V}{ks:List Str}{ws:List W}{xs:List V} (l:ks.length=xs.length) (r:RelL K ρ H ws xs) (rv:Rel K ρ H w v) :
  ∃ ys,QeI ((ks.map Sum.inr).zip xs) (Sum.inr x:Key) v=(((QfL ks ws x w).1).map Sum.inr).zip ys∧(QfL ks ws x w).1.length=ys.length∧RelL K ρ H (QfL ks ws x w).2 ys:=by
 have any_eq:∀ {ks:List Str}{xs:List V},ks.length=xs.length→(((ks.map Sum.inr).zip xs).any fun kv=>decide (kv.1=(Sum.inr x:Key)))=ks.any fun k=>decide (k=x):=by
  intro ks
  induction ks with
  |nil=>intro xs _;rfl
  |cons k ks ih =>
   intro xs l
   cases xs with
   |nil=>cases l
   |cons y ys =>
    rw[List.map_cons,List.zip_cons_cons,List.any_cons,List.any_cons,ih (by simpa using l)]
    congr 1
    simp
 have set_eq:∀ {ks:List Str}{ws:List W}{xs:List V},ks.length=xs.length→RelL K ρ H ws xs→∃ ys,((ks.map Sum.inr).zip xs).map (fun kv=>if kv.1=(Sum.inr x:Key) then (kv.1,v) else kv)=(ks.map Sum.inr).zip ys∧ks.length=ys.length∧RelL K ρ H (QhG ks ws x w) ys:=by
  intro ks
  induction ks with
  |nil=>intro ws xs l r;cases xs with
   |nil=>exact⟨[],rfl,rfl,by unfold QhG;exact r⟩
   |cons y ys=>cases l
  |cons k ks ih =>
   intro ws xs l r
   cases ws with
   |nil=>rw[RelL]at r;subst r;cases l
   |cons u ws =>
    rw[RelL]at r
    obtain⟨y,ys,rfl,r1,r2⟩:=r
    obtain⟨zs,e1,e2,e3⟩:=ih (ws:=ws) (xs:=ys) (by simpa using l) r2
    rw[List.map_cons,List.zip_cons_cons,List.map_cons,e1]
    unfold QhG
    by_cases hk:k=x
    ·subst hk
     rw[if_pos rfl,if_pos rfl]
     exact⟨v::zs,rfl,by simp[e2],.cons rv e3⟩
    ·rw[if_neg hk,if_neg (by intro z;exact hk (Sum.inr.inj z))]
     exact⟨y::zs,rfl,by simp[e2],.cons r1 e3⟩
 unfold QeI QfL
 rw[any_eq l]
 by_cases ha:(ks.any fun k=>decide (k=x))=true
 ·rw[if_pos ha,if_pos ha]
  exact set_eq l r
 ·rw[if_neg ha,if_neg ha]
  refine⟨xs++[v],?_,by simp[l],r.append (.cons rv .nil)⟩
  rw[List.map_append,List.zip_append (by simp[l])]
  rfl
theorem Qcl {w:W}{v:V}{ws:List W} (r:HRel K ρ h H) (e:QlN h w=some ws) (q:Rel K ρ H w v):∃ a xs,v=.ref a∧SqL K H a xs∧RelL K ρ H ws xs:=by
 cases w with
 |lst us =>
  rw[Rel]at q
  obtain⟨a,xs,e1,_,e2,e3⟩:=q
  cases (show us=ws from Option.some.inj e)
  exact⟨a,xs,e1,.inl (.inl e2),e3⟩
 |scr us =>
  rw[Rel]at q
  obtain⟨a,xs,e1,e2,e3⟩:=q
  cases (show us=ws from Option.some.inj e)
  exact⟨a,xs,e1,e2.sq,e3⟩
 |ref n =>
  rw[Rel]at q
  obtain⟨a,e1,e2⟩:=q
  have e':(match h[n]? with | some (.lst ws)=>some ws | _=>none)=some ws:=e
  split at e'<;>try (cases e';done)
  rename_i us e3
  cases e'
  obtain⟨_,xs,z,zr⟩:=r.at_ n a _ e2 e3
  exact⟨a,xs,e1,.inl (.inl z),zr⟩
 |_=>cases e
theorem Qbk {w:W}{v:V}{ws:List W} (r:HRel K ρ h H) (e:Qc5 h w=some ws) (q:Rel K ρ H w v):∃ a xs,v=.ref a∧H a=some (.lst xs)∧RelL K ρ H ws xs:=by
 cases w with
 |lst us =>
  rw[Rel]at q
  obtain⟨a,xs,e1,_,e2,e3⟩:=q
  cases (show us=ws from Option.some.inj e)
  exact⟨a,xs,e1,e2,e3⟩
 |ref n =>
  rw[Rel]at q
  obtain⟨a,e1,e2⟩:=q
  have e':(match h[n]? with | some (.lst ws)=>some ws | _=>none)=some ws:=e
  split at e'<;>try (cases e';done)
  rename_i us e3
  cases e'
  obtain⟨_,xs,z,zr⟩:=r.at_ n a _ e2 e3
  exact⟨a,xs,e1,z,zr⟩
 |_=>cases e
theorem Qle {w:W}{v:V}{ws:List W} (e:Qlj w=some ws) (q:Rel K ρ H w v):∃ a xs,v=.ref a∧SqT K H a xs∧RelL K ρ H ws xs:=by
 cases w with
 |tup us =>
  rw[Rel]at q
  obtain⟨a,xs,e1,e2,e3⟩:=q
  cases (show us=ws from Option.some.inj e)
  exact⟨a,xs,e1,e2.sq,e3⟩
 |_=>cases e
theorem QbC {w:W}{v:V}{ws:List W} (r:HRel K ρ h H) (e:seqA h w=some ws) (q:Rel K ρ H w v):∃ a xs,v=.ref a∧(SqL K H a xs∨SqT K H a xs)∧RelL K ρ H ws xs:=by
 unfold seqA at e
 cases e1:Qlj w with
 |some us =>
  rw[e1]at e
  cases e
  obtain⟨a,xs,h1,h2,h3⟩:=Qle e1 q
  exact⟨a,xs,h1,.inr h2,h3⟩
 |none =>
  rw[e1]at e
  obtain⟨a,xs,h1,h2,h3⟩:=Qcl r e q
  exact⟨a,xs,h1,.inl h2,h3⟩
end
section
variable {X:Cx}{EX:EXT}{cf:CF}{pos:Pos}
noncomputable def rW (K:PySem.W.Frag) (EX:EXT) (f:W→W→Qac→Res W):R2:=fun x y H Q =>
 ∃ ρ h w1 w2,HRel K ρ h H∧Rel K ρ H w1 x∧Rel K ρ H w2 y∧RQ K EX ρ H (f w1 w2 h) fun w _ ρ' H'=>∀ v,Rel K ρ' H' w v→Q v H'
theorem two {K:PySem.W.Frag}{ea eb:Qai→Qac→Res W}{f:W→W→Qac→Res W}{τ:L2.St}{H:Hp}{Q:VK}
  (q:tI K EX (fun σ h=>bnd (ea σ h) fun x h=>bnd (eb σ h) fun y h=>f x y h) τ H Q) :
  tOp (rW K EX f) (tI K EX ea) (tI K EX eb) τ H Q:=by
 obtain⟨ρ,σ,h,re,hr,q⟩:=q
 refine⟨ρ,σ,h,re,hr,q.bnd.mono fun w1 h1 ρ1 H1 x1 hr1 q1 v1 r1=>?_⟩
 refine⟨ρ1,σ,h1,re.ext x1,hr1,q1.bnd.mono fun w2 h2 ρ2 H2 x2 hr2 q2 v2 r2=>?_⟩
 exact⟨ρ2,h2,w1,w2,hr2,Rel.ext x2 _ _ r1,r2,q2⟩
theorem one {K:PySem.W.Frag}{ea:Qai→Qac→Res W}{f:W→Qac→Res W}{τ:L2.St}{H:Hp}{Q:VK}
  (q:tI K EX (fun σ h=>bnd (ea σ h) fun x h=>f x h) τ H Q) :
  tI K EX ea τ H fun x H1=>∃ ρ h w1,HRel K ρ h H1∧Rel K ρ H1 w1 x∧RQ K EX ρ H1 (f w1 h) fun w _ ρ' H'=>∀ v,Rel K ρ' H' w v→Q v H':=by
 obtain⟨ρ,σ,h,re,hr,q⟩:=q
 exact⟨ρ,σ,h,re,hr,q.bnd.mono fun w1 h1 ρ1 H1 x1 hr1 q1 v1 r1=>⟨ρ1,h1,w1,hr1,r1,q1⟩⟩
theorem Qjl {i:Int}{j:Nat}:PE X (.Constant (.int i) j pos) (tI X.K EX (evE cf (.con (.int i)))):=pe_int.sub fun τ H Q ⟨ρ,σ,h,re,hr,q⟩=>RQ.here hr q _ (by rw[Rel])
theorem QkZ {b:Bool}{j:Nat}:PE X (.Constant (.bool b) j pos) (tI X.K EX (evE cf (.con (.bl b)))):=pe_bl.sub fun τ H Q ⟨ρ,σ,h,re,hr,q⟩=>RQ.here hr q _ (by rw[Rel])
theorem QiZ {s:Str}{j:Nat}:PE X (.Constant (.str s) j pos) (tI X.K EX (evE cf (.con (.str s)))):=pe_str.sub fun τ H Q ⟨ρ,σ,h,re,hr,q⟩=>RQ.here hr q _ (by rw[Rel])
theorem Qjd {j:Nat}:PE X (.Constant .none j pos) (tI X.K EX (evE cf (.con .non))):=pe_non.sub fun τ H Q ⟨ρ,σ,h,re,hr,q⟩=>RQ.here hr q _ (by rw[Rel])
theorem r_glob {x:Str}{w:W}{v:V}{u:Value} (hg:Gl X x) (hm:X.mg x=some u) (r:RelV v u) (rw':∀ ρ H,Rel X.K ρ H w v) (hd:(x == ("__debug__":Str))=false):PE X (.Name x pos) (tI X.K EX (evE cf (.con w))) :=
 (QmI hg hm r hd).sub fun τ H Q ⟨ρ,σ,h,re,hr,q⟩=>RQ.here hr q _ (rw' _ _)
theorem r_var {i:Nat}{x:Str} (hN:X.N[i]?=some x) (hv:Vis X.env.scope x) (hd:(x == ("__debug__":Str))=false) (hcd:(x == ("__classdict__":Str))=false) :
  PE X (.Name x pos) (tI X.K EX (evE cf (.var i))):=(pe_var hN hv hd hcd).sub fun τ H Q zq=>by
 obtain⟨ρ,σ,h,re,hr,q⟩:=zq
 rw[evE]at q
 split at q
 ·rename_i w e
  obtain⟨v,h1,h2⟩:=re.at_ i w e
  exact⟨v,h1,RQ.here hr q v h2⟩
 ·exact q.elim
variable {a b:Expr}{ea eb:Qai→Qac→Res W}
theorem r_bin {op:Operator}{a' b':E} (ho:OpR X (binaryOp op) (rW X.K EX (opW op))) (ha:PE X a (tI X.K EX (evE cf a'))) (hb:PE X b (tI X.K EX (evE cf b'))) :
  PE X (.BinOp a op b pos) (tI X.K EX (evE cf (.bin op a' b'))):=(QmM ho ha hb).sub fun τ H Q q=>two (by
 obtain⟨ρ,σ,h,re,hr,q⟩:=q
 rw[evE]at q
 exact⟨ρ,σ,h,re,hr,q⟩)
theorem Qku {i j:Int} (h:Qc4 i j=true):PySem.IntMulOk i j:=by
 unfold Qc4 at h
 rw[Bool.or_eq_true]at h
 rcases h with h | h
 ·rcases of_decide_eq_true h with ⟨h1,h2⟩ | ⟨h1,h2⟩
  ·exact .of_left (intBits_le_64 h1 h2)
  ·exact .of_right (intBits_le_64 h1 h2)
 ·exact PyProof.Rows.mulOk_of_bits (Nat.le_refl _) (Nat.le_refl _) (of_decide_eq_true h)
theorem QlS:OpR X (binaryOp .Mult) (rI (fun i j=>Qc4 i j=true) fun i j=>.int (i*j)):=L2.opI fun _ _ _ _ _ _ _ hc q=>mul_int q (Qku hc)
theorem QkM:OpR X (binaryOp .FloorDiv) (rI (fun _ j=>j≠0∧j.natAbs.log2<9000) fun i j=>.int (i.fdiv j)):=L2.opI fun _ _ _ _ _ _ _ hc q=>floordiv_int hc.1 q (.inl (PyProof.noPylong_of_log2 hc.2))
theorem Qap {K:PySem.W.Frag}{ρ:List Addr}{H:Hp}{i:Int}{v:V} (h:Rel K ρ H (.int i) v):v=.int i:=by rw[Rel]at h;exact h
theorem Qaw {K:PySem.W.Frag}{ρ:List Addr}{H:Hp}{i:Str}{v:V} (h:Rel K ρ H (.str i) v):v=.str i:=by rw[Rel]at h;exact h
theorem Qbr {K:PySem.W.Frag}{ρ:List Addr}{H:Hp}{i:Bool}{v:V} (h:Rel K ρ H (.bl i) v):v=.bl i:=by rw[Rel]at h;exact h
theorem Qdc {K:PySem.W.Frag}{ρ:List Addr}{H:Hp}{v:V} (h:Rel K ρ H .non v):v=.non:=by rw[Rel]at h;exact h
theorem Qbc {K:PySem.W.Frag}{ρ:List Addr}{H:Hp}{i:Int}:Rel K ρ H (.int i) (.int i):=by rw[Rel]
theorem QcM {K:PySem.W.Frag}{ρ:List Addr}{H:Hp}{i:Str}:Rel K ρ H (.str i) (.str i):=by rw[Rel]
theorem Qbh {K:PySem.W.Frag}{ρ:List Addr}{H:Hp}{i:Bool}:Rel K ρ H (.bl i) (.bl i):=by rw[Rel]
theorem Qiw {K:PySem.W.Frag}{ρ:List Addr}{H:Hp}:Rel K ρ H .non .non:=by rw[Rel]
theorem mk_tup {K:PySem.W.Frag}{ρ:List Addr}{h:Qac}{H:Hp}{ws:List W}{xs:List V}{a:Addr} (hr:HRel K ρ h H) (n:H a=none) (r:RelL K ρ H ws xs):Rel K ρ (upd H a (.tup xs)) (.tup ws) (.ref a):=by
 rw[Rel]
 exact⟨a,xs,rfl,.inl ⟨hr.new n,.inl QaK⟩,RelL.ext (ext_new hr n) _ _ r⟩
theorem mk_lst {K:PySem.W.Frag}{ρ:List Addr}{h:Qac}{H:Hp}{ws:List W}{xs:List V}{a:Addr} (hr:HRel K ρ h H) (n:H a=none) (r:RelL K ρ H ws xs):Rel K ρ (upd H a (.lst xs)) (.lst ws) (.ref a):=by
 rw[Rel]
 exact⟨a,xs,rfl,hr.new n,QaK,RelL.ext (ext_new hr n) _ _ r⟩
theorem RQ.tup {K:PySem.W.Frag}{ρ:List Addr}{h:Qac}{H:Hp}{ws:List W}{xs:List V}{Q:VK} (hr:HRel K ρ h H) (r:RelL K ρ H ws xs)
  (q:RQ K EX ρ H (.ok (.tup ws) h) fun w _ ρ' H'=>∀ v,Rel K ρ' H' w v→Q v H'):∀ p,H p=none→Q (.ref p) (upd H p (.tup xs)):=fun p n =>
 q ρ _ (ext_new hr n) (hr.ext_new n) _ (mk_tup hr n r)
theorem RQ.lst {K:PySem.W.Frag}{ρ:List Addr}{h:Qac}{H:Hp}{ws:List W}{xs:List V}{Q:VK} (hr:HRel K ρ h H) (r:RelL K ρ H ws xs)
  (q:RQ K EX ρ H (.ok (.lst ws) h) fun w _ ρ' H'=>∀ v,Rel K ρ' H' w v→Q v H'):∀ p,H p=none→Q (.ref p) (upd H p (.lst xs)):=fun p n =>
 q ρ _ (ext_new hr n) (hr.ext_new n) _ (mk_lst hr n r)
theorem QiX {x:Str}{n:Int} (h:x.length≤1000∧-1000≤n∧n≤1000):PySem.MulOk x n:=by
 obtain⟨h1,h2,h3⟩:=h
 refine⟨?_,fun h4 _=>?_,fun h4 _=>?_⟩
 ·rw[decide_eq_false (by omega),decide_eq_false (by omega)];rfl
 ·intro h5
  have h6:(1000:Int)≤(2 ^ 63-1) / n:=Int.le_ediv_of_mul_le (by omega) (by omega)
  omega
 ·have h6:x.length*n.toNat≤1000*1000:=Nat.mul_le_mul h1 (by omega)
  show decide (x.length*n.toNat>sizeLine)=false
  exact decide_eq_false (by rw[sizeLine_eq];omega)
theorem Qnh {prog:Program}{w:World}{A:Around}{E:Value→Shared→Prop}{s:Shared}{t b:Addr}{vs us:List Value}{Q:Value→Shared→Prop} (ht:IsTup s.heap t vs.toArray) (hb:IsTup s.heap b us.toArray) (hv:vs=[])
  (h:Q (.ref b) s):wpAny (model prog w) A (binaryOp .Add (.ref t) (.ref b)) Q E s:=by
 obtain⟨⟨c1,d1,o1,l1⟩,h1,k1,n1,z1⟩:=id ht
 obtain⟨⟨c2,d2,o2,l2⟩,h2,k2,n2,z2⟩:=id hb
 simp only at k1 z1 k2 z2
 subst k1 z1 k2 z2
 exact concat_meets ⟨_,h1,rfl⟩ ⟨_,h2,rfl⟩ noFill_tuple_add seq_tuple_add PySem.F.slot_tuple_add PySem.F.entry_tuple_add (PySem.F.args_tuple_add_2 _ _) (tuple_addW0 t b vs.toArray us.toArray n1 n2 d1 d2 l1 l2 (by simp[hv])) ⟨h1,h2,h⟩
theorem opW_ok (op:Operator):OpR X (binaryOp op) (rW X.K EX (opW op)):=by
 intro pins s σ H x y v u Q I rx ry ⟨ρ,h,w1,w2,hr,r1,r2,q⟩
 unfold opW at q
 split at q
 ·-- ints
  rename_i i j
  cases Qap r1;cases Qap r2
  unfold QfQ at q
  cases op with
  |Add=>exact op_add pins s σ H _ _ v u Q I rx ry ⟨i,j,rfl,rfl,RQ.here hr q _ Qbc⟩
  |Sub=>exact op_sub pins s σ H _ _ v u Q I rx ry ⟨i,j,rfl,rfl,RQ.here hr q _ Qbc⟩
  |Mult =>
   dsimp only at q
   split at q
   ·rename_i hm;exact QlS pins s σ H _ _ v u Q I rx ry ⟨i,j,rfl,rfl,hm,RQ.here hr q _ Qbc⟩
   ·exact q.elim
  |FloorDiv =>
   dsimp only at q
   split at q
   ·rename_i hm;exact QkM pins s σ H _ _ v u Q I rx ry ⟨i,j,rfl,rfl,hm,RQ.here hr q _ Qbc⟩
   ·exact q.elim
  |Mod =>
   dsimp only at q
   split at q
   ·rename_i hm;exact QmC pins s σ H _ _ v u Q I rx ry ⟨i,j,rfl,rfl,hm,RQ.here hr q _ Qbc⟩
   ·exact q.elim
  |Pow =>
   dsimp only at q
   split at q
   ·rename_i hm;exact op_pow pins s σ H _ _ v u Q I rx ry ⟨i,j,rfl,rfl,hm,RQ.here hr q _ Qbc⟩
   ·exact q.elim
  |_=>exact q.elim
 ·rename_i i j
  cases Qaw r1;cases Qaw r2
  split at q
  ·split at q
   ·rename_i hm;exact QhK pins s σ H _ _ v u Q I rx ry ⟨i,j,rfl,rfl,hm,RQ.here hr q _ QcM⟩
   ·exact q.elim
  ·exact q.elim
 ·rename_i z n
  cases Qaw r1;cases Qap r2
  split at q
  ·split at q
   ·rename_i hm
    obtain⟨t,rfl⟩:=rx
    obtain⟨t',rfl⟩:=ry
    exact PySem.SB.mul (QiX hm) fun t' k=>⟨.str _,H,I.tok _,⟨_,rfl⟩,RQ.here hr q _ QcM⟩
   ·exact q.elim
  ·exact q.elim
 ·rename_i ws us
  split at q
  ·rw[Rel]at r1 r2
   obtain⟨a,xs,rfl,q1,s1⟩:=r1
   obtain⟨b,ys,rfl,q2,s2⟩:=r2
   unfold QfO okT at q
   dsimp only at q
   split at q
   ·rename_i hm
    cases ws with
    |nil =>
     have e0:=s1.length
     cases xs with
     |cons _ _=>cases e0
     |nil =>
     cases rx
     cases ry
     obtain⟨its,l1,p1,_⟩:=I.tuple q1.sq
     obtain⟨its2,l2,p2,_⟩:=I.tuple q2.sq
     refine Qnh p1 p2 (l1.nil_iff.mpr rfl) ⟨.ref b,H,I,rfl,?_⟩
     refine RQ.here hr q _ ?_
     rw[List.nil_append,Rel]
     exact⟨b,ys,rfl,q2,s2⟩
    |cons w0 ws0 =>
    refine(Qn2 (X:=X)) pins s σ H _ _ v u Q I rx ry ⟨a,b,xs,ys,rfl,rfl,q1.sq,q2.sq,?_,by rw[← s1.length,← s2.length];exact hm,fun e=>?_,fun _=>RQ.tup hr (s1.append s2) q⟩
    ·intro e
     have:=s1.length
     rw[e]at this
     cases this
    ·subst e
     have:=s2.length
     cases us with
     |nil =>
      refine RQ.here hr q _ ?_
      rw[List.append_nil,Rel]
      exact⟨a,xs,rfl,q1,s1⟩
     |cons w ws=>simp at this
   ·exact q.elim
  ·exact q.elim
 ·rename_i j _ _
  split at q
  ·cases Qap r2
   unfold okL at q
   cases e:Qc5 h w1 with
   |none=>rw[e]at q;exact q.elim
   |some ws =>
    rw[e]at q
    unfold repL at q
    dsimp only at q
    split at q
    ·rename_i hm
     obtain⟨a,xs,rfl,e1,s1⟩:=Qbk hr e r1
     exact(Qlw (X:=X)) pins s σ H _ _ v u Q I rx ry ⟨a,j,xs,rfl,rfl,e1,hm.1,hm.2.1,by rw[← s1.length];exact hm.2.2,RQ.lst hr (s1.flatrep _) q⟩
    ·exact q.elim
  ·exact q.elim
 ·split at q
  ·unfold okL at q
   cases e:Qc5 h w1 with
   |none=>rw[e]at q;exact q.elim
   |some ws =>
    cases e':Qc5 h w2 with
    |none=>rw[e,e']at q;exact q.elim
    |some us =>
     rw[e,e']at q
     unfold QfO at q
     dsimp only at q
     split at q
     ·rename_i hm
      obtain⟨a,xs,rfl,e1,s1⟩:=Qbk hr e r1
      obtain⟨b,ys,rfl,e2,s2⟩:=Qbk hr e' r2
      exact(Qlp (X:=X)) pins s σ H _ _ v u Q I rx ry ⟨a,b,xs,ys,rfl,rfl,e1,e2,by rw[← s1.length,← s2.length];exact hm,RQ.lst hr (s1.append s2) q⟩
     ·exact q.elim
  ·exact q.elim
end
section
variable {X:Cx}{EX:EXT}{cf:CF}{pos:Pos}{a b c:Expr}{a' b' c':E}
mutual
theorem Qhr {pins:List (Addr×Obj)}{σ:L2.St}{H:Hp}{s:Shared} (I:Inv X pins σ H s) {ρ:List Addr}:∀ (w:W) (v:V) (u:Value),okP w=true→Rel X.K ρ H w v→RelV v u→∃ as,Reads s.heap u (toP w) as
 |.non,v,u,_,r,q=>by cases Qdc r;cases q;exact⟨_,.none⟩
 |.bl b,v,u,_,r,q=>by cases Qbr r;cases q;exact⟨_,.bool b⟩
 |.int i,v,u,_,r,q=>by cases Qap r;obtain⟨t,rfl⟩:=q;exact⟨_,.int i t⟩
 |.str i,v,u,_,r,q=>by cases Qaw r;obtain⟨t,rfl⟩:=q;exact⟨_,.str i t⟩
 |.tup ws,v,u,ok,r,q=>by
  rw[Rel]at r
  rw[okP]at ok
  obtain⟨a,xs,rfl,hq,rs⟩:=r
  cases q
  obtain⟨its,rv,⟨o,ho,hc,n,hd⟩,hz⟩:=I.tuple hq.sq
  obtain⟨as,ra⟩:=QbQ I ws xs its ok rs rv
  exact⟨as,by rw[toP];exact .tuple ho hc hd (by simpa using ra)⟩
 |.lst ws,v,u,ok,r,q=>by
  rw[Rel]at r
  rw[okP]at ok
  obtain⟨a,xs,rfl,_,hq,rs⟩:=r
  cases q
  obtain⟨its,rv,⟨o,n,ho,hc,_,hd⟩,hz⟩:=I.list (.inl (.inl hq))
  obtain⟨as,ra⟩:=QbQ I ws xs its ok rs rv
  exact⟨_,by rw[toP];exact .list ho hc hd (by simpa using ra)⟩
 |.scr ws,v,u,ok,r,q=>by
  rw[Rel]at r
  rw[okP]at ok
  obtain⟨a,xs,rfl,hq,rs⟩:=r
  cases q
  obtain⟨its,rv,⟨o,n,ho,hc,_,hd⟩,hz⟩:=I.list hq.sq
  obtain⟨as,ra⟩:=QbQ I ws xs its ok rs rv
  exact⟨_,by rw[toP];exact .list ho hc hd (by simpa using ra)⟩
 |.dic _ _,v,u,ok,r,q=>by rw[okP]at ok;cases ok
 |.ref _,v,u,ok,r,q=>by rw[okP]at ok;cases ok
 |.ins _ _,v,u,ok,r,q=>by rw[okP]at ok;cases ok
theorem QbQ {pins:List (Addr×Obj)}{σ:L2.St}{H:Hp}{s:Shared} (I:Inv X pins σ H s) {ρ:List Addr}:∀ (ws:List W) (xs:List V) (us:List Value),QjN ws=true→RelL X.K ρ H ws xs→Vals xs us→∃ as,ReadsAll s.heap us (QdP ws) as
 |[],xs,us,_,r,q=>by
  rw[RelL]at r
  subst r
  cases q
  exact⟨[],by rw[QdP];exact .nil⟩
 |w::ws,xs,us,ok,r,q=>by
  rw[RelL]at r
  rw[QjN,Bool.and_eq_true]at ok
  obtain⟨y,ys,rfl,r1,r2⟩:=r
  cases q with
  |cons q1 q2 =>
   obtain⟨as,ra⟩:=Qhr I w y _ ok.1 r1 q1
   obtain⟨bs,rb⟩:=QbQ I ws ys _ ok.2 r2 q2
   exact⟨_,by rw[QdP];exact .cons ra rb⟩
end
theorem Qb7 {pins:List (Addr×Obj)}{σ:L2.St}{H:Hp}{s:Shared} (I:Inv X pins σ H s) {ρ:List Addr}{h:Qac}{w w':W}{v:V}{u:Value} (hr:HRel X.K ρ h H) (e:Qcy h w=some w') (r:Rel X.K ρ H w v) (q:RelV v u):∃ as,Reads s.heap u (toP w') as:=by
 have plain:∀ (z:Qcy h w=if okP w then some w else none),∃ as,Reads s.heap u (toP w') as:=fun z=>by
  rw[z]at e
  split at e
  ·rename_i ok
   cases e
   exact Qhr I w v u ok r q
  ·cases e
 cases w with
 |ref n =>
  have e':(match h[n]? with | some (.lst ws)=>if QjN ws then some (W.lst ws) else none | _=>none)=some w':=e
  split at e'<;>try (cases e';done)
  rename_i ws e3
  split at e'
  ·rename_i ok
   cases e'
   obtain⟨l,xs,rfl,hx,rs⟩:=Qbk (w:=.ref n) (ws:=ws) hr (by show (match h[n]? with | some (.lst ws)=>some ws | _=>none)=some ws;rw[e3]) r
   cases q
   obtain⟨its,rv,⟨o,n,ho,hc,_,hd⟩,hz⟩:=I.list (.inl (.inl hx))
   obtain⟨as,ra⟩:=QbQ I ws xs its ok rs rv
   exact⟨_,by rw[toP];exact .list ho hc hd (by simpa using ra)⟩
  ·cases e'
 |non=>exact plain rfl
 |bl k=>exact plain rfl
 |int k=>exact plain rfl
 |str k=>exact plain rfl
 |tup k=>exact plain rfl
 |lst k=>exact plain rfl
 |scr k=>exact plain rfl
 |dic k l=>exact plain rfl
 |ins k l=>exact plain rfl
theorem Qhs {K:PySem.W.Frag}{ρ:List Addr}{H:Hp}{h:Qac}{x y:W}{v u:V}{k:Bool} (e:eqW h x y=some k) (r1:Rel K ρ H x v) (r2:Rel K ρ H y u):(scal v u=true∧decide (v=u)=k) ∨
  ∃ a b,Qcy h x=some a∧Qcy h y=some b∧SeqAt.shaped (toP a)=true∧SeqAt.shaped (toP b)=true∧PyData.eqv (toP a) (toP b)=k:=by
 unfold eqW at e
 split at e
 ·rename_i i j
  cases Qap r1;cases Qap r2;cases e
  exact .inl ⟨rfl,by simp⟩
 ·rename_i i j
  cases Qbr r1;cases Qbr r2;cases e
  exact .inl ⟨rfl,by simp⟩
 ·rename_i i j
  cases Qaw r1;cases Qaw r2;cases e
  exact .inl ⟨rfl,by simp⟩
 ·split at e
  ·rename_i a b h1 h2
   split at e
   ·rename_i hs
    rw[Bool.and_eq_true]at hs
    cases e
    exact .inr ⟨a,b,h1,h2,hs.1,hs.2,rfl⟩
   ·cases e
  ·cases e
theorem Qe7 {K:PySem.W.Frag}{ρ:List Addr}{H:Hp}{w:W}{v:V} (f:Qgi w=true) (r:Rel K ρ H w v):v=toV w:=by
 cases w with
 |non=>exact Qdc r
 |bl b=>exact Qbr r
 |int b=>exact Qap r
 |str b=>exact Qaw r
 |_=>cases f
theorem Qdx {K:PySem.W.Frag}{ρ:List Addr}{H:Hp}:∀ {ws:List W}{xs:List V},ws.all Qgi=true→RelL K ρ H ws xs→xs=ws.map toV
 |[],xs,_,r=>by rw[RelL]at r;rw[r];rfl
 |w::ws,xs,f,r=>by
  rw[List.all_cons,Bool.and_eq_true]at f
  rw[RelL]at r
  obtain⟨y,ys,rfl,r1,r2⟩:=r
  rw[Qe7 f.1 r1,Qdx f.2 r2]
  rfl
theorem Qeo {w:W} (f:Qgi w=true):Qd9 (toV w)=true:=by
 cases w with
 |non=>rfl
 |bl b=>rfl
 |int b=>rfl
 |str b=>rfl
 |_=>cases f
theorem QcZ:∀ {ws:List W},ws.all Qgi=true→(ws.map toV).all Qd9=true
 |[],_=>rfl
 |w::ws,f=>by
  rw[List.all_cons,Bool.and_eq_true]at f
  rw[List.map_cons,List.all_cons,Qeo f.1,QcZ f.2]
  rfl
theorem Qfg {K:PySem.W.Frag}{ρ:List Addr}{H:Hp}{w:W}{v:V} (r:Rel K ρ H w v):decide (v=.non)=Qn0 w:=by
 cases w with
 |non=>cases Qdc r;rfl
 |bl b=>cases Qbr r;rfl
 |int b=>cases Qap r;rfl
 |str b=>cases Qaw r;rfl
 |_=>rw[Rel]at r;obtain⟨a,r⟩:=r;first | (obtain⟨rfl,_⟩:=r;rfl) | (obtain⟨xs,rfl,_⟩:=r;rfl) | (obtain⟨dx,xs,C,rfl,_⟩:=r;rfl)
theorem Qjr (hu:X.A.units+64<cLine) (op:CmpOp):OpR X (compareOp op) (rW X.K EX (Qfl op)):=by
 intro pins s σ H x y v u Q I rx ry ⟨ρ,h,w1,w2,hr,r1,r2,q⟩
 unfold Qfl at q
 cases op with
 |Eq =>
  dsimp only at q
  split at q
  ·rename_i k e
   rcases Qhs e r1 r2 with ⟨h1,h2⟩ | ⟨a,b,h1,h2,h3,h4,h5⟩
   ·exact op_eq pins s σ H _ _ v u Q I rx ry ⟨h1,by rw[h2];exact RQ.here hr q _ Qbh⟩
   ·obtain⟨as,ra⟩:=Qb7 I hr h1 r1 rx
    obtain⟨bs,rb⟩:=Qb7 I hr h2 r2 ry
    exact eq_dataH ra rb h3 h4 hu ⟨.bl k,H,I,by rw[h5];rfl,RQ.here hr q _ Qbh⟩
  ·exact q.elim
 |NotEq =>
  dsimp only at q
  split at q
  ·rename_i k e
   rcases Qhs e r1 r2 with ⟨h1,h2⟩ | ⟨a,b,h1,h2,h3,h4,h5⟩
   ·exact op_ne pins s σ H _ _ v u Q I rx ry ⟨h1,by rw[h2];exact RQ.here hr q _ Qbh⟩
   ·obtain⟨as,ra⟩:=Qb7 I hr h1 r1 rx
    obtain⟨bs,rb⟩:=Qb7 I hr h2 r2 ry
    exact ne_dataH ra rb h3 h4 hu ⟨.bl (!k),H,I,by rw[h5];rfl,RQ.here hr q _ Qbh⟩
  ·exact q.elim
 |Lt =>
  dsimp only at q
  split at q
  ·rename_i i j
   cases Qap r1;cases Qap r2
   exact op_lt pins s σ H _ _ v u Q I rx ry ⟨i,j,rfl,rfl,RQ.here hr q _ Qbh⟩
  ·rename_i i j
   cases Qaw r1;cases Qaw r2
   obtain⟨t,rfl⟩:=rx
   obtain⟨t',rfl⟩:=ry
   exact PySem.P.lt_str ⟨.bl (ltS i j),H,I,rfl,RQ.here hr q _ Qbh⟩
  ·exact q.elim
 |LtE =>
  dsimp only at q
  split at q
  ·rename_i i j
   cases Qap r1;cases Qap r2
   exact op_le pins s σ H _ _ v u Q I rx ry ⟨i,j,rfl,rfl,RQ.here hr q _ Qbh⟩
  ·rename_i i j
   cases Qaw r1;cases Qaw r2
   obtain⟨t,rfl⟩:=rx
   obtain⟨t',rfl⟩:=ry
   exact PySem.P.le_str ⟨.bl (!ltS j i),H,I,rfl,RQ.here hr q _ Qbh⟩
  ·exact q.elim
 |Gt =>
  dsimp only at q
  split at q
  ·rename_i i j
   cases Qap r1;cases Qap r2
   exact op_gt pins s σ H _ _ v u Q I rx ry ⟨i,j,rfl,rfl,RQ.here hr q _ Qbh⟩
  ·rename_i i j
   cases Qaw r1;cases Qaw r2
   obtain⟨t,rfl⟩:=rx
   obtain⟨t',rfl⟩:=ry
   exact PySem.P.gt_str ⟨.bl (ltS j i),H,I,rfl,RQ.here hr q _ Qbh⟩
  ·exact q.elim
 |GtE =>
  dsimp only at q
  split at q
  ·rename_i i j
   cases Qap r1;cases Qap r2
   exact op_ge pins s σ H _ _ v u Q I rx ry ⟨i,j,rfl,rfl,RQ.here hr q _ Qbh⟩
  ·rename_i i j
   cases Qaw r1;cases Qaw r2
   obtain⟨t,rfl⟩:=rx
   obtain⟨t',rfl⟩:=ry
   exact PySem.P.ge_str ⟨.bl (!ltS i j),H,I,rfl,RQ.here hr q _ Qbh⟩
  ·exact q.elim
 |In =>
  dsimp only at q
  unfold inW at q
  split at q
  ·rename_i ks ws e
   split at q
   ·rename_i k
    cases Qaw r1
    obtain⟨a,xs,rfl,hd,hl,rs⟩:=QbK hr e r2
    have hdg:DGet H a (.str k) (QfP ((ks.map Sum.inr).zip xs) (Sum.inr k:Key)):=(.inl ⟨_,Sum.inr k,hd,rfl,rfl⟩)
    cases ry
    refine d_in (Nat.lt_trans (by omega) hu) I hdg rx fun s' I'=>⟨.bl _,H,I',rfl,?_⟩
    rw[← QeM hl rs]
    exact RQ.here hr q _ Qbh
   ·exact q.elim
  rename_i hnd
  split at q
  ·rename_i ws e
   split at q
   ·rename_i hf
    rw[Bool.and_eq_true]at hf
    obtain⟨a,xs,rfl,hq,rs⟩:=QbC hr e r2
    have e1:=Qe7 hf.1 r1
    have e2:=Qdx hf.2 rs
    subst e1 e2
    exact QiM pins s σ H _ _ v u Q I rx ry ⟨a,_,rfl,hq,Qeo hf.1,QcZ hf.2,RQ.here hr q _ Qbh⟩
   ·exact q.elim
  ·exact q.elim
 |NotIn =>
  dsimp only at q
  unfold inW at q
  split at q
  ·rename_i ks ws e
   split at q
   ·rename_i k
    cases Qaw r1
    obtain⟨a,xs,rfl,hd,hl,rs⟩:=QbK hr e r2
    have hdg:DGet H a (.str k) (QfP ((ks.map Sum.inr).zip xs) (Sum.inr k:Key)):=(.inl ⟨_,Sum.inr k,hd,rfl,rfl⟩)
    cases ry
    refine Qmq (Nat.lt_trans (by omega) hu) I hdg rx fun s' I'=>⟨.bl _,H,I',rfl,?_⟩
    rw[← QeM hl rs]
    exact RQ.here hr q _ Qbh
   ·exact q.elim
  rename_i hnd
  split at q
  ·rename_i ws e
   split at q
   ·rename_i hf
    rw[Bool.and_eq_true]at hf
    obtain⟨a,xs,rfl,hq,rs⟩:=QbC hr e r2
    have e1:=Qe7 hf.1 r1
    have e2:=Qdx hf.2 rs
    subst e1 e2
    exact Qfq pins s σ H _ _ v u Q I rx ry ⟨a,_,rfl,hq,Qeo hf.1,QcZ hf.2,RQ.here hr q _ Qbh⟩
   ·exact q.elim
  ·exact q.elim
 |Is =>
  dsimp only at q
  split at q
  ·cases Qdc r2
   exact op_isN pins s σ H _ _ v u Q I rx ry ⟨rfl,by rw[Qfg r1];exact RQ.here hr q _ Qbh⟩
  ·exact q.elim
 |IsNot =>
  dsimp only at q
  split at q
  ·cases Qdc r2
   exact Qm6 pins s σ H _ _ v u Q I rx ry ⟨rfl,by rw[Qfg r1];exact RQ.here hr q _ Qbh⟩
  ·exact q.elim
noncomputable def Qeh (e:Expr):Bool:=match e with
 |.Set ..=>false
 |_=>true
theorem Qg8 {op:CmpOp}{e:Expr} (h:Qeh e=true):behindInMarks op e=false:=by
 cases e<;>first | rfl | cases h
theorem r_cmp {op:CmpOp} (hu:X.A.units+64<cLine) (ha:PE X a (tI X.K EX (evE cf a'))) (hb:PE X b (tI X.K EX (evE cf b'))) (hp:Qeh b=true) :
  PE X (.Compare a [op] [b] pos) (tI X.K EX (evE cf (.cmp op a' b'))):=(Qme (Qjr hu op) ha hb (Qg8 hp)).sub fun τ H Q q=>two (by
 obtain⟨ρ,σ,h,re,hr,q⟩:=q
 rw[evE]at q
 exact⟨ρ,σ,h,re,hr,q⟩)
theorem bl_of {K:PySem.W.Frag}{h:Qac}{w:W}{k:Bool} (e:QlL h w=some k):w=.bl k:=by
 cases w<;>first | (cases e;rfl) | cases e
noncomputable abbrev evT (cf:CF) (a:E):Qai→Qac→Res Bool:=fun σ h=>tst (evE cf a σ h)
theorem Qio {τ:L2.St}{H:Hp}{Q:Bool→Hp→Prop}{ev:Qai→Qac→Res W}{K:PySem.W.Frag} (q:tIT K EX (fun σ h=>tst (ev σ h)) τ H Q):tI K EX ev τ H fun x H1=>∃ k,x=.bl k∧Q k H1:=by
 obtain⟨ρ,σ,h,re,hr,q⟩:=q
 refine⟨ρ,σ,h,re,hr,q.bnd.mono fun w h1 ρ1 H1 x1 hr1 q1 v r=>?_⟩
 split at q1
 ·rename_i k e
  have e':=bl_of (K:=K) e
  subst e'
  exact⟨k,Qbr r,RQ.here hr1 q1⟩
 ·exact q1.elim
theorem t_cmp {op:CmpOp} (hu:X.A.units+64<cLine) (ha:PE X a (tI X.K EX (evE cf a'))) (hb:PE X b (tI X.K EX (evE cf b'))) (hp:Qeh b=true) :
  PT X (.Compare a [op] [b] pos) (tIT X.K EX (evT cf (.cmp op a' b'))):=(QlR (Qjr hu op) ha hb (Qg8 hp)).sub fun τ H Q q=>by
 have q':=Qio q
 exact two (by
  obtain⟨ρ,σ,h,re,hr,q⟩:=q'
  rw[evE]at q
  exact⟨ρ,σ,h,re,hr,q⟩)
noncomputable def QhP (e:Expr):Bool:=match e with
 |.UnaryOp .Not _ _=>false
 |.BoolOp ..=>false
 |.IfExp ..=>false
 |.Compare ..=>false
 |_=>true
theorem QhV {e:Expr} (h:QhP e=true):∀ (env:Env) (whole:Sem Value),isTrue e env whole=(do let v ← whole;standAt e.pos;holding [v] (truthy v)):=by
 intro env whole
 cases e with
 |UnaryOp op x p=>cases op<;>first | rfl | cases h
 |BoolOp=>cases h
 |IfExp=>cases h
 |Compare=>cases h
 |_=>rfl
theorem QmY (ha:PE X a (tI X.K EX (evE cf a'))) (hp:QhP a=true):PT X a (tIT X.K EX (evT cf a')) :=
 (pt_val ha (QhV hp _)).sub fun τ H Q q=>Qio q
theorem r_not (ha:PE X a (tI X.K EX (evE cf a'))):PE X (.UnaryOp .Not a pos) (tI X.K EX (evE cf (.not_ a'))):=(pe_not ha).sub fun τ H Q zq=>by
 obtain⟨ρ,σ,h,re,hr,q⟩:=zq
 rw[evE]at q
 refine Qio ⟨ρ,σ,h,re,hr,q.bnd.mono fun k h1 ρ1 H1 x1 hr1 q1=>RQ.here hr1 q1 _ Qbh⟩
theorem t_not (ha:PT X a (tIT X.K EX (evT cf a'))):PT X (.UnaryOp .Not a pos) (tIT X.K EX (evT cf (.not_ a'))):=(pt_not ha).sub fun τ H Q zq=>by
 obtain⟨ρ,σ,h,re,hr,q⟩:=zq
 refine⟨ρ,σ,h,re,hr,?_⟩
 have q1:=q.bnd
 rw[evE]at q1
 exact q1.bnd.mono fun k h1 ρ1 H1 x1 hr1 q2=>RQ.here hr1 (RQ.here hr1 q2)
theorem r_and {QbX:List Expr} (ha:PE X a (tI X.K EX (evE cf a'))) (hb:PE X (.BoolOp .And (b::QbX) pos) (tI X.K EX (evE cf b'))):PE X (.BoolOp .And (a::b::QbX) pos) (tI X.K EX (evE cf (.and_ a' b'))) :=
 (pe_and ha hb).sub fun τ H Q zq=>by
  obtain⟨ρ,σ,h,re,hr,q⟩:=zq
  rw[evE]at q
  refine⟨ρ,σ,h,re,hr,q.bnd.mono fun w h1 ρ1 H1 x1 hr1 q1 v r=>?_⟩
  split at q1
  ·exact⟨true,Qbr r,by rw[if_pos rfl];exact⟨ρ1,σ,h1,re.ext x1,hr1,q1⟩⟩
  ·exact⟨false,Qbr r,by rw[if_neg (by decide)];exact RQ.here hr1 q1 _ Qbh⟩
  ·exact q1.elim
theorem r_or {QbX:List Expr} (ha:PE X a (tI X.K EX (evE cf a'))) (hb:PE X (.BoolOp .Or (b::QbX) pos) (tI X.K EX (evE cf b'))):PE X (.BoolOp .Or (a::b::QbX) pos) (tI X.K EX (evE cf (.or_ a' b'))) :=
 (pe_or ha hb).sub fun τ H Q zq=>by
  obtain⟨ρ,σ,h,re,hr,q⟩:=zq
  rw[evE]at q
  refine⟨ρ,σ,h,re,hr,q.bnd.mono fun w h1 ρ1 H1 x1 hr1 q1 v r=>?_⟩
  split at q1
  ·exact⟨true,Qbr r,by rw[if_pos rfl];exact RQ.here hr1 q1 _ Qbh⟩
  ·exact⟨false,Qbr r,by rw[if_neg (by decide)];exact⟨ρ1,σ,h1,re.ext x1,hr1,q1⟩⟩
  ·exact q1.elim
theorem t_and1 {op:BoolOp} (ha:PT X a (tIT X.K EX (evT cf a'))):PW X (.BoolOp op [a] pos) (tIT X.K EX (evT cf a')):=by
 cases op with
 |And=>exact Qm7 ha
 |Or=>exact pw_or1 ha
theorem QaM {α β γ:Type} (r:Res α) (f:α→Qac→Res β) (g:β→Qac→Res γ):bnd (bnd r f) g=bnd r fun x h=>bnd (f x h) g:=by
 cases r<;>rfl
theorem QfV (cf:CF) (a b:E) (σ:Qai) (h:Qac):evT cf (.and_ a b) σ h=bnd (evT cf a σ h) fun k h=>if k=true then evT cf b σ h else .ok false h:=by
 show tst (evE cf (.and_ a b) σ h)=bnd (tst (evE cf a σ h)) _
 rw[evE]
 unfold tst
 rw[QaM,QaM]
 cases evE cf a σ h with
 |ok w h1 =>
  cases w with
  |bl k=>cases k<;>rfl
  |_=>rfl
 |exc c h1=>rfl
 |stuck=>rfl
theorem Ql6 (cf:CF) (a b:E) (σ:Qai) (h:Qac):evT cf (.or_ a b) σ h=bnd (evT cf a σ h) fun k h=>if k=true then .ok true h else evT cf b σ h:=by
 show tst (evE cf (.or_ a b) σ h)=bnd (tst (evE cf a σ h)) _
 rw[evE]
 unfold tst
 rw[QaM,QaM]
 cases evE cf a σ h with
 |ok w h1 =>
  cases w with
  |bl k=>cases k<;>rfl
  |_=>rfl
 |exc c h1=>rfl
 |stuck=>rfl
theorem QmR (cf:CF) (c a b:E) (σ:Qai) (h:Qac):evT cf (.ite c a b) σ h=bnd (evT cf c σ h) fun k h=>if k=true then evT cf a σ h else evT cf b σ h:=by
 show tst (evE cf (.ite c a b) σ h)=bnd (tst (evE cf c σ h)) _
 rw[evE]
 unfold tst
 rw[QaM,QaM,QaM]
 cases evE cf c σ h with
 |ok w h1 =>
  cases w with
  |bl k=>cases k<;>rfl
  |_=>rfl
 |exc c h1=>rfl
 |stuck=>rfl
theorem t_and {QbX:List Expr} (ha:PT X a (tIT X.K EX (evT cf a'))) (hb:PW X (.BoolOp .And (b::QbX) pos) (tIT X.K EX (evT cf b'))):PW X (.BoolOp .And (a::b::QbX) pos) (tIT X.K EX (evT cf (.and_ a' b'))) :=
 (pw_and ha hb).sub fun τ H Q zq=>by
  obtain⟨ρ,σ,h,re,hr,q⟩:=zq
  rw[QfV]at q
  refine⟨ρ,σ,h,re,hr,q.bnd.mono fun k h1 ρ1 H1 x1 hr1 q1=>?_⟩
  cases k with
  |true=>exact Qn3 ⟨ρ1,σ,h1,re.ext x1,hr1,by simpa using q1⟩
  |false=>exact Qnk (RQ.here hr1 (by simpa using q1))
theorem t_or {QbX:List Expr} (ha:PT X a (tIT X.K EX (evT cf a'))) (hb:PW X (.BoolOp .Or (b::QbX) pos) (tIT X.K EX (evT cf b'))):PW X (.BoolOp .Or (a::b::QbX) pos) (tIT X.K EX (evT cf (.or_ a' b'))) :=
 (pw_or ha hb).sub fun τ H Q zq=>by
  obtain⟨ρ,σ,h,re,hr,q⟩:=zq
  rw[Ql6]at q
  refine⟨ρ,σ,h,re,hr,q.bnd.mono fun k h1 ρ1 H1 x1 hr1 q1=>?_⟩
  cases k with
  |true=>exact Qn3 (RQ.here hr1 (by simpa using q1))
  |false=>exact Qnk ⟨ρ1,σ,h1,re.ext x1,hr1,by simpa using q1⟩
theorem r_ite (hc:PT X c (tIT X.K EX (evT cf c'))) (ha:PE X a (tI X.K EX (evE cf a'))) (hb:PE X b (tI X.K EX (evE cf b'))):PE X (.IfExp c a b pos) (tI X.K EX (evE cf (.ite c' a' b'))) :=
 (Qka hc ha hb).sub fun τ H Q zq=>by
  obtain⟨ρ,σ,h,re,hr,q⟩:=zq
  rw[evE]at q
  refine⟨ρ,σ,h,re,hr,q.bnd.mono fun k h1 ρ1 H1 x1 hr1 q1=>?_⟩
  cases k with
  |true=>exact Qn3 ⟨ρ1,σ,h1,re.ext x1,hr1,by simpa using q1⟩
  |false=>exact Qnk ⟨ρ1,σ,h1,re.ext x1,hr1,by simpa using q1⟩
theorem QkV:PA X [] (tIA X.K EX (evA cf [])):=pa_nil.sub fun τ H Q zq=>by
 obtain⟨ρ,σ,h,re,hr,q⟩:=zq
 rw[evA]at q
 exact RQ.here hr q _ .nil
noncomputable def Qa1 (e:Expr):Bool:=match e with
 |.Starred ..=>false
 |_=>true
theorem Qat {e:Expr} (h:Qa1 e=true) (es:List Expr) (env:Env):starEach (e::es) env=(false,eval e env)::starEach es env:=by
 cases e<;>first | rfl | cases h
theorem QdM {es:List Expr}{es':List E} (ha:PE X a (tI X.K EX (evE cf a'))) (hr:PA X es (tIA X.K EX (evA cf es'))) (hs:Qa1 a=true):PA X (a::es) (tIA X.K EX (evA cf (a'::es'))) :=
 (Qbo ha hr (Qat hs es _)).sub fun τ H Q zq=>by
  obtain⟨ρ,σ,h,re,hr,q⟩:=zq
  rw[evA]at q
  refine⟨ρ,σ,h,re,hr,q.bnd.mono fun w h1 ρ1 H1 x1 hr1 q1 v r=>?_⟩
  exact⟨ρ1,σ,h1,re.ext x1,hr1,q1.bnd.mono fun ws h2 ρ2 H2 x2 hr2 q2 vs rs=>RQ.here hr2 q2 _ (.cons (Rel.ext x2 _ _ r) rs)⟩
theorem r_tup {es:List Expr}{es':List E}{k:Nat} (h:PA X es (tIA X.K EX (evA cf es'))):PE X (.Tuple es k pos) (tI X.K EX (evE cf (.tup es'))):=(pe_tup h).sub fun τ H Q zq=>by
 obtain⟨ρ,σ,h,re,hr,q⟩:=zq
 rw[evE]at q
 refine⟨ρ,σ,h,re,hr,q.bnd.mono fun ws h1 ρ1 H1 x1 hr1 q1 vs rs=>?_⟩
 split at q1
 ·rename_i hl
  exact⟨by rw[← rs.length];exact hl,RQ.tup hr1 rs q1⟩
 ·exact q1.elim
theorem r_lst {es:List Expr}{es':List E} (h:PA X es (tIA X.K EX (evA cf es'))):PE X (.List es pos) (tI X.K EX (evE cf (.lst es'))):=(Qlr h).sub fun τ H Q zq=>by
 obtain⟨ρ,σ,h,re,hr,q⟩:=zq
 rw[evE]at q
 refine⟨ρ,σ,h,re,hr,q.bnd.mono fun ws h1 ρ1 H1 x1 hr1 q1 vs rs=>?_⟩
 split at q1
 ·rename_i hl
  exact⟨by rw[← rs.length];exact hl,RQ.lst hr1 rs q1⟩
 ·exact q1.elim
noncomputable def QcC (e:Expr):Bool:=match e with
 |.Slice ..=>false
 |_=>true
theorem ix_of {e:Expr} (h:QcC e=true):QiK e:=fun o i=>by
 cases e<;>first | rfl | cases h
theorem QmZ {K:PySem.W.Frag}{ρ:List Addr}{H:Hp}{ws:List W}{xs:List V}{i:Int}{w:W} (r:RelL K ρ H ws xs) (e:atI ws i=some w):∃ v,atI xs i=some v∧Rel K ρ H w v:=by
 unfold atI at e ⊢
 rw[← r.length]
 cases e1:ixN ws.length i with
 |none=>rw[e1]at e;cases e
 |some j =>
  rw[e1]at e
  exact r.get e
theorem ixW_ok (hu:X.A.units+64<cLine):IxR X (rW X.K EX ixW):=by
 intro value slice pins s σ H x y v u Q I rx ry ⟨ρ,h,w1,w2,hr,r1,r2,q⟩ hs
 unfold ixW at q
 split at q
 ·rename_i i
  cases Qap r2
  split at q
  ·rename_i z
   cases Qaw r1
   unfold ixS at q
   split at q
   ·rename_i hz
    split at q
    ·rename_i c ec
     exact ix_str value slice pins s σ H _ _ v u Q I rx ry ⟨z,i,c,rfl,rfl,Nat.le_trans hz (by decide),ec,RQ.here hr q _ QcM⟩ hs
    ·exact q.elim
   ·exact q.elim
  split at q
  ·rename_i ws e
   split at q
   ·rename_i w e2
    obtain⟨a,xs,rfl,hq,rs⟩:=QbC hr e r1
    obtain⟨z,ez,rz⟩:=QmZ rs e2
    rcases hq with hq | hq
    ·exact QmE value slice pins s σ H _ _ v u Q I rx ry ⟨a,xs,i,z,rfl,rfl,hq,ez,RQ.here hr q _ rz⟩ hs
    ·exact ix_tup value slice pins s σ H _ _ v u Q I rx ry ⟨a,xs,i,z,rfl,rfl,hq,ez,RQ.here hr q _ rz⟩ hs
   ·exact q.elim
  ·exact q.elim
 ·rename_i k
  cases Qaw r2
  split at q
  ·rename_i ks ws e
   split at q
   ·rename_i w e2
    obtain⟨a,xs,rfl,hd,hl,rs⟩:=QbK hr e r1
    obtain⟨z,ez,rz⟩:=(Qel (x:=k) hl rs).1 w e2
    have hdg:DGet H a (.str k) (some z):=by rw[← ez];exact(.inl ⟨_,Sum.inr k,hd,rfl,rfl⟩)
    cases rx
    exact tail_any (Qgl I hdg) PySem.F.slot_dict_getitem.lookup (QiS (Nat.lt_trans (by omega) hu) I hdg ry fun w' s' I' rw'=>⟨z,H,I',rw',RQ.here hr q _ rz⟩) hs
   ·exact q.elim
  ·exact q.elim
 ·exact q.elim
theorem r_ix (hu:X.A.units+64<cLine) (ha:PE X a (tI X.K EX (evE cf a'))) (hb:PE X b (tI X.K EX (evE cf b'))) (hp:QcC b=true):PE X (.Subscript a b pos) (tI X.K EX (evE cf (.ix a' b'))) :=
 (pe_ix (ixW_ok hu) ha hb (ix_of hp)).sub fun τ H Q q=>two (by
  obtain⟨ρ,σ,h,re,hr,q⟩:=q
  rw[evE]at q
  exact⟨ρ,σ,h,re,hr,q⟩)
theorem r_neg (ha:PE X a (tI X.K EX (evE cf a'))):PE X (.UnaryOp .USub a pos) (tI X.K EX (evE cf (.neg a'))):=(pe_un un_neg ha).sub fun τ H Q zq=>by
 obtain⟨ρ,σ,h,re,hr,q⟩:=zq
 rw[evE]at q
 refine⟨ρ,σ,h,re,hr,q.bnd.mono fun w h1 ρ1 H1 x1 hr1 q1 v r=>?_⟩
 split at q1
 ·rename_i i;exact⟨i,Qap r,RQ.here hr1 q1 _ Qbc⟩
 ·exact q1.elim
end
section
variable {X:Cx}{EX:EXT}{cf:CF}{fw:Nat}{pos:Pos}{a b c e:Expr}{a' b' c' e':E}
noncomputable def rB (K:PySem.W.Frag) (EX:EXT) (f:List W→Qac→Res W):List V→Hp→VK→Prop:=fun xs H Q =>
 ∃ ρ h ws,HRel K ρ h H∧RelL K ρ H ws xs∧RQ K EX ρ H (f ws h) fun w _ ρ' H'=>∀ v,Rel K ρ' H' w v→Q v H'
theorem Qn6 {K:PySem.W.Frag}{ρ:List Addr}{H:Hp}{w:W}{xs:List V} (r:RelL K ρ H [w] xs):∃ x,xs=[x]∧Rel K ρ H w x:=by
 rw[RelL]at r
 obtain⟨y,ys,rfl,r1,r2⟩:=r
 rw[RelL]at r2
 subst r2
 exact⟨y,rfl,r1⟩
theorem Qmt {K:PySem.W.Frag}{ρ:List Addr}{H:Hp}{w w2:W}{xs:List V} (r:RelL K ρ H [w,w2] xs):∃ x y,xs=[x,y]∧Rel K ρ H w x∧Rel K ρ H w2 y:=by
 rw[RelL]at r
 obtain⟨y,ys,rfl,r1,r2⟩:=r
 obtain⟨z,rfl,r3⟩:=Qn6 r2
 exact⟨y,z,rfl,r1,r3⟩
theorem QcE {fv:Value}{f:W→Qac→Res W} (k:∀ (pins:List (Addr×Obj)) (s:Shared) (σ:L2.St) (H:Hp) (x:V) (u:Value) (Q:VK) (ρ:List Addr) (h:Qac) (w:W),Inv X pins σ H s→RelV x u→HRel X.K ρ h H→Rel X.K ρ H w x →
  RQ X.K EX ρ H (f w h) (fun w _ ρ' H'=>∀ v,Rel X.K ρ' H' w v→Q v H')→wpAny (model X.prog X.w) X.A (call fv [u]) (EP X pins σ Q) X.xe s):Qby X fv (rB X.K EX (on1 f)):=by
 intro pins s σ H xs us Q I r ⟨ρ,h,ws,hr,rl,q⟩
 match ws,rl,q with
 |[w],rl,q =>
  obtain⟨x,rfl,rx⟩:=Qn6 rl
  obtain⟨u,rfl,ru⟩:=r.one
  exact k pins s σ H x u Q ρ h w I ru hr rx q
 |[],rl,q=>exact q.elim
 |_::_::_,rl,q=>exact q.elim
theorem len_ok:Qby X (.builtin "len") (rB X.K EX (Qgv .len)):=QcE fun pins s σ H x u Q ρ h w I ru hr rx q=>by
 unfold lenW at q
 cases e:seqA h w with
 |some us' =>
  rw[e]at q
  obtain⟨p,ys,rfl,hq,rs⟩:=QbC hr e rx
  exact QeP pins s σ H _ _ Q I (.cons ru .nil) ⟨p,ys,rfl,hq,RQ.here hr q _ (by rw[rs.length];exact Qbc)⟩
 |none =>
  rw[e]at q
  cases e2:Qbt h w with
  |some kw =>
   obtain⟨ks,us'⟩:=kw
   rw[e2]at q
   obtain⟨p,ys,rfl,hd,hl,rs⟩:=QbK hr e2 rx
   cases ru
   exact d_len I hd fun t s' I'=>⟨.int _,H,I',⟨t,rfl⟩,RQ.here hr q _ (by rw[List.length_zip,List.length_map,← hl,Nat.min_self];exact Qbc)⟩
  |none =>
   rw[e2]at q
   cases w with
   |str z =>
    cases Qaw rx
    dsimp only at q
    split at q
    ·rename_i hz
     exact Qfa pins s σ H _ _ Q I (.cons ru .nil) ⟨z,rfl,Nat.le_trans hz (by rw[sizeLine_eq];decide),RQ.here hr q _ Qbc⟩
    ·exact q.elim
   |_=>exact q.elim
theorem Qm4:Qby X (.type "list") (rB X.K EX (Qgv .list)):=QcE fun pins s σ H x u Q ρ h w I ru hr rx q=>by
 unfold Qkm at q
 cases e:seqA h w with
 |some us' =>
  rw[e]at q
  obtain⟨p,ys,rfl,hq,rs⟩:=QbC hr e rx
  exact QcH pins s σ H _ _ Q I (.cons ru .nil) ⟨p,ys,rfl,hq,RQ.lst hr rs q⟩
 |none=>rw[e]at q;exact q.elim
theorem QkS:Qby X (.type "tuple") (rB X.K EX (Qgv .tuple)):=QcE fun pins s σ H x u Q ρ h w I ru hr rx q=>by
 unfold QgE at q
 cases e1:Qlj w with
 |some us2 =>
  cases w with
  |tup ws' =>
   have rx':=rx
   rw[Rel]at rx'
   obtain⟨p,ys,rfl,hq,rs⟩:=rx'
   exact Qcs pins s σ H _ _ Q I (.cons ru .nil) ⟨p,ys,rfl,.inr ⟨hq.sq,RQ.here hr q _ rx⟩⟩
  |_=>cases e1
 |none =>
  cases e:seqA h w with
  |some us' =>
   rw[e]at q
   unfold seqA at e
   rw[e1]at e
   obtain⟨p,ys,rfl,hq,rs⟩:=Qcl hr e rx
   exact Qcs pins s σ H _ _ Q I (.cons ru .nil) ⟨p,ys,rfl,.inl ⟨hq,RQ.tup hr rs q⟩⟩
  |none=>rw[e]at q;exact q.elim
theorem Qli {f:Int→Int→Int}{ρ:List Addr}{h:Qac}{H:Hp}{K:PySem.W.Frag}{ws:List W}{xs:List V}{Q:VK} (hr:HRel K ρ h H) (rl:RelL K ρ H ws xs) (q:RQ K EX ρ H (on2 f ws h) fun w _ ρ' H'=>∀ v,Rel K ρ' H' w v→Q v H'):∃ i j,xs=[.int i,.int j]∧Q (.int (f i j)) H:=by
 match ws,rl,q with
 |[x,y],rl,q =>
  obtain⟨a,b,rfl,rx,ry⟩:=Qmt rl
  cases x with
  |int i =>
   cases y with
   |int j =>
    cases Qap rx;cases Qap ry
    exact⟨i,j,rfl,RQ.here hr q _ Qbc⟩
   |_=>exact q.elim
  |_=>exact q.elim
 |[],rl,q=>exact q.elim
 |[_],rl,q=>exact q.elim
 |_::_::_::_,rl,q=>exact q.elim
theorem max_ok (hc:X.calm=true):Qby X (.builtin "max") (rB X.K EX (Qgv .max)):=fun pins s σ H xs us Q I r ⟨ρ,h,ws,hr,rl,q⟩=>Qih hc pins s σ H _ us Q I r (Qli hr rl q)
theorem min_ok (hc:X.calm=true):Qby X (.builtin "min") (rB X.K EX (Qgv .min)):=fun pins s σ H xs us Q I r ⟨ρ,h,ws,hr,rl,q⟩=>Qik hc pins s σ H _ us Q I r (Qli hr rl q)
theorem int_ok:Qby X (.type "int") (rB X.K EX (Qgv .int)):=QcE fun pins s σ H x u Q ρ h w I ru hr rx q=>by
 cases w with
 |int i=>cases Qap rx;exact Qfe pins s σ H _ _ Q I (.cons ru .nil) (.inl ⟨i,rfl,RQ.here hr q _ Qbc⟩)
 |bl i=>cases Qbr rx;exact Qfe pins s σ H _ _ Q I (.cons ru .nil) (.inr ⟨i,rfl,RQ.here hr q _ Qbc⟩)
 |_=>exact q.elim
theorem Qnr:Qby X (.type "dict") (rB X.K EX (Qgv .dict)):=QcE fun pins s σ H x u Q ρ h w I ru hr rx q=>by
 unfold Qkz at q
 cases e:Qbt h w with
 |some kw =>
  obtain⟨ks,us'⟩:=kw
  rw[e]at q
  obtain⟨p,ys,rfl,hd,hl,rs⟩:=QbK hr e rx
  cases ru
  refine QkH I hd fun p' s' n I'=>⟨.ref p',_,I',rfl,?_⟩
  refine q ρ _ (ext_new hr n) (hr.ext_new n) _ ?_
  rw[Rel]
  exact⟨p',ys,rfl,hr.new n,.inl QaK,hl,RelL.ext (ext_new hr n) _ _ rs⟩
 |none=>rw[e]at q;exact q.elim
section
variable {α:Type}{lt:α→α→Bool}
theorem Qdb (x:α):∀ l:List α,(Qmn lt x l).Perm (x::l)
 |[]=>.refl _
 |y::ys=>by
  unfold Qmn
  split
  ·exact((Qdb x ys).cons y).trans (.swap x y ys)
  ·exact .refl _
theorem Qa9:∀ l:List α,(QhO lt l).Perm l
 |[]=>.refl _
 |x::xs=>(Qdb x _).trans ((Qa9 xs).cons x)
noncomputable def QeS (lt:α→α→Bool) (l:List α):Prop:=l.Pairwise fun a b=>lt b a=false
theorem QfB (tr:∀ a b c,lt a b=false→lt b c=false→lt a c=false) (as:∀ a b,lt a b=true→lt b a=false) (x:α):∀ l:List α,QeS lt l→QeS lt (Qmn lt x l)
 |[],_=>by simp[Qmn,QeS]
 |y::ys,h=>by
  unfold QeS at h
  rw[List.pairwise_cons]at h
  unfold Qmn
  split
  ·rename_i hl
   unfold QeS
   rw[List.pairwise_cons]
   refine⟨fun z hz=>?_,QfB tr as x ys h.2⟩
   rcases List.mem_cons.mp ((Qdb x ys).mem_iff.mp hz) with e | hz
   ·subst e;exact as _ _ hl
   ·exact h.1 z hz
  ·rename_i hl
   unfold QeS
   rw[List.pairwise_cons,List.pairwise_cons]
   have hyx:lt y x=false:=by simpa using hl
   refine⟨fun z hz=>?_,h⟩
   rcases List.mem_cons.mp hz with e | hz
   ·subst e;exact hyx
   ·exact tr z y x (h.1 z hz) hyx
theorem Qf2 (tr:∀ a b c,lt a b=false→lt b c=false→lt a c=false) (as:∀ a b,lt a b=true→lt b a=false):∀ l:List α,QeS lt (QhO lt l)
 |[]=>by simp[QhO,QeS]
 |x::xs=>QfB tr as x _ (Qf2 tr as xs)
theorem QeW (an:∀ a b,lt a b=false→lt b a=false→a=b):∀ {l k:List α},QeS lt l→QeS lt k→l.Perm k→l=k
 |[],k,_,_,p=>p.nil_eq
 |x::l,[],_,_,p=>by cases List.perm_nil.mp p
 |x::l,y::k,hl,hk,p=>by
  unfold QeS at hl hk
  rw[List.pairwise_cons]at hl hk
  have e:x=y:=by
   have h1:x∈y::k:=p.mem_iff.mp List.mem_cons_self
   have h2:y∈x::l:=p.mem_iff.mpr List.mem_cons_self
   rcases List.mem_cons.mp h1 with e | h1
   ·exact e
   ·rcases List.mem_cons.mp h2 with e | h2
    ·exact e.symm
    ·exact an x y (hk.1 x h1) (hl.1 y h2)
  subst e
  rw[QeW an hl.2 hk.2 (List.perm_cons x |>.mp p)]
end
theorem ltS_as (a b:Str) (h:ltS a b=true):ltS b a=false:=by
 unfold ltS at *
 exact decide_eq_false fun z=>absurd (List.lt_trans (of_decide_eq_true h) z) (List.lt_irrefl _)
theorem Qlm (a b c:Str) (h:ltS a b=false) (k:ltS b c=false):ltS a c=false:=by
 unfold ltS at *
 have h1:=of_decide_eq_false h
 have k1:=of_decide_eq_false k
 exact decide_eq_false (List.not_lt.mpr (List.le_trans (List.not_lt.mp k1) (List.not_lt.mp h1)))
theorem ltS_an (a b:Str) (h:ltS a b=false) (k:ltS b a=false):a=b:=by
 unfold ltS at *
 have h1:=of_decide_eq_false h
 have k1:=of_decide_eq_false k
 have e:=List.le_antisymm (List.not_lt.mp k1) (List.not_lt.mp h1)
 cases a;cases b
 congr
 exact Array.toList_inj.mp e
theorem rise_S:∀ {l:List Str},sortedS l=true→QeS ltS l:=by
 have tr:∀ (p:Str) (l:List Str),risingS p l=true→(∀ x∈l,ltS x p=false)∧QeS ltS l:=by
  intro p l
  induction l generalizing p with
  |nil=>exact fun _=>⟨by simp,by simp[QeS]⟩
  |cons x r ih =>
   intro h
   have h':(!ltCps x.cps.toList p.cps.toList&&risingS x r)=true:=h
   rw[Bool.and_eq_true,ltCps_eq]at h'
   have hx:ltS x p=false:=by unfold ltS;simpa using h'.1
   obtain⟨i1,i2⟩:=ih x h'.2
   refine⟨fun z hz=>?_,?_⟩
   ·rcases List.mem_cons.mp hz with e | hz
    ·subst e;exact hx
    ·exact Qlm _ _ _ (i1 z hz) hx
   ·unfold QeS;rw[List.pairwise_cons];exact⟨i1,i2⟩
 intro l h
 cases l with
 |nil=>simp[QeS]
 |cons x r =>
  obtain⟨i1,i2⟩:=tr x r h
  unfold QeS;rw[List.pairwise_cons];exact⟨i1,i2⟩
theorem QgT {K:PySem.W.Frag}{ρ:List Addr}{H:Hp}:∀ {ws:List W}{ss:List Str}{xs:List V},Qb2 ws=some ss→RelL K ρ H ws xs→xs=ss.map V.str
 |[],ss,xs,e,r=>by rw[RelL]at r;cases e;exact r
 |w::ws,ss,xs,e,r=>by
  rw[RelL]at r
  obtain⟨y,ys,rfl,r1,r2⟩:=r
  cases w with
  |str s =>
   have e':(Qb2 ws).map (s::·)=some ss:=e
   cases e1:Qb2 ws with
   |none=>rw[e1]at e';cases e'
   |some ts =>
    rw[e1]at e'
    cases e'
    rw[Qaw r1,QgT e1 r2];rfl
  |_=>cases e
theorem Qdo:∀ {ss:List Str}{us:List Value},Vals (ss.map V.str) us→StrsAre us ss
 |[],us,h=>by cases h;exact .nil
 |s::ss,us,h=>by
  cases h with
  |cons r rs=>obtain⟨t,rfl⟩:=r;exact .cons s t (Qdo rs)
theorem QeK:∀ {ss:List Str}{us:List Value},StrsAre us ss→Vals (ss.map V.str) us
 |[],us,h=>by cases h;exact .nil
 |s::ss,us,h=>by
  cases h with
  |cons _ t rs=>exact .cons ⟨t,rfl⟩ (QeK rs)
theorem Qht {K:PySem.W.Frag}{ρ:List Addr}{H:Hp}:∀ ss:List Str,RelL K ρ H (ss.map W.str) (ss.map V.str)
 |[]=>.nil
 |s::ss=>.cons QcM (Qht ss)
theorem Qf5 {K:PySem.W.Frag}{ρ:List Addr}{H:Hp}:∀ {ws:List W}{bs:List Bool}{xs:List V},QbH ws=some bs→RelL K ρ H ws xs→xs=bs.map V.bl
 |[],bs,xs,e,r=>by rw[RelL]at r;cases e;exact r
 |w::ws,bs,xs,e,r=>by
  rw[RelL]at r
  obtain⟨y,ys,rfl,r1,r2⟩:=r
  cases w with
  |bl s =>
   obtain⟨ts,e1,rfl⟩:=Option.map_eq_some_iff.mp (show (QbH ws).map (s::·)=some bs from e)
   rw[Qbr r1,Qf5 e1 r2];rfl
  |_=>cases e
theorem Qny {pins:List (Addr×Obj)}{σ:L2.St}{H:Hp}{s:Shared}{ρ:List Addr}{h:Qac}{w:W}{x:V}{ss:List Str} (I:Inv X pins σ H s) (hr:HRel X.K ρ h H) (rx:Rel X.K ρ H w x) (e:(seqA h w).bind Qb2=some ss) :
  ∃ p T o n its,x=.ref p∧(T="list"∨T="tuple")∧s.heap.get? p=some o∧o.cls=.type T∧o.data=.seq its.toArray n∧StrsAre its ss∧its.length=ss.length:=by
 obtain⟨us',e1,e2⟩:=obs e
 obtain⟨p,ys,rfl,hq,rs⟩:=QbC hr e1 rx
 have ey:=QgT e2 rs
 subst ey
 rcases hq with hq | hq
 ·obtain⟨its,rv,⟨o,n,ho,hc,_,hd⟩,hz⟩:=I.list hq
  exact⟨p,"list",o,n,its,rfl,.inl rfl,ho,hc,hd,Qdo rv,by rw[← rv.length,List.length_map]⟩
 ·obtain⟨its,rv,⟨o,ho,hc,n,hd⟩,hz⟩:=I.tuple hq
  exact⟨p,"tuple",o,n,its,rfl,.inr rfl,ho,hc,hd,Qdo rv,by rw[← rv.length,List.length_map]⟩
theorem Qja:Qby X (.builtin "sorted") (rB X.K EX (Qgv .sorted)):=QcE fun pins s σ H x u Q ρ h w I ru hr rx q=>by
 unfold QjR at q
 split at q
 ·rename_i ss e
  split at q
  ·rename_i h64
   obtain⟨p,T,o,n,its,rfl,hT,ho,hc,hd,hS,hl⟩:=Qny I hr rx e
   cases ru
   refine QjW ho hc hT hd hS (by omega) fun out ss' a1 a2 a3=>?_
   obtain⟨ep,he⟩:=sortedAll_at s.heap its out
   have e':ss'=QhO ltS ss:=QeW ltS_an (rise_S a3) (Qf2 Qlm ltS_as ss) (a2.trans (Qa9 ss).symm)
   subst e'
   refine⟨.ref (s.heap.objs.size+1),_,I.laid (t':=s.toks) (o:=.lst ((QhO ltS ss).map V.str)) (fun _ _ e=>sortedAll_old e) (Nat.le_succ _) ⟨?_,out.toList,ep,QeK a1,he⟩,rfl,RQ.lst hr (Qht _) q _ (I.hok.fresh (Nat.le_succ _))⟩
   rw[List.length_map,(Qa9 ss).length_eq,sizeLine_eq];omega
  ·exact q.elim
 ·exact q.elim
theorem Qj3:∀ {bs:List Bool}{us:List Value},Vals (bs.map V.bl) us→∀ {i:Nat}{v:Value},us[i]?=some v→v=.bool (bs.getD i false)
 |[],us,h,i,v,e=>by cases h;simp at e
 |b::bs,us,h,i,v,e=>by
  cases h with
  |cons r rs =>
   cases i with
   |zero=>cases r;simpa using e.symm
   |succ i=>exact Qj3 rs (i:=i) (by simpa using e)
theorem QfH (bs:List Bool):(List.range bs.length).all (fun i=>bs.getD i false)=bs.all id∧(List.range bs.length).any (fun i=>bs.getD i false)=bs.any id:=by
 have e:(List.range bs.length).map (fun i=>bs.getD i false)=bs:=by
  refine List.ext_getElem (by simp) fun i h1 h2=>?_
  simp[List.getD_eq_getElem?_getD,h2]
 have a1:=List.all_map (l:=List.range bs.length) (f:=fun i=>bs.getD i false) (p:=id)
 have a2:=List.any_map (l:=List.range bs.length) (f:=fun i=>bs.getD i false) (p:=id)
 rw[e]at a1 a2
 exact⟨a1.symm,a2.symm⟩
theorem QdV {pins : List (Addr×Obj)}{σ : L2.St}{H : Hp}{s : Shared}{ρ : List Addr}{h : Qac}{w : W}{x : V}{u : Value}{bs : List Bool}{A : Around}{E : Value → Shared → Prop} (hh : A.handled = none) (I : Inv X pins σ H s) (hr : HRel X.K ρ h H) (rx : Rel X.K ρ H w x) (ru : RelV x u) (e : (Qc5 h w).bind QbH = some bs) : wpAny (model X.prog X.w) A (pyIter u) (fun it s2 => ∃ I0 fp wr n P St tr, it = .ref I0 ∧ Walks X.prog X.w A I0 fp wr n P St ∧ St 0 s2.heap ∧ TruthOf X.prog X.w A P tr ∧ n = bs.length ∧ (∀ i, tr i = bs.getD i false) ∧
   ∀ h' tk,(∀ b o,b∉wr→s2.heap.get? b=some o→h'.get? b=some o)→Inv X pins σ H { s2 with heap:=h',toks:=tk }) E s:=by
 obtain⟨us',e1,e2⟩:=obs e
 obtain⟨p,ys,rfl,hq,rs⟩:=Qbk hr e1 rx
 have ey:=Qf5 e2 rs
 subst ey
 cases ru
 obtain⟨its,rv,⟨o,n,ho,hc,_,hd⟩,hz⟩:=I.list (.inl (.inl hq))
 have hL:s.heap.IsList p its.toArray:=⟨o,ho,hc,n,hd⟩
 have hlt:p<s.heap.objs.size:=Heap.lt_size ho
 refine wpAny_pyIter_list hL ⟨_,_,_,_,_,_,fun i=>bs.getD i false,rfl,Walks.list hh _ p (Nat.ne_of_lt hlt) its.toArray,⟨⟨_,Heap.get?_push_size _ rfl,rfl,rfl⟩,hL.push _⟩,?_,?_,fun _=>rfl,fun h' tk hk=>?_⟩
 ·intro i v s Q E hP hQ
  have:v=.bool (bs.getD i false):=Qj3 rv (by simpa using hP)
  subst this
  exact wpAny_truthy_bool hQ
 ·rw[← List.length_map (f:=V.bl),rv.length];simp
 ·refine I.kept fun b ob eb=>hk b ob ?_ (Heap.get?_push_of_some _ eb)
  simp only[List.mem_singleton]
  exact Nat.ne_of_lt (Heap.lt_size eb)
theorem all_ok (hc:X.calm=true):Qby X (.builtin "all") (rB X.K EX (Qgv .all)):=QcE fun pins s σ H x u Q ρ h w I ru hr rx q=>by
 unfold allW at q
 split at q
 ·rename_i bs e
  refine call_all_walk (wpAny_mono (QdV (by simpa using I.ok.hd hc) I hr rx ru e) (fun it s2 ⟨I0,fp,wr,n,P,S0,tr,e1,W,st,t,e2,e3,k⟩=>⟨I0,fp,wr,n,P,S0,tr,e1,W,st,t,fun h' tk hk=>?_⟩) fun _ _ z=>z)
  have e4:tr=fun i=>bs.getD i false:=funext e3
  rw[e2,e4,(QfH bs).1]
  exact⟨.bl _,H,k h' tk hk,rfl,RQ.here hr q _ Qbh⟩
 ·exact q.elim
theorem any_ok (hc:X.calm=true):Qby X (.builtin "any") (rB X.K EX (Qgv .any)):=QcE fun pins s σ H x u Q ρ h w I ru hr rx q=>by
 unfold allW at q
 split at q
 ·rename_i bs e
  refine call_any_walk (wpAny_mono (QdV (by simpa using I.ok.hd hc) I hr rx ru e) (fun it s2 ⟨I0,fp,wr,n,P,S0,tr,e1,W,st,t,e2,e3,k⟩=>⟨I0,fp,wr,n,P,S0,tr,e1,W,st,t,fun h' tk hk=>?_⟩) fun _ _ z=>z)
  have e4:tr=fun i=>bs.getD i false:=funext e3
  rw[e2,e4,(QfH bs).2]
  exact⟨.bl _,H,k h' tk hk,rfl,RQ.here hr q _ Qbh⟩
 ·exact q.elim
noncomputable def Qc7:Bl→Str
 |.len=>"len" | .list=>"list" | .tuple=>"tuple" | .max=>"max" | .min=>"min" | .int=>"int" | .sorted=>"sorted" | .dict=>"dict" | .all=>"all" | .any=>"any"
theorem Qe2:∀ {es:List Expr} (h:es.all Qa1=true) (pos:Pos) (env:Env),(backTo pos (starEach es env)).any (·.1)=false
 |[],_,_,_=>rfl
 |e::es,h,pos,env=>by
  rw[List.all_cons,Bool.and_eq_true]at h
  rw[Qat h.1]
  have:=Qe2 h.2 pos env
  simpa [backTo] using this
theorem r_blt {bb:Bl}{p:Pos}{es:List Expr}{es':List E} (hc:X.calm=true) (hg:Gl X (Qc7 bb)) (hm:X.mg (Qc7 bb)=none) (ha:PA X (e::es) (tIA X.K EX (evA cf es'))) (hs:(e::es).all Qa1=true) :
  PE X (.Call (.Name (Qc7 bb) p) (e::es) [] pos) (tI X.K EX (evE cf (.blt bb es'))):=by
 have hs':=hs
 rw[List.all_cons,Bool.and_eq_true]at hs'
 have h1:=Qat hs'.1 es X.env
 have h2:=Qe2 hs'.2 pos X.env
 have key:∀ τ H Q,tI X.K EX (evE cf (.blt bb es')) τ H Q→tCB (rB X.K EX (Qgv bb)) (tIA X.K EX (evA cf es')) τ H Q:=fun τ H Q zq=>by
  obtain⟨ρ,σ,h,re,hr,q⟩:=zq
  rw[evE]at q
  exact⟨ρ,σ,h,re,hr,q.bnd.mono fun ws h1 ρ1 H1 x1 hr1 q1 vs rs=>⟨ρ1,h1,ws,hr1,rs,q1⟩⟩
 cases bb with
 |len=>exact(Qb8 len_ok hg hm PySem.boot_len ha (by decide +kernel) (by decide +kernel) h1 h2).sub key
 |list=>exact(QbN Qm4 hg hm PyProof.Rows.boot_list ha (by decide +kernel) (by decide +kernel) h1 h2).sub key
 |tuple=>exact(QbN QkS hg hm PyProof.Rows.boot_tuple ha (by decide +kernel) (by decide +kernel) h1 h2).sub key
 |max=>exact(Qb8 (max_ok hc) hg hm PyProof.Rows.boot_max ha (by decide +kernel) (by decide +kernel) h1 h2).sub key
 |min=>exact(Qb8 (min_ok hc) hg hm PyProof.Rows.boot_min ha (by decide +kernel) (by decide +kernel) h1 h2).sub key
 |int=>exact(QbN int_ok hg hm PyProof.Rows.boot_int ha (by decide +kernel) (by decide +kernel) h1 h2).sub key
 |dict=>exact(QbN Qnr hg hm (by decide +kernel) ha (by decide +kernel) (by decide +kernel) h1 h2).sub key
 |sorted=>exact(Qb8 Qja hg hm PyProof.Rows.boot_sorted ha (by decide +kernel) (by decide +kernel) h1 h2).sub key
 |all=>exact(Qb8 (all_ok hc) hg hm PyProof.Rows.boot_all ha (by decide +kernel) (by decide +kernel) h1 h2).sub key
 |any=>exact(Qb8 (any_ok hc) hg hm PyProof.Rows.boot_any ha (by decide +kernel) (by decide +kernel) h1 h2).sub key
noncomputable def Qau:Ty→String
 |.int=>"int" | .bool=>"bool" | .str=>"str" | .tuple=>"tuple" | .list=>"list"
noncomputable def kindV (K:PySem.W.Frag) (H:Hp) (x:V) (t:Ty) (k:Bool):Prop:=match x with
 |.int _=>k=decide (t=.int)
 |.bl _=>k=(decide (t=.int)||decide (t=.bool))
 |.str _=>k=decide (t=.str)
 |.ref a=>((∃ xs,SqL K H a xs)∧k=decide (t=.list))∨((∃ xs,SqT K H a xs)∧k=decide (t=.tuple))
 |_=>False
theorem QkO {K:PySem.W.Frag}{ρ:List Addr}{h:Qac}{H:Hp}{w:W}{v:V}{t:Ty}{k:Bool} (hr:HRel K ρ h H) (e:QaY h w t=some k) (r:Rel K ρ H w v):kindV K H v t k:=by
 cases w with
 |int i=>cases Qap r;cases e;rfl
 |bl i=>cases Qbr r;cases e;rfl
 |str i=>cases Qaw r;cases e;rfl
 |tup ws =>
  cases e
  rw[Rel]at r
  obtain⟨a,xs,rfl,q,_⟩:=r
  exact .inr ⟨⟨xs,q.sq⟩,rfl⟩
 |lst ws =>
  cases e
  rw[Rel]at r
  obtain⟨a,xs,rfl,_,q,_⟩:=r
  exact .inl ⟨⟨xs,.inl (.inl q)⟩,rfl⟩
 |scr ws =>
  cases e
  rw[Rel]at r
  obtain⟨a,xs,rfl,q,_⟩:=r
  exact .inl ⟨⟨xs,q.sq⟩,rfl⟩
 |ref n =>
  have e':(match h[n]? with | some (.lst _)=>some (decide (t=.list)) | _=>none)=some k:=e
  split at e'<;>try (cases e';done)
  rename_i us e3
  cases e'
  obtain⟨a,xs,rfl,q,_⟩:=Qcl (w:=.ref n) (ws:=us) hr (by show (match h[n]? with | some (.lst ws)=>some ws | _=>none)=some us;rw[e3]) r
  exact .inl ⟨⟨xs,q⟩,rfl⟩
 |_=>cases e
theorem isi_ok:Qby X (.builtin "isinstance") (fun xs H Q=>∃ x t k,xs=[x,.ty (Qau t)]∧kindV X.K H x t k∧Q (.bl k) H):=by
 intro pins s σ H xs us Q I r ⟨x,t,k,e,hk,q⟩
 subst e
 obtain⟨u,w',rfl,rx,ry⟩:=QmJ r
 have ry':w'=Value.type (Qau t):=ry
 subst ry'
 have fin:∀ tk,EP X pins σ Q (.bool k) { s with toks:=tk }:=fun tk=>⟨.bl k,H,I.tok _,rfl,q⟩
 have fin0:EP X pins σ Q (.bool k) s:=⟨.bl k,H,I,rfl,q⟩
 cases x with
 |int i =>
  obtain⟨tk,rfl⟩:=rx
  have e:k=decide (t=.int):=hk
  subst e
  cases t with
  |int=>exact PySem.IsiPair.int_int fin0
  |bool=>exact PySem.IsiPair.int_bool (fin _)
  |str=>exact PySem.IsiPair.int_str (fin _)
  |tuple=>exact PySem.IsiPair.int_tuple (fin _)
  |list=>exact PySem.IsiPair.int_list (fin _)
 |bl i =>
  cases rx
  have e:k=(decide (t=.int)||decide (t=.bool)):=hk
  subst e
  cases t with
  |int=>exact PySem.IsiPair.bool_int fin0
  |bool=>exact PySem.IsiPair.bool_bool fin0
  |str=>exact PySem.IsiPair.bool_str (fin _)
  |tuple=>exact PySem.IsiPair.bool_tuple (fin _)
  |list=>exact PySem.IsiPair.bool_list (fin _)
 |str i =>
  obtain⟨tk,rfl⟩:=rx
  have e:k=decide (t=.str):=hk
  subst e
  cases t with
  |int=>exact PySem.IsiPair.str_int (fin _)
  |bool=>exact PySem.IsiPair.str_bool (fin _)
  |str=>exact PySem.IsiPair.str_str fin0
  |tuple=>exact PySem.IsiPair.str_tuple (fin _)
  |list=>exact PySem.IsiPair.str_list (fin _)
 |ref p =>
  cases rx
  have hk':((∃ xs,SqL X.K H p xs)∧k=decide (t=.list))∨((∃ xs,SqT X.K H p xs)∧k=decide (t=.tuple)):=hk
  rcases hk' with ⟨⟨xs,hq⟩,e⟩ | ⟨⟨xs,hq⟩,e⟩
  ·subst e
   obtain⟨its,_,⟨o,n,ho,hc,_⟩,_⟩:=I.list hq
   cases t with
   |int=>exact PySem.IsiPair.list_int ho hc (fin _)
   |bool=>exact PySem.IsiPair.list_bool ho hc (fin _)
   |str=>exact PySem.IsiPair.list_str ho hc (fin _)
   |tuple=>exact PySem.IsiPair.list_tuple ho hc (fin _)
   |list=>exact PySem.IsiPair.list_list ho hc fin0
  ·subst e
   obtain⟨its,_,⟨o,ho,hc,_⟩,_⟩:=I.tuple hq
   cases t with
   |int=>exact PySem.IsiPair.tuple_int ho hc (fin _)
   |bool=>exact PySem.IsiPair.tuple_bool ho hc (fin _)
   |str=>exact PySem.IsiPair.tuple_str ho hc (fin _)
   |tuple=>exact PySem.IsiPair.tuple_tuple ho hc fin0
   |list=>exact PySem.IsiPair.tuple_list ho hc (fin _)
 |_=>exact(show False from hk).elim
theorem QjE:∀ t:Ty,bootBuiltins (Str.ofString (Qau t))=some (.type (Qau t))
 |.int=>by decide +kernel
 |.bool=>by decide +kernel
 |.str=>by decide +kernel
 |.tuple=>by decide +kernel
 |.list=>by decide +kernel
theorem r_isi {t:Ty}{p p2:Pos} (hg:Gl X "isinstance") (hm:X.mg "isinstance"=none) (hg2:Gl X (Str.ofString (Qau t))) (hm2:X.mg (Str.ofString (Qau t))=none) (ha:PE X a (tI X.K EX (evE cf a'))) (hs:Qa1 a=true) :
  PE X (.Call (.Name "isinstance" p) [a,.Name (Str.ofString (Qau t)) p2] [] pos) (tI X.K EX (evE cf (.isi a' [t]))):=by
 have hty:PE X (.Name (Str.ofString (Qau t)) p2) (tC (.ty (Qau t))):=Qiq hg2 hm2 (QjE t) rfl (by cases t<;>decide +kernel) (by cases t<;>decide +kernel)
 refine(Qb8 isi_ok hg hm PyProof.Rows.boot_isinstance (Qbo ha (Qbo hty pa_nil (by rfl)) (Qat hs _ _)) (by decide +kernel) (by decide +kernel) (Qat hs _ _) (by rfl)).sub fun τ H Q zq=>?_
 obtain⟨ρ,σ,h,re,hr,q⟩:=zq
 rw[evE]at q
 refine⟨ρ,σ,h,re,hr,q.bnd.mono fun w h1 ρ1 H1 x1 hr1 q1 v r=>?_⟩
 show ∃ x t_1 k,[v,V.ty (Qau t)]=[x,V.ty (Qau t_1)]∧_
 cases e:QaY h1 w t with
 |none=>simp[e]at q1;exact q1.elim
 |some k =>
  have q2:RQ X.K EX ρ1 H1 (okB k h1) (fun w _ ρ' H'=>∀ v,Rel X.K ρ' H' w v→Q v H'):=by simpa [e] using q1
  exact⟨v,t,k,rfl,QkO hr1 e r,RQ.here hr1 q2 _ Qbh⟩
end
section
variable {X:Cx}{pins:List (Addr×Obj)}{σ:L2.St}{H:Hp}{s:Shared}{a:Addr}{kvs:List (Key×V)}{ob:Obj}
theorem freeze (I:Inv X pins σ H s) (e:H a=some (.dK kvs)) (ho:s.heap.get? a=some ob):Inv X pins σ (upd H a (.frz ob (.dK kvs))) s:=by
 have ne:∀ b u,H b=some u→(∀ l,u≠.dK l)→b≠a:=fun b u q d z=>by subst z;rw[e]at q;cases q;exact d _ rfl
 have u:Un X.fs [] H (upd H a (.frz ob (.dK kvs))) s.heap s.heap:=by
  refine⟨fun b o q _ _ _=>q,fun b o q _ _ _=>⟨o.slots,q⟩,fun b o q n _=>?_,fun b o q _=>⟨o,q⟩,fun b xs q=>?_,fun b o w q=>?_,fun b ps q=>⟨#[],?_⟩⟩
  ·rw[Qar (by rintro rfl;rw[e]at n;cases n)];exact n
  ·rw[Qar (ne b _ q (fun _ z=>by cases z))];exact q
  ·rw[Qar (ne b _ q (fun _ z=>by cases z))];exact q
  ·rw[Qar (ne b _ q (fun _ z=>by cases z)),q];simp
 have hok:HOk X.prog X.w (upd H a (.frz ob (.dK kvs))) s.heap:=fun b w q=>by
  by_cases hb:b=a
  ·subst hb
   rw[QaK]at q
   cases q
   exact⟨ho,I.hok b _ e⟩
  ·rw[Qar hb]at q
   refine(I.hok b w q).stay (fun c v hc z=>z) (fun c z=>?_) fun c xs z=>?_
   ·rw[Qar (ne c _ z (fun _ y=>by cases y))];exact z
   ·rw[Qar (ne c _ z (fun _ y=>by cases y))];exact z
 exact I.un (h':=s.heap) (t':=s.toks) u hok
end
theorem Qm1 {P:Program}{w:World}{k:Key}{u:Value} (h:(QaA P w).is k u=true):RelV (kV k) u:=by
 rcases Qa7 h with ⟨i,t,rfl,rfl⟩ | ⟨x,t,rfl,rfl⟩
 ·exact⟨t,rfl⟩
 ·exact⟨t,rfl⟩
noncomputable def Itd (a:Addr) (ob:Obj) (kvs:List (Key×V)):L2.It :=
 ⟨fun i H=>H a=some (.frz ob (.dK kvs))∧i<kvs.length,fun i H x H'=>H'=H∧∃ k v,kvs[i]?=some (k,v)∧x=kV k,fun i H=>H a=some (.frz ob (.dK kvs))∧kvs.length≤i⟩
theorem Qjj {X:Cx}{pins:List (Addr×Obj)}{σ:L2.St}{H:Hp}{s:Shared}{a:Addr}{kvs:List (Key×V)}{ob:Obj}{es:Array DictEntry}{ep:Nat} (I:Inv X pins σ H s) (e:H a=some (.frz ob (.dK kvs))) (hd:ob.data=.dict es ep) :
  ∃ vs,L2.KV kvs vs∧s.heap.DictAt (QaA X.prog X.w) a vs ep∧(a == sysModules)=false:=by
 obtain⟨hg,z,hs,vs,rel,o,es',ep',h1,h2,h3,r⟩:=I.hok a _ e
 rw[hg]at h1
 cases h1
 rw[hd]at h3
 cases h3
 exact⟨vs,rel,⟨ob,es,hg,h2,hd,r⟩,hs⟩
theorem Qjm {P:Program}{w:World}{K:PySem.W.Frag}{tg:Expr}{kvs:List (Key×V)}{ob:Obj}{es:Array DictEntry}{ep:Nat} (a it:Addr) (hd:ob.data=.dict es ep):Turn P w K tg (Itd a ob kvs) [it] it (fun i h=>h.IsKeyIter it a i kvs.length ep) where
 mem:=by simp
 obj:=fun i h st b hb=>by
  have e:b=it:=by simpa using hb
  subst e
  obtain⟨o,e,c,d⟩:=st
  exact⟨o,e,fun v z=>by rw[d]at z;cases z⟩
 keep:=fun i h h' st k=>st.at fun o e=>k it (by simp) o e
 item:=by
  intro X hP hw hK hc i pins s σ H E I hf st hg
  subst hP hw hK
  obtain⟨hga,hi⟩:=hg
  obtain⟨vs,rel,da,hs⟩:=Qjj I hga hd
  obtain⟨f0,f1,f2,f3,f4,f5⟩:=hf it (by simp)
  have hl:=rel.length
  have hkk:=rel.keys
  obtain⟨⟨k,v⟩,ek⟩:∃ p,kvs[i]?=some p:=⟨kvs[i],List.getElem?_eq_getElem hi⟩
  obtain⟨⟨k',v'⟩,ek'⟩:∃ p,vs[i]?=some p:=⟨vs[i],List.getElem?_eq_getElem (by omega)⟩
  have ekk:k'=k:=by
   have h1:(kvs.map (·.1))[i]?=some k:=by rw[List.getElem?_map,ek];rfl
   have h2:(vs.map (·.1))[i]?=some k':=by rw[List.getElem?_map,ek'];rfl
   rw[hkk,h2]at h1
   exact Option.some.inj h1
  subst ekk
  refine wpAny_pyNext_dict_item (knd:=QaA X.prog X.w) (by rw[hl]at st;exact st) da ek' fun key h' hkey st' sb=>?_
  have I1:Inv X pins σ H { s with heap:=h' }:=I.turned (t':=s.toks) (fun b o hb e=>(sb.2 b hb).trans e) f0 f1 f3 f4 f5
  obtain⟨o,e,c,d⟩:=id st'
  exact⟨key,rfl,Qje (s:={ s with heap:=h' }) e c d (by decide) ⟨kV k',H,I1,Qm1 hkey,⟨rfl,k',v,ek,rfl⟩,by rw[hl];exact st',fun b hb=>(hf b hb).1⟩⟩
 done:=by
  intro X hP hw hK hc i pins s σ H E I hf st hg
  subst hP hw hK
  obtain⟨hga,hi⟩:=hg
  obtain⟨vs,rel,da,hs⟩:=Qjj I hga hd
  obtain⟨f0,f1,f2,f3,f4,f5⟩:=hf it (by simp)
  have hl:=rel.length
  exact wpAny_pyNext_dict_end (knd:=QaA X.prog X.w) (I.ok.hd hc) (by rw[hl]at st;exact st) da (by rw[List.getElem?_eq_none_iff];omega) fun h' eb=>⟨rfl,I.turned (t':=s.toks) (fun b o hb e=>eb b o hb e) f0 f1 f3 f4 f5⟩
 self:=fun _ _ _ _ _ st h=>wpAny_pyIter_keyiter st h
noncomputable def Fz (a:Addr) (ob:Obj) (kvs:List (Key×V)) (H H':Hp):Prop:=H' a=some (.frz ob (.dK kvs))∧(H'=H∨(H a=some (.dK kvs)∧H'=upd H a (.frz ob (.dK kvs))))
theorem Fz.ext {K:PySem.W.Frag}{ρ:List Addr}{H H':Hp}{a:Addr}{ob:Obj}{kvs:List (Key×V)} (n:a∉ρ) (z:Fz a ob kvs H H'):Ext ρ H ρ H':=by
 obtain⟨_,rfl | ⟨e,rfl⟩⟩:=z
 ·exact .refl
 ·refine⟨List.prefix_refl _,fun b u eb _=>?_,fun _ _ _ w=>w⟩
  by_cases hb:b=a
  ·subst hb
   rw[e]at eb
   cases eb
   exact .inr ⟨ob,kvs,rfl,QaK⟩
  ·exact .inl (by rw[Qar hb];exact eb)
theorem Fz.rel {K:PySem.W.Frag}{ρ:List Addr}{h:Qac}{H H':Hp}{a:Addr}{ob:Obj}{kvs:List (Key×V)} (n:a∉ρ) (z:Fz a ob kvs H H') (r:HRel K ρ h H):HRel K ρ h H':=by
 have x:=z.ext (K:=K) n
 refine⟨r.len,r.nd,fun m b u e1 e2=>(r.at_ m b u e1 e2).ext x fun v e=>?_⟩
 obtain⟨_,rfl | ⟨ea,rfl⟩⟩:=z
 ·exact e
 ·rw[Qar (by rintro rfl;exact n (List.mem_of_getElem? e1))];exact e
theorem Qmv {X:Cx}{tg l:Expr}{pins:List (Addr×Obj)}{σ:L2.St}{H1:Hp}{s1:Shared}{a:Addr}{kvs:List (Key×V)}{R:L2.It→Hp→Prop} (I1:Inv X pins σ H1 s1) (hq:Rd H1 a (.dK kvs)) (q:∀ ob H2,Fz a ob kvs H1 H2→R (Itd a ob kvs) H2) :
  wpAny (model X.prog X.w) X.A (pyIter (.ref a)) (PIE X pins σ tg R) X.xe s1:=by
 obtain⟨ob,H2,I2,z⟩:∃ ob H2,Inv X pins σ H2 s1∧Fz a ob kvs H1 H2:=by
  rcases id hq with e | ⟨ob,e⟩
  ·obtain⟨_,_,vs,_,ob,es,ep,h1,_⟩:=Qmx I1.hok e
   exact⟨ob,_,freeze I1 e h1,QaK,.inr ⟨e,rfl⟩⟩
  ·exact⟨ob,H1,I1,e,.inl rfl⟩
 obtain⟨es,ep,hd⟩:∃ es ep,ob.data=.dict es ep:=by
  obtain⟨hg,zz,hs,vs,rel,o,es',ep',h1,h2,h3,r⟩:=I2.hok a _ z.1
  rw[hg]at h1
  cases h1
  exact⟨es',ep',h3⟩
 obtain⟨vs,rel,da,hs⟩:=Qjj I2 z.1 hd
 refine wpAny_pyIter_dict (knd:=QaA X.prog X.w) hs da ?_
 refine⟨s1.heap.objs.size,[s1.heap.objs.size],_,_,H2,rfl,I2.kept (t':=s1.toks) fun b o e=>Heap.get?_push_of_some _ e,Qjm a _ hd,⟨_,Heap.get?_push_size _ rfl,rfl,by rw[rel.length];rfl⟩,fun b hb=>?_,q ob H2 z⟩
 have e:b=s1.heap.objs.size:=by simpa using hb
 subst e
 exact I2.fpOk (Nat.le_refl _) (I2.hok.fresh (Nat.le_refl _))
theorem QjS {a:Addr}{ob:Obj}{kvs:List (Key×V)}{g:TG}{tb:TS}{D:Ends}{σ:L2.St}{H:Hp} (Pv:Nat→L2.St→Hp→Prop) (h0:Pv 0 σ H) (hl:∀ i σ H,i≤kvs.length→Pv i σ H→H a=some (.frz ob (.dK kvs)))
  (hs:∀ i k v σ H,kvs[i]?=some (k,v)→Pv i σ H→g (kV k) σ H fun σ2 H2=>tb { D with nx:=Pv (i+1),ct:=Pv (i+1),bk:=D.nx } σ2 H2) (hd:∀ σ H,Pv kvs.length σ H→D.nx σ H) :
  ∃ W:Nat→Nat→L2.St→Hp→Prop,(∃ m,W 0 m σ H)∧∀ i m σ H,W i m σ H →
   ((Itd a ob kvs).stop i H∧D.nx σ H)∨((Itd a ob kvs).go i H∧∃ N:L2.St→Hp→Prop,(∀ σ' H',N σ' H'→∃ m',m'<m∧W (i+1) m' σ' H')∧∀ x H',(Itd a ob kvs).yld i H x H'→g x σ H' fun σ2 H2=>tb { D with nx:=N,ct:=N,bk:=D.nx } σ2 H2):=by
 refine⟨fun i m σ H=>m=kvs.length-i∧i≤kvs.length∧Pv i σ H,⟨kvs.length,by simp,Nat.zero_le _,h0⟩,?_⟩
 rintro i m σ1 H1 ⟨rfl,hi,p⟩
 have q:=hl i σ1 H1 hi p
 by_cases hlt:i<kvs.length
 ·refine .inr ⟨⟨q,hlt⟩,Pv (i+1),fun σ' H' p'=>⟨kvs.length-(i+1),by omega,rfl,hlt,p'⟩,fun x H' y=>?_⟩
  obtain⟨rfl,k,v,ek,rfl⟩:=y
  exact hs i k v σ1 _ ek p
 ·have e:i=kvs.length:=by omega
  subst e
  exact .inl ⟨⟨q,Nat.le_refl _⟩,hd σ1 H1 p⟩
noncomputable def Its (z:Str):L2.It:=⟨fun i _=>i<z.cps.size,fun i H x H'=>H'=H∧∃ c,z.cps[i]?=some c∧x=.str ⟨#[c]⟩,fun i _=>i=z.cps.size⟩
theorem QgY {P:Program}{w:World}{K:PySem.W.Frag}{tg:Expr}{z:Str}{t:Tok}{T:String} (it:Addr) (hn:["enumerate","zip","dict_itemiterator","dict_reverseitemiterator","odict_iterator","itertools.zip_longest","itertools.pairwise"].contains T=false)
  (W:∀ A':Around,A'.handled=none→Walks P w A' it [it] [it] z.cps.size (SignAt z) (fun i h=>h.IsStrIter it T z t i)) (hself:∀ (A:Around) (i:Nat) (s:Shared) (Q:Value→Shared→Prop) (E:Value→Shared→Prop),s.heap.IsStrIter it T z t i→Q (.ref it) s→wpAny (model P w) A (pyIter (.ref it)) Q E s):Turn P w K tg (Its z) [it] it (fun i h=>h.IsStrIter it T z t i) where
 mem:=by simp
 obj:=fun i h st b hb=>by
  obtain rfl:b=it:=by simpa using hb
  obtain⟨o,e,c,d⟩:=st
  exact⟨o,e,fun v z=>by rw[d]at z;cases z⟩
 keep:=fun i h h' st k=>by obtain⟨o,e,r⟩:=st;exact⟨o,k it (by simp) o e,r⟩
 item:=by
  intro X hP hw hK hc i pins s σ H E I hf st hg
  subst hP hw hK
  obtain⟨f0,f1,f2,f3,f4,f5⟩:=hf it (by simp)
  refine(W X.A (I.ok.hd hc)).item i s _ _ hg st fun v h' tk hP st' kk=>?_
  obtain⟨c,u,e1,rfl⟩:=hP
  have I1:Inv X pins σ H { s with heap:=h',toks:=tk }:=I.turned (fun b o hb e=>kk b o (by simpa using hb) e) f0 f1 f3 f4 f5
  obtain⟨o,e,c2,d⟩:=id st'
  exact⟨_,rfl,Qje (s:={ s with heap:=h',toks:=tk }) e c2 d hn ⟨.str ⟨#[c]⟩,H,I1,⟨u,rfl⟩,⟨rfl,c,e1,rfl⟩,st',fun b hb=>(hf b hb).1⟩⟩
 done:=by
  intro X hP hw hK hc i pins s σ H E I hf st hg
  subst hP hw hK
  obtain⟨f0,f1,f2,f3,f4,f5⟩:=hf it (by simp)
  cases (show i=z.cps.size from hg)
  exact(W X.A (I.ok.hd hc)).done s _ _ st fun h' tk kk=>⟨rfl,I.turned (fun b o hb e=>kk b o (by simpa using hb) e) f0 f1 f3 f4 f5⟩
 self:=fun A i s Q E st h=>hself A i s Q E st h
theorem pi_str {X:Cx}{tg:Expr}{pins:List (Addr×Obj)}{σ:L2.St}{H:Hp}{s:Shared}{R:L2.It→Hp→Prop}{E:Value→Shared→Prop}{z:Str}{t:Tok} (I:Inv X pins σ H s) (q:R (Its z) H):wpAny (model X.prog X.w) X.A (pyIter (.str z t)) (PIE X pins σ tg R) E s:=by
 have fp:∀ b∈[s.heap.objs.size],QgN X pins H b:=fun b hb=>by
  obtain rfl:b=s.heap.objs.size:=by simpa using hb
  exact I.fpOk (Nat.le_refl _) (I.hok.fresh (Nat.le_refl _))
 cases ha:z.cps.all (·<128)
 ·exact wpAny_pyIter_wide ha ⟨s.heap.objs.size,[s.heap.objs.size],_,_,H,rfl,I.kept (t':=s.toks) fun b o e=>Heap.get?_push_of_some _ e,QgY (t:=t) _ (by decide) (fun A' hA=>Walks.strWide hA _ z t) (fun A i s Q E st h=>wpAny_pyIter_striter_wide st h),⟨_,Heap.get?_push_size _ rfl,rfl,rfl⟩,fp,q⟩
 ·exact wpAny_pyIter_ascii ha ⟨s.heap.objs.size,[s.heap.objs.size],_,_,H,rfl,I.kept (t':=s.toks) fun b o e=>Heap.get?_push_of_some _ e,QgY (t:=t) _ (by decide) (fun A' hA=>Walks.strAscii hA _ z t) (fun A i s Q E st h=>wpAny_pyIter_striter_ascii st h),⟨_,Heap.get?_push_size _ rfl,rfl,rfl⟩,fp,q⟩
section
variable {P:Program}{w:World}{A:Around}{E:Value→Shared→Prop}
theorem Qfo {it l:Addr}{items:Array Value} (ne:l≠it):∀ (n i:Nat) (s:Shared) (Q:List Value→Shared→Prop),s.heap.IsListIter it l i→s.heap.IsList l items→i+n≤items.size →
  (∀ h':Heap,h'.IsListIter it l (i+n)→Heap.SameBut it s.heap h'→Q ((items.toList.drop i).take n) { s with heap:=h' })→wpAny (model P w) A (draw (.ref it) n) Q E s
 |0,i,s,Q,a,b,hl,q=>by
  rw[draw]
  exact wpAny_pure (q s.heap a (Heap.SameBut.refl _ _))
 |n+1,i,s,Q,a,b,hl,q=>by
  rw[draw]
  have hi:i<items.size:=by omega
  refine wpAny_bind (wpAny_pyNext_list_item a b (x:=items[i]) (by rw[Array.getElem?_eq_getElem hi]) fun h1 a1 sb1=>?_)
  obtain⟨o,o1,o2⟩:=b
  refine wpAny_bind (wpAny_holding (Qfo ne n (i+1) _ _ a1 ⟨o,(sb1.2 l ne).trans o1,o2⟩ (by omega) fun h2 a2 sb2=>wpAny_pure ?_))
  have:=q h2 (by rw[show i+(n+1)=i+1+n by omega];exact a2) (sb1.trans sb2)
  rw[← List.getElem_cons_drop (h:=by simpa using hi),List.take_succ_cons]at this
  simpa using this
theorem QcO {l:Addr}{items:Array Value}{s:Shared}{Q:List Value→Shared→Prop} (hh:A.handled=none) (hl:s.heap.IsList l items) (q:∀ h':Heap,Heap.ExtBut s.heap.objs.size s.heap h'→Q items.toList { s with heap:=h' }):wpAny (model P w) A (unpackItems (.ref l) items.size none) Q E s:=by
 unfold unpackItems
 refine wpAny_bind ?_
 unfold notIterableAtAll
 refine wpAny_bind (wpAny_specialOf hl.typeIs slot_list_iter.lookup ?_)
 dsimp only[Option.isSome]
 rw[if_pos rfl]
 refine wpAny_pure ?_
 rw[if_neg (by decide)]
 refine wpAny_bind (wpAny_holding (wpAny_pyIter_list hl ?_))
 obtain⟨o,o1,o2⟩:=id hl
 have ne:l≠s.heap.objs.size:=Nat.ne_of_lt (Heap.lt_size o1)
 have hl1:(s.heap.push { cls:=.type "list_iterator",data:=.fields #[.ref l,.int 0 0] }).IsList l items:=⟨o,Heap.get?_push_of_some _ o1,o2⟩
 refine wpAny_bind (wpAny_holding (Qfo ne items.size 0 _ _ ⟨_,Heap.get?_push_size _ rfl,rfl,rfl⟩ hl1 (by omega) fun h1 a1 sb1=>?_))
 rw[List.drop_zero,List.take_of_length_le (by simp),if_neg (by simp)]
 rw[Nat.zero_add]at a1
 obtain⟨o',o1',o2'⟩:=id hl1
 refine wpAny_bind (wpAny_holding (wpAny_pyNext_list_end hh a1 ⟨o',(sb1.2 l ne).trans o1',o2'⟩ (by simp) fun h2 eb=>?_))
 rw[if_neg (by decide)]
 refine wpAny_pure (q h2 fun b ob hb e=>eb b ob hb ?_)
 exact(sb1.2 b hb).trans (Heap.get?_push_of_some _ e)
end
section
variable {X:Cx}{pos:Pos}
theorem pg_lst {es:List Expr}{k:Nat}{t:TGs}{n:Nat} (hc:X.calm=true) (h:PGs X es t) (hn:(assignEach es X.env).length=n) (hst:(assignEach es X.env).findIdx? (·.1)=none):PG X (.Tuple es k pos) (fun v σ H Q=>∃ a xs,v=.ref a∧SqL X.K H a xs∧xs.length=n∧t xs σ H Q):=by
 intro pins s σ H v u Q I r hw
 obtain⟨a,xs,e1,hq,hl,hw⟩:=hw
 subst e1
 cases r
 obtain⟨its,rv,ht,hz⟩:=I.list hq
 rw[assign_Tuple]
 refine wpAny_bind (wpAny_standAt ?_)
 unfold unpack
 rw[hst,show (assignEach es X.env).length=its.toArray.size by simp[hn,← hl,rv.length]]
 refine wpAny_bind (wpAny_holding (QcO (I.ok.hd hc) ht.isList fun h' hx=>?_))
 have I1:Inv X pins σ H { s with heap:=h' }:=I.kept (t':=s.toks) fun b o e=>hx b o (Nat.ne_of_lt (Heap.lt_size e)) e
 exact h pins _ σ H xs _ Q I1 (by simpa using rv) hw
theorem _root_.L2.PG.or {e:Expr}{t t':TG} (p:PG X e t) (p':PG X e t'):PG X e (fun v σ H Q=>t v σ H Q∨t' v σ H Q):=fun pins s σ H v u Q I r q=>by
 rcases q with q | q
 ·exact p pins s σ H v u Q I r q
 ·exact p' pins s σ H v u Q I r q
end
section
variable {X:Cx}{EX:EXT}{cf:CF}{fw:Nat}{pos:Pos}{a b c e:Expr}{a' b' c' e':E}
theorem b_nil:PSs X [] (tIS X.K EX (exB cf fw [])):=pss_nil.sub fun D τ H zq=>by
 obtain⟨ρ,σ,h,re,hr,q⟩:=zq
 rw[exB]at q
 exact RQ.here hr q τ re
theorem b_cons {st:Stmt}{sts:List Stmt}{s':S}{ss':List S} (h1:PS X st (tIS X.K EX (exS cf fw s'))) (h2:PSs X sts (tIS X.K EX (exB cf fw ss'))):PSs X (st::sts) (tIS X.K EX (exB cf fw (s'::ss'))) :=
 (Qkn h1 h2).sub fun D τ H zq=>by
  obtain⟨ρ,σ,h,re,hr,q⟩:=zq
  rw[exB]at q
  refine⟨ρ,σ,h,re,hr,q.bnd.mono fun fl h1 ρ1 H1 x1 hr1 q1=>?_⟩
  cases fl with
  |nx σ1=>exact fun τ1 re1=>⟨ρ1,σ1,h1,re1,hr1,q1⟩
  |ret w=>exact RQ.here (EX:=EX) hr1 q1
  |brk σ1=>exact RQ.here (EX:=EX) hr1 q1
  |cnt σ1=>exact RQ.here (EX:=EX) hr1 q1
theorem s_pass:PS X (.Pass pos) (tIS X.K EX (exS cf fw .pass_)):=ps_pass.sub fun D τ H zq=>by
 obtain⟨ρ,σ,h,re,hr,q⟩:=zq
 rw[exS]at q
 exact RQ.here hr q τ re
theorem s_brk:PS X (.Break pos) (tIS X.K EX (exS cf fw .brk)):=ps_break.sub fun D τ H zq=>by
 obtain⟨ρ,σ,h,re,hr,q⟩:=zq
 rw[exS]at q
 exact RQ.here hr q τ re
theorem s_cnt:PS X (.Continue pos) (tIS X.K EX (exS cf fw .cnt)):=ps_continue.sub fun D τ H zq=>by
 obtain⟨ρ,σ,h,re,hr,q⟩:=zq
 rw[exS]at q
 exact RQ.here hr q τ re
noncomputable def QbZ (e:Expr):Bool:=match e with
 |.ListComp ..=>false
 |.SetComp ..=>false
 |.DictComp ..=>false
 |_=>true
theorem Qdn {e:Expr} (h:QbZ e=true) (t:Option Expr) (n:Nat) (env:Env):swapsWith e t n env=pure false:=by
 cases e<;>first | rfl | cases h
theorem s_asg {i:Nat}{x:Str}{p:Pos} (hN:X.N.Nodup) (hi:X.N[i]?=some x) (hx:Loc X.env.scope x) (hf:X.fn x=true∨X.env.scope.names.lookup x=some .local) (he:PE X e (tI X.K EX (evE cf e'))) (hc:QbZ e=true) :
  PS X (.Assign [.Name x p] e pos) (tIS X.K EX (exS cf fw (.asg i e'))):=(QeN hN hi hx he (Qdn hc _ _ _) hf).sub fun D τ H zq=>by
 obtain⟨ρ,σ,h,re,hr,q⟩:=zq
 rw[exS]at q
 refine⟨ρ,σ,h,re,hr,q.bnd.mono fun w h1 ρ1 H1 x1 hr1 q1 v r=>?_⟩
 exact RQ.here hr1 q1 _ ((re.ext x1).set i r)
theorem s_exp (he:PE X e (tI X.K EX (evE cf e'))) (hc:QbZ e=true):PS X (.Expr e pos) (tIS X.K EX (exS cf fw (.exp e'))):=(Qmf he (Qdn hc _ _ _)).sub fun D τ H zq=>by
 obtain⟨ρ,σ,h,re,hr,q⟩:=zq
 rw[exS]at q
 exact⟨ρ,σ,h,re,hr,q.bnd.mono fun w h1 ρ1 H1 x1 hr1 q1 v r=>RQ.here hr1 q1 _ (re.ext x1)⟩
theorem s_doc {s:Str}{j:Nat}{p:Pos}:PS X (.Expr (.Constant (.str s) j p) pos) (tIS X.K EX (exS cf fw .pass_)):=ps_doc.sub fun D τ H zq=>by
 obtain⟨ρ,σ,h,re,hr,q⟩:=zq
 rw[exS]at q
 exact RQ.here hr q τ re
theorem s_ret (he:PE X e (tI X.K EX (evE cf e'))):PS X (.Return (some e) pos) (tIS X.K EX (exS cf fw (.ret e'))):=(ps_ret he).sub fun D τ H zq=>by
 obtain⟨ρ,σ,h,re,hr,q⟩:=zq
 rw[exS]at q
 exact⟨ρ,σ,h,re,hr,q.bnd.mono fun w h1 ρ1 H1 x1 hr1 q1 v r=>RQ.here hr1 q1 _ r⟩
theorem s_if {as bs:List Stmt}{as' bs':List S} (hc:PT X c (tIT X.K EX (evT cf c'))) (ha:PSs X as (tIS X.K EX (exB cf fw as'))) (hb:PSs X bs (tIS X.K EX (exB cf fw bs'))):PS X (.If c as bs pos) (tIS X.K EX (exS cf fw (.if_ c' as' bs'))) :=
 (ps_if hc ha hb).sub fun D τ H zq=>by
  obtain⟨ρ,σ,h,re,hr,q⟩:=zq
  rw[exS]at q
  refine⟨ρ,σ,h,re,hr,q.bnd.mono fun k h1 ρ1 H1 x1 hr1 q1=>?_⟩
  cases k with
  |true=>exact Qn3 ⟨ρ1,σ,h1,re.ext x1,hr1,by simpa using q1⟩
  |false=>exact Qnk ⟨ρ1,σ,h1,re.ext x1,hr1,by simpa using q1⟩
theorem Qnd {bs:List Stmt}{bs':List S} (hp:PassesOwn (model X.prog X.w) X.A X.env X.xe) (hc:PT X c (tIT X.K EX (evT cf c'))) (hb:PSs X bs (tIS X.K EX (exB cf fw bs'))):PS X (.While c bs [] pos) (tIS X.K EX (exS cf fw (.while_ c' bs'))) :=
 (Qks hp hc hb).sub fun D τ H zq=>by
  obtain⟨ρ,σ,h,re,hr,q⟩:=zq
  rw[exS]at q
  refine⟨fun m τ H=>∃ ρ σ h,RelE X.K ρ H σ τ∧HRel X.K ρ h H∧RQ X.K EX ρ H (wh (evT cf c') (exB cf fw bs') m σ h) (FlQ X.K D),⟨fw,ρ,σ,h,re,hr,q⟩,?_⟩
  rintro m τ1 H1 ⟨ρ1,σ1,h1,re1,hr1,q1⟩
  cases m with
  |zero=>exact q1.elim
  |succ n =>
   rw[wh]at q1
   refine⟨ρ1,σ1,h1,re1,hr1,q1.bnd.mono fun k h2 ρ2 H2 x2 hr2 q2=>?_⟩
   cases k with
   |false =>
    rw[if_neg (by decide)]at q2
    exact Qnk (RQ.here hr2 q2 _ (re1.ext x2))
   |true =>
    refine Qn3 ⟨fun τ' H'=>∃ ρ σ h,RelE X.K ρ H' σ τ'∧HRel X.K ρ h H'∧RQ X.K EX ρ H' (wh (evT cf c') (exB cf fw bs') n σ h) (FlQ X.K D),fun τ' H' p=>⟨n,Nat.lt_succ_self n,p⟩,?_⟩
    rw[if_pos rfl]at q2
    refine⟨ρ2,σ1,h2,re1.ext x2,hr2,q2.bnd.mono fun fl h3 ρ3 H3 x3 hr3 q3=>?_⟩
    cases fl with
    |nx σ4=>exact fun τ4 re4=>⟨ρ3,σ4,h3,re4,hr3,q3⟩
    |cnt σ4=>exact fun τ4 re4=>⟨ρ3,σ4,h3,re4,hr3,q3⟩
    |brk σ4=>exact fun τ4 re4=>RQ.here hr3 q3 τ4 re4
    |ret w=>exact fun v r=>RQ.here hr3 q3 v r
noncomputable def tGI (K:PySem.W.Frag) (is:List Nat):TG:=fun v τ H Q=>∃ ρ σ w σ',RelE K ρ H σ τ∧Rel K ρ H w v∧QaG is w σ=some σ'∧∀ τ',RelE K ρ H σ' τ'→Q τ' H
noncomputable def tGs (K:PySem.W.Frag) (is:List Nat):TGs:=fun vs τ H Q=>∃ ρ σ ws σ',RelE K ρ H σ τ∧RelL K ρ H ws vs∧Qcj is ws σ=some σ'∧∀ τ',RelE K ρ H σ' τ'→Q τ' H
theorem _root_.L2.PG.sub {X:Cx}{e:Expr}{t t':TG} (p:PG X e t) (h:∀ v τ H Q,t' v τ H Q→t v τ H Q):PG X e t':=fun pins s σ H v u Q I r q=>p pins s σ H v u Q I r (h _ _ _ _ q)
theorem _root_.L2.PGs.sub {X:Cx}{e:List Expr}{t t':TGs} (p:PGs X e t) (h:∀ v τ H Q,t' v τ H Q→t v τ H Q):PGs X e t':=fun pins s σ H v u Q I r q=>p pins s σ H v u Q I r (h _ _ _ _ q)
theorem g_name {i:Nat}{x:Str} (hN:X.N.Nodup) (hi:X.N[i]?=some x) (hx:Loc X.env.scope x) (hf:X.fn x=true∨X.env.scope.names.lookup x=some .local):PG X (.Name x pos) (tGI X.K [i]) :=
 (QjD hN hi hx hf).sub fun v τ H Q zq=>by
  obtain⟨ρ,σ,w,σ',re,r,e,q⟩:=zq
  cases e
  exact q _ (re.set i r)
theorem gs_nil:PGs X [] (tGs X.K []):=pgs_nil.sub fun vs τ H Q zq=>by
 obtain⟨ρ,σ,ws,σ',re,rl,e,q⟩:=zq
 cases ws with
 |nil =>
  rw[RelL]at rl
  cases e
  exact⟨rl,q τ re⟩
 |cons w ws=>cases e
theorem QmD {i:Nat}{x:Str}{p:Pos}{es:List Expr}{is:List Nat} (hN:X.N.Nodup) (hi:X.N[i]?=some x) (hx:Loc X.env.scope x) (hf:X.fn x=true∨X.env.scope.names.lookup x=some .local) (h2:PGs X es (tGs X.K is)):PGs X (.Name x p::es) (tGs X.K (i::is)) :=
 (QkW (QjD hN hi hx hf) h2).sub fun vs τ H Q zq=>by
  obtain⟨ρ,σ,ws,σ',re,rl,e,q⟩:=zq
  cases ws with
  |nil=>cases e
  |cons w ws =>
   rw[RelL]at rl
   obtain⟨y,ys,rfl,r,rs⟩:=rl
   exact⟨y,ys,rfl,ρ,_,ws,σ',re.set i r,rs,e,q⟩
theorem QcA:∀ {is:List Nat}{ws:List W}{σ σ':Qai},Qcj is ws σ=some σ'→is.length=ws.length
 |[],[],_,_,_=>rfl
 |[],_::_,_,_,e=>by cases e
 |_::_,[],_,_,e=>by cases e
 |_::is,_::ws,_,_,e=>by simp[QcA (is:=is) (ws:=ws) e]
noncomputable def Qa4 (e:Expr):Bool:=match e with
 |.Name ..=>true
 |_=>false
theorem Qcp:∀ {es:List Expr} (env:Env),es.all Qa4=true→(assignEach es env).length=es.length∧(assignEach es env).findIdx? (·.1)=none
 |[],_,_=>⟨rfl,rfl⟩
 |.Name x p::es,env,h=>by
  have:=Qcp (es:=es) env (by simpa [Qa4] using h)
  exact⟨by simp[assignEach,this.1],by simp[assignEach,List.findIdx?_cons,this.2]⟩
 |.BoolOp ..::_,_,h=>by simp[Qa4]at h
 |.NamedExpr ..::_,_,h=>by simp[Qa4]at h
 |.BinOp ..::_,_,h=>by simp[Qa4]at h
 |.UnaryOp ..::_,_,h=>by simp[Qa4]at h
 |.Lambda ..::_,_,h=>by simp[Qa4]at h
 |.IfExp ..::_,_,h=>by simp[Qa4]at h
 |.Dict ..::_,_,h=>by simp[Qa4]at h
 |.Set ..::_,_,h=>by simp[Qa4]at h
 |.ListComp ..::_,_,h=>by simp[Qa4]at h
 |.SetComp ..::_,_,h=>by simp[Qa4]at h
 |.DictComp ..::_,_,h=>by simp[Qa4]at h
 |.GeneratorExp ..::_,_,h=>by simp[Qa4]at h
 |.Await ..::_,_,h=>by simp[Qa4]at h
 |.Yield ..::_,_,h=>by simp[Qa4]at h
 |.YieldFrom ..::_,_,h=>by simp[Qa4]at h
 |.Compare ..::_,_,h=>by simp[Qa4]at h
 |.Call ..::_,_,h=>by simp[Qa4]at h
 |.FormattedValue ..::_,_,h=>by simp[Qa4]at h
 |.JoinedStr ..::_,_,h=>by simp[Qa4]at h
 |.Constant ..::_,_,h=>by simp[Qa4]at h
 |.Attribute ..::_,_,h=>by simp[Qa4]at h
 |.Subscript ..::_,_,h=>by simp[Qa4]at h
 |.Starred ..::_,_,h=>by simp[Qa4]at h
 |.List ..::_,_,h=>by simp[Qa4]at h
 |.Tuple ..::_,_,h=>by simp[Qa4]at h
 |.Slice ..::_,_,h=>by simp[Qa4]at h
theorem g_tup {es:List Expr}{is:List Nat}{k:Nat} (hc:X.calm=true) (h:PGs X es (tGs X.K is)) (hn:es.all Qa4=true) (hl:es.length=is.length) (h2:is.length≠1):PG X (.Tuple es k pos) (tGI X.K is) :=
 ((pg_tup (n:=es.length) hc h (Qcp X.env hn).1 (Qcp X.env hn).2).or (pg_lst (n:=es.length) hc h (Qcp X.env hn).1 (Qcp X.env hn).2)).sub fun v τ H Q zq=>by
  obtain⟨ρ,σ,w,σ',re,r,e,q⟩:=zq
  unfold QaG at e
  split at e
  ·exact absurd rfl h2
  ·split at e
   ·rename_i ws
    rw[Rel]at r
    obtain⟨p,xs,rfl,hq,rs⟩:=r
    exact .inl ⟨p,xs,rfl,hq.sq,by rw[← rs.length,← QcA e,hl],ρ,σ,ws,σ',re,rs,e,q⟩
   ·rename_i ws
    rw[Rel]at r
    obtain⟨p,xs,rfl,_,hq,rs⟩:=r
    exact .inr ⟨p,xs,rfl,.inl (.inl hq),by rw[← rs.length,← QcA e,hl],ρ,σ,ws,σ',re,rs,e,q⟩
   ·cases e
theorem QeA {is:List Nat}{body:Qai→Qac→Res Fl}{w:W}{ws:List W}{v:V}{D:Ends}{τ:L2.St}{H:Hp}{ρ:List Addr}{σ:Qai}{h:Qac}{N:L2.St→Hp→Prop}{K:PySem.W.Frag}
  (re:RelE K ρ H σ τ) (hr:HRel K ρ h H) (r:Rel K ρ H w v) (q:RQ K EX ρ H (fo is body (w::ws) σ h) (FlQ K D))
  (hN:∀ τ' H' ρ' σ' h',Ext ρ H ρ' H'→RelE K ρ' H' σ' τ'→HRel K ρ' h' H'→RQ K EX ρ' H' (fo is body ws σ' h') (FlQ K D)→N τ' H') :
  tGI K is v τ H fun τ2 H2=>tIS K EX body { D with nx:=N,ct:=N,bk:=D.nx } τ2 H2:=by
 rw[fo]at q
 split at q
 ·exact q.elim
 ·rename_i σ' e
  refine⟨ρ,σ,w,σ',re,r,e,fun τ' re'=>⟨ρ,σ',h,re',hr,q.bnd.mono fun fl h3 ρ3 H3 x3 hr3 q3=>?_⟩⟩
  cases fl with
  |nx σ4=>exact fun τ4 re4=>hN _ _ _ _ _ x3 re4 hr3 q3
  |cnt σ4=>exact fun τ4 re4=>hN _ _ _ _ _ x3 re4 hr3 q3
  |brk σ4=>exact fun τ4 re4=>RQ.here hr3 q3 τ4 re4
  |ret w=>exact fun v r=>RQ.here hr3 q3 v r
theorem Qc0 {ws:List W}{i:Nat}{w:W} (e:ws[i]?=some w):ws.drop i=w::ws.drop (i+1):=by
 obtain⟨h,rfl⟩:=List.getElem?_eq_some_iff.mp e
 exact List.drop_eq_getElem_cons h
theorem RelL.back {K:PySem.W.Frag}{ρ:List Addr}{H:Hp}{ws:List W}{xs:List V}{i:Nat}{x:V} (r:RelL K ρ H ws xs) (e:xs[i]?=some x):∃ w,ws[i]?=some w∧Rel K ρ H w x:=by
 have hl:i<ws.length:=by rw[r.length];exact(List.getElem?_eq_some_iff.mp e).1
 obtain⟨y,h1,h2⟩:=r.get (List.getElem?_eq_getElem hl)
 rw[e]at h1;cases h1
 exact⟨_,List.getElem?_eq_getElem hl,h2⟩
noncomputable def iSeq (K:PySem.W.Frag) (tl:TE):TI:=fun σ H R=>tl σ H fun x H1=>(∃ z,x=.str z∧R (Its z) H1)∨∃ a,x=.ref a∧(((∃ xs,SqL K H1 a xs)∧R (Itl K a) H1)∨((∃ xs,SqT K H1 a xs)∧R (Itt K a) H1)∨(∃ kvs,Rd H1 a (.dK kvs)∧∀ ob H2,Fz a ob kvs H1 H2→R (Itd a ob kvs) H2))
theorem QlG {tg l:Expr}{tl:TE} (hl:PE X l tl):PI X tg l (iSeq X.K tl):=by
 intro pins s σ H R I h
 refine thn (hl pins s σ H _ I h) fun v s1 zq=>?_
 obtain⟨x,H1,I1,r1,q1⟩:=zq
 rcases q1 with ⟨z,e,q⟩ | ⟨a,e,q1⟩
 ·subst e
  obtain⟨t,rfl⟩:=r1
  exact pi_str I1 q
 subst e
 cases r1
 rcases q1 with ⟨⟨xs,hq⟩,q⟩ | ⟨⟨xs,hq⟩,q⟩ | ⟨kvs,hq,q⟩
 ·obtain⟨its,rv,p,hz⟩:=I1.list hq
  refine wpAny_pyIter_list p.isList ?_
  refine⟨s1.heap.objs.size,[s1.heap.objs.size],_,_,H1,rfl,I1.kept (t':=s1.toks) fun b o e=>Heap.get?_push_of_some _ e,QhY a _,⟨_,Heap.get?_push_size _ rfl,rfl,rfl⟩,fun b hb=>?_,q⟩
  have e:b=s1.heap.objs.size:=by simpa using hb
  subst e
  exact I1.fpOk (Nat.le_refl _) (I1.hok.fresh (Nat.le_refl _))
 ·obtain⟨its,rv,p,hz⟩:=I1.tuple hq
  refine wpAny_pyIter_tuple (show s1.heap.IsTuple a its.toArray from p) ?_
  refine⟨s1.heap.objs.size,[s1.heap.objs.size],_,_,H1,rfl,I1.kept (t':=s1.toks) fun b o e=>Heap.get?_push_of_some _ e,Qh7 a _,⟨_,Heap.get?_push_size _ rfl,rfl,rfl⟩,fun b hb=>?_,q⟩
  have e:b=s1.heap.objs.size:=by simpa using hb
  subst e
  exact I1.fpOk (Nat.le_refl _) (I1.hok.fresh (Nat.le_refl _))
 ·exact Qmv (l:=l) I1 hq q
noncomputable def Qbn (e:Expr):Bool:=match e with
 |.Set ..=>false
 |_=>true
theorem QfR {e:Expr} (h:Qbn e=true) (env:Env) (x:Value):foldedSetIterable e env x=pure x:=by
 cases e<;>first | rfl | cases h
theorem Ext.at {ρ ρ':List Addr}{H H':Hp}{n:Nat}{a:Addr} (x:Ext ρ H ρ' H') (e:ρ[n]?=some a):ρ'[n]?=some a:=by
 obtain⟨t,rfl⟩:=x.pre
 rw[List.getElem?_append_left (List.getElem?_eq_some_iff.mp e).1];exact e
theorem s_for {tg:Expr}{is:List Nat}{bs:List Stmt}{bs':List S} (hp:PassesOwn (model X.prog X.w) X.A X.env X.xe) (hc:X.calm=true) (ha:PE X a (tI X.K EX (evE cf a'))) (hg:PG X tg (tGI X.K is)) (hb:PSs X bs (tIS X.K EX (exB cf fw bs')))
  (hs:Qbn a=true):PS X (.For tg a bs [] pos) (tIS X.K EX (exS cf fw (.for_ is (.seq a') bs'))) :=
 (Qi7 hp hc (QlG ha) hg hb (QfR hs _)).sub fun D τ H zq=>by
  obtain⟨ρ,σ,h,re,hr,q⟩:=zq
  rw[exS]at q
  refine⟨ρ,σ,h,re,hr,q.bnd.mono fun w h1 ρ1 H1 x1 hr1 q1 v r=>?_⟩
  have re1:=re.ext x1
  have lists:∀ (p:Addr) (ws:List W) (xs:List V),(∀ ρ2 H2,Ext ρ1 H1 ρ2 H2→SqL X.K H2 p xs)→RelL X.K ρ1 H1 ws xs→RQ X.K EX ρ1 H1 (fo is (exB cf fw bs') ws σ h1) (FlQ X.K D) →
    ∃ W:Nat→Nat→L2.St→Hp→Prop,(∃ m,W 0 m τ H1)∧∀ i m σ H,W i m σ H →
     ((Itl X.K p).stop i H∧D.nx σ H)∨((Itl X.K p).go i H∧∃ N:L2.St→Hp→Prop,(∀ σ' H',N σ' H'→∃ m',m'<m∧W (i+1) m' σ' H')∧∀ x H',(Itl X.K p).yld i H x H'→tGI X.K is x σ H' fun σ2 H2=>tIS X.K EX (exB cf fw bs') { D with nx:=N,ct:=N,bk:=D.nx } σ2 H2):=by
   intro p ws xs hq rs q
   refine Qk0 (fun i τ H=>∃ ρ σ h,Ext ρ1 H1 ρ H∧RelE X.K ρ H σ τ∧HRel X.K ρ h H∧RQ X.K EX ρ H (fo is (exB cf fw bs') (ws.drop i) σ h) (FlQ X.K D)) ⟨ρ1,σ,h1,.refl,re1,hr1,q⟩ (fun i τ2 H2 _ ⟨ρ2,_,_,x2,_⟩=>hq ρ2 H2 x2) ?_ ?_
   ·rintro i x τ2 H2 hi ⟨ρ2,σ2,h2,x2,re2,hr2,q2⟩
    obtain⟨w,e,rw'⟩:=(RelL.ext x2 ws xs rs).back hi
    rw[Qc0 e]at q2
    exact QeA re2 hr2 rw' q2 fun τ' H' ρ' σ' h' x re' hr' q'=>⟨ρ',σ',h',x2.trans x,re',hr',q'⟩
   ·rintro τ2 H2 ⟨ρ2,σ2,h2,x2,re2,hr2,q2⟩
    rw[List.drop_eq_nil_of_le (by rw[rs.length]<;>exact Nat.le_refl _)]at q2
    rw[fo]at q2
    exact RQ.here hr2 q2 _ re2
  cases w with
  |tup ws =>
   rw[Rel]at r
   obtain⟨p,xs,rfl,hq,rs⟩:=r
   refine .inr ⟨p,rfl,.inr (.inl ⟨⟨xs,hq.sq⟩,QlQ (fun i τ H=>∃ ρ σ h,Ext ρ1 H1 ρ H∧RelE X.K ρ H σ τ∧HRel X.K ρ h H∧RQ X.K EX ρ H (fo is (exB cf fw bs') (ws.drop i) σ h) (FlQ X.K D)) ⟨ρ1,σ,h1,.refl,re1,hr1,q1⟩ (fun i τ2 H2 _ ⟨ρ2,_,_,x2,_⟩=>(hq.ext x2).sq) ?_ ?_⟩)⟩
   ·rintro i x τ2 H2 hi ⟨ρ2,σ2,h2,x2,re2,hr2,q2⟩
    obtain⟨w,e,rw'⟩:=(RelL.ext x2 ws xs rs).back hi
    rw[Qc0 e]at q2
    exact QeA re2 hr2 rw' q2 fun τ' H' ρ' σ' h' x re' hr' q'=>⟨ρ',σ',h',x2.trans x,re',hr',q'⟩
   ·rintro τ2 H2 ⟨ρ2,σ2,h2,x2,re2,hr2,q2⟩
    rw[List.drop_eq_nil_of_le (by rw[rs.length]<;>exact Nat.le_refl _)]at q2
    rw[fo]at q2
    exact RQ.here hr2 q2 _ re2
  |dic ks ws =>
   rw[Rel]at r
   obtain⟨p,xs,rfl,n,hq,hl,rs⟩:=r
   refine .inr ⟨p,rfl,.inr (.inr ⟨_,hq,fun ob H2 z=>?_⟩)⟩
   have x0:=z.ext (K:=X.K) n
   have n2:=n
   refine QjS (fun i τ H=>∃ ρ σ h,Ext ρ1 H2 ρ H∧RelE X.K ρ H σ τ∧HRel X.K ρ h H∧RQ X.K EX ρ H (fo is (exB cf fw bs') ((ks.map W.str).drop i) σ h) (FlQ X.K D)) ⟨ρ1,σ,h1,.refl,re1.ext x0,z.rel n hr1,?_⟩ (fun i τ2 H3 _ ⟨ρ2,_,_,x2,_⟩=>x2.keepN z.1 n (fun _ y=>by cases y)) ?_ ?_
   ·exact RQ.wk x0 q1
   ·rintro i k v τ2 H3 hi ⟨ρ2,σ2,h2,x2,re2,hr2,q2⟩
    obtain⟨s,e1,e2⟩:∃ s,ks[i]?=some s∧k=Sum.inr s:=by
     have:=hi
     rw[List.getElem?_zip_eq_some,List.getElem?_map]at this
     obtain⟨h1,_⟩:=this
     cases e:ks[i]? with
     |none=>rw[e]at h1;cases h1
     |some s=>rw[e]at h1;exact⟨s,rfl,(Option.some.inj h1).symm⟩
    subst e2
    rw[Qc0 (w:=.str s) (by rw[List.getElem?_map,e1];rfl)]at q2
    exact QeA re2 hr2 QcM q2 fun τ' H' ρ' σ' h' x re' hr' q'=>⟨ρ',σ',h',x2.trans x,re',hr',q'⟩
   ·rintro τ2 H3 ⟨ρ2,σ2,h2,x2,re2,hr2,q2⟩
    rw[List.drop_eq_nil_of_le (by rw[List.length_zip,List.length_map,List.length_map,← hl,Nat.min_self];exact Nat.le_refl _)]at q2
    rw[fo]at q2
    exact RQ.here hr2 q2 _ re2
  |lst ws =>
   rw[Rel]at r
   obtain⟨p,xs,rfl,n,hq,rs⟩:=r
   exact .inr ⟨p,rfl,.inl ⟨⟨xs,.inl (.inl hq)⟩,lists p ws xs (fun ρ2 H2 x2=>.inl (.inl (x2.keepN hq n (fun _ z=>by cases z)))) rs q1⟩⟩
  |scr ws =>
   rw[Rel]at r
   obtain⟨p,xs,rfl,hq,rs⟩:=r
   exact .inr ⟨p,rfl,.inl ⟨⟨xs,hq.sq⟩,lists p ws xs (fun ρ2 H2 x2=>(hq.ext x2).sq) rs q1⟩⟩
  |ref n =>
   rw[Rel]at r
   obtain⟨p,rfl,hn⟩:=r
   have q0:RQ X.K EX ρ1 H1 (foC n is (exB cf fw bs') fw 0 σ h1) (FlQ X.K D):=q1
   have ex:∃ xs,H1 p=some (.lst xs):=by
    cases fw with
    |zero=>rw[foC]at q0;exact q0.elim
    |succ k =>
     rw[foC]at q0
     split at q0
     ·rename_i ws e
      obtain⟨_,xs,z,_⟩:=hr1.at_ n p _ hn e
      exact⟨xs,z⟩
     ·exact q0.elim
   obtain⟨xs0,hx0⟩:=ex
   refine .inr ⟨p,rfl,.inl ⟨⟨xs0,.inl (.inl hx0)⟩,fun i m τ H=>∃ ρ σ h,ρ[n]?=some p∧RelE X.K ρ H σ τ∧HRel X.K ρ h H∧RQ X.K EX ρ H (foC n is (exB cf fw bs') m i σ h) (FlQ X.K D),⟨fw,ρ1,σ,h1,hn,re1,hr1,q0⟩,?_⟩⟩
   rintro i m τ2 H2 ⟨ρ2,σ2,h2,hn2,re2,hr2,q2⟩
   cases m with
   |zero=>rw[foC]at q2;exact q2.elim
   |succ k =>
    rw[foC]at q2
    split at q2
    ·rename_i ws e
     obtain⟨_,xs,z,rs⟩:=hr2.at_ n p _ hn2 e
     split at q2
     ·rename_i e2
      refine .inl ⟨⟨xs,.inl (.inl z),?_⟩,RQ.here hr2 q2 _ re2⟩
      rw[← rs.length]
      exact List.getElem?_eq_none_iff.mp e2
     ·rename_i w e2
      obtain⟨x,ex,rx⟩:=rs.get e2
      refine .inr ⟨⟨xs,x,.inl (.inl z),ex⟩,fun τ' H'=>∃ ρ σ h,ρ[n]?=some p∧RelE X.K ρ H' σ τ'∧HRel X.K ρ h H'∧RQ X.K EX ρ H' (foC n is (exB cf fw bs') k (i+1) σ h) (FlQ X.K D),fun τ' H' z=>⟨k,Nat.lt_succ_self k,z⟩,fun x' H' y=>?_⟩
      obtain⟨rfl,y⟩:=y
      have e3:=y xs (.inl (.inl z))
      rw[ex]at e3;cases e3
      split at q2
      ·exact q2.elim
      ·rename_i σ' e4
       refine⟨ρ2,σ2,w,σ',re2,rx,e4,fun τ' re'=>⟨ρ2,σ',h2,re',hr2,q2.bnd.mono fun fl h3 ρ3 H3 x3 hr3 q3=>?_⟩⟩
       cases fl with
       |nx σ4=>exact fun τ4 re4=>⟨ρ3,σ4,h3,x3.at hn2,re4,hr3,q3⟩
       |cnt σ4=>exact fun τ4 re4=>⟨ρ3,σ4,h3,x3.at hn2,re4,hr3,q3⟩
       |brk σ4=>exact fun τ4 re4=>RQ.here hr3 q3 τ4 re4
       |ret w=>exact fun v r=>RQ.here hr3 q3 v r
    ·exact q2.elim
  |_=>exact q1.elim
theorem Qcb (cf:CF) (e:E) (σ:Qai) (h:Qac):evA cf [e] σ h=bnd (evE cf e σ h) fun w h=>.ok [w] h:=by
 rw[evA]
 cases evE cf e σ h with
 |ok w h1=>simp[bnd,evA]
 |exc c h1=>rfl
 |stuck=>rfl
theorem Qj7 (cf:CF) (e e2:E) (σ:Qai) (h:Qac):evA cf [e,e2] σ h=bnd (evE cf e σ h) fun w h=>bnd (evE cf e2 σ h) fun w2 h=>.ok [w,w2] h:=by
 rw[evA]
 cases evE cf e σ h with
 |ok w h1 =>
  have z:=Qcb cf e2 σ h1
  simp only[bnd]at z ⊢
  rw[z]
  cases evE cf e2 σ h1<;>rfl
 |exc c h1=>rfl
 |stuck=>rfl
theorem Qg7 {tg:Expr}{is:List Nat}{bs':List S}{lo:Int}{n:Nat}{D:Ends}{τ:L2.St}{ρ1:List Addr}{H1:Hp}{σ:Qai}{h1:Qac} (re1:RelE X.K ρ1 H1 σ τ) (hr1:HRel X.K ρ1 h1 H1)
  (q1:RQ X.K EX ρ1 H1 (fo is (exB cf fw bs') ((List.range n).map fun (k:Nat)=>W.int (lo+(k:Int))) σ h1) (FlQ X.K D)) :
  ∃ W:Nat→Nat→L2.St→Hp→Prop,(∃ m,W 0 m τ H1)∧∀ i m σ H,W i m σ H →
   ((Itr lo n).stop i H∧D.nx σ H)∨((Itr lo n).go i H∧∃ N:L2.St→Hp→Prop,(∀ σ' H',N σ' H'→∃ m',m'<m∧W (i+1) m' σ' H')∧∀ x H',(Itr lo n).yld i H x H'→tGI X.K is x σ H' fun σ2 H2=>tIS X.K EX (exB cf fw bs') { D with nx:=N,ct:=N,bk:=D.nx } σ2 H2):=by
 refine Qj8 (fun i τ H=>∃ ρ σ h,RelE X.K ρ H σ τ∧HRel X.K ρ h H∧RQ X.K EX ρ H (fo is (exB cf fw bs') (((List.range n).map fun (k:Nat)=>W.int (lo+(k:Int))).drop i) σ h) (FlQ X.K D))
  ⟨ρ1,σ,h1,re1,hr1,q1⟩ ?_ ?_
 ·rintro i τ2 H2 hi ⟨ρ2,σ2,h2,re2,hr2,q2⟩
  rw[Qc0 (w:=.int (lo+(i:Int))) (by simp[hi])]at q2
  exact QeA re2 hr2 Qbc q2 fun τ' H' ρ' σ' h' x re' hr' q'=>⟨ρ',σ',h',re',hr',q'⟩
 ·rintro τ2 H2 ⟨ρ2,σ2,h2,re2,hr2,q2⟩
  rw[List.drop_eq_nil_of_le (by simp)]at q2
  rw[fo]at q2
  exact RQ.here hr2 q2 _ re2
theorem s_rng1 {tg:Expr}{is:List Nat}{p p2:Pos}{bs:List Stmt}{bs':List S} (hp:PassesOwn (model X.prog X.w) X.A X.env X.xe) (hc:X.calm=true) (hgl:Gl X "range") (hm:X.mg "range"=none)
  (ha:PE X a (tI X.K EX (evE cf a'))) (hn:Qa1 a=true) (hg:PG X tg (tGI X.K is)) (hb:PSs X bs (tIS X.K EX (exB cf fw bs'))) :
  PS X (.For tg (.Call (.Name "range" p) [a] [] p2) bs [] pos) (tIS X.K EX (exS cf fw (.for_ is (.rng [a']) bs'))) :=
 (Qi7 hp hc (Qfx hgl hm (Qbo ha pa_nil (Qat hn _ _)) (Qat hn _ _)) hg hb (by intro _;rfl)).sub fun D τ H zq=>by
  obtain⟨ρ,σ,h,re,hr,q⟩:=zq
  rw[exS,Qcb,QaM]at q
  refine⟨ρ,σ,h,re,hr,q.bnd.mono fun w h1 ρ1 H1 x1 hr1 q1 v r=>?_⟩
  have q2:RQ X.K EX ρ1 H1 (match Qh9 [w] with | some ks=>fo is (exB cf fw bs') ks σ h1 | none=>.stuck) (FlQ X.K D):=q1
  cases w with
  |int j =>
   cases Qap r
   unfold Qh9 at q2
   dsimp only at q2
   split at q2
   ·rename_i ks ek
    split at ek
    ·rename_i hj
     cases ek
     exact⟨j,rfl,hj.1,hj.2,Qg7 (tg:=tg) (re.ext x1) hr1 q2⟩
    ·cases ek
   ·exact q2.elim
  |_=>exact q2.elim
theorem s_rng2 {tg:Expr}{is:List Nat}{p p2:Pos}{bs:List Stmt}{bs':List S} (hp:PassesOwn (model X.prog X.w) X.A X.env X.xe) (hc:X.calm=true) (hgl:Gl X "range") (hm:X.mg "range"=none)
  (ha:PE X a (tI X.K EX (evE cf a'))) (hb0:PE X b (tI X.K EX (evE cf b'))) (hn:Qa1 a=true) (hn2:Qa1 b=true) (hg:PG X tg (tGI X.K is)) (hb:PSs X bs (tIS X.K EX (exB cf fw bs'))) :
  PS X (.For tg (.Call (.Name "range" p) [a,b] [] p2) bs [] pos) (tIS X.K EX (exS cf fw (.for_ is (.rng [a',b']) bs'))) :=
 (Qi7 hp hc (Qf7 hgl hm (Qbo ha (Qbo hb0 pa_nil (Qat hn2 _ _)) (Qat hn _ _)) (by rw[Qat hn,Qat hn2];rfl) (by rw[Qat hn2];rfl)) hg hb (by intro _;rfl)).sub fun D τ H zq=>by
  obtain⟨ρ,σ,h,re,hr,q⟩:=zq
  rw[exS,Qj7,QaM]at q
  refine⟨ρ,σ,h,re,hr,q.bnd.mono fun w h1 ρ1 H1 x1 hr1 q1 v r=>?_⟩
  rw[QaM]at q1
  refine⟨ρ1,σ,h1,re.ext x1,hr1,q1.bnd.mono fun w2 h2 ρ2 H2 x2 hr2 q2 v2 r2=>?_⟩
  have r1:=Rel.ext x2 _ _ r
  have q3:RQ X.K EX ρ2 H2 (match Qh9 [w,w2] with | some ks=>fo is (exB cf fw bs') ks σ h2 | none=>.stuck) (FlQ X.K D):=q2
  unfold Qh9 at q3
  split at q3
  ·rename_i ks ek
   split at ek
   ·rename_i e;cases e
   ·rename_i i j e
    cases e
    cases Qap r1;cases Qap r2
    split at ek
    ·rename_i hj
     cases ek
     exact⟨i,j,rfl,hj,Qg7 (tg:=tg) ((re.ext x1).ext x2) hr2 q3⟩
    ·cases ek
   ·cases ek
  ·exact q3.elim
end
section
variable {X:Cx}{EX:EXT}{cf:CF}{fw:Nat}{pos:Pos}{a b c e:Expr}{a' b' c' e':E}
theorem Qhv {env:Env}{x y:Str}{px py pt:Pos}{kt k2:Nat}{pt2:Pos} (hk:env.scope.kind=.function) (hx:env.scope.names.lookup x=some .local) (hy:env.scope.names.lookup y=some .local) (hl:py.line=px.line) (hne:x≠y)
  (h1:Qa1 a=true) (h2:Qa1 b=true) (h3:(foldedForSure 8 a&&foldedForSure 8 b)=false) (h4:(constantsAlone 8 a&&constantsAlone 8 b)=false) :
  swappedStores [.Tuple [.Name x px,.Name y py] kt pt] (.Tuple [a,b] k2 pt2) env=pure (some [x,y]):=by
 have kx:(env.kindOf x == some NameKind.local)=true:=by simp[Env.kindOf,hx]
 have ky:(env.kindOf y == some NameKind.local)=true:=by simp[Env.kindOf,hy]
 have bk:env.blockKind=.function:=by unfold Env.blockKind;rw[hk];rfl
 have s1:(match a with | .Starred ..=>true | _=>false)=false:=by cases a<;>first | rfl | cases h1
 have s2:(match b with | .Starred ..=>true | _=>false)=false:=by cases b<;>first | rfl | cases h2
 have hne':¬ y=x:=fun z=>hne z.symm
 have kx':env.kindOf x=some NameKind.local:=hx
 have ky':env.kindOf y=some NameKind.local:=hy
 unfold swappedStores
 simp[bk,Expr.pos]
 rw[if_neg (by
  clear s1 s2
  rintro (h | h)
  ·split at h
   ·exact absurd h1 (by simp[Qa1])
   ·cases h
  ·split at h
   ·exact absurd h2 (by simp[Qa1])
   ·cases h)]
 simp only[List.filterMap,kx',ky',hl,and_self,if_true]
 rw[if_neg (by simp[List.eraseDups_cons,hne']),if_neg (by intro h;simp[h.1,h.2]at h3),if_neg (by intro h;simp[h.1,h.2]at h4)]
theorem s_par {i j:Nat}{x y:Str}{px py pt:Pos}{kt k2:Nat}{pt2:Pos} (hc:X.calm=true) (hN:X.N.Nodup) (hi:X.N[i]?=some x) (hj:X.N[j]?=some y) (hij:i≠j) (hk:X.env.scope.kind=.function)
  (hx:X.env.scope.names.lookup x=some .local) (hy:X.env.scope.names.lookup y=some .local) (hl:py.line=px.line) (h1:Qa1 a=true) (h2:Qa1 b=true) (h3:(foldedForSure 8 a&&foldedForSure 8 b)=false) (h4:(constantsAlone 8 a&&constantsAlone 8 b)=false)
  (ha:PE X a (tI X.K EX (evE cf a'))) (hb:PE X b (tI X.K EX (evE cf b'))) :
  PS X (.Assign [.Tuple [.Name x px,.Name y py] kt pt] (.Tuple [a,b] k2 pt2) pos) (tIS X.K EX (exS cf fw (.par i j a' b'))):=by
 have hne:x≠y:=by
  rintro rfl
  exact hij ((List.getElem?_inj (List.getElem?_eq_some_iff.mp hi).1 hN).mp (hi.trans hj.symm))
 refine(ps_par hc hN hi hj hij hx hy (Qbo ha (Qbo hb pa_nil (Qat h2 _ _)) (Qat h1 _ _)) (Qhv hk hx hy hl hne h1 h2 h3 h4)).sub fun D τ H zq=>?_
 obtain⟨ρ,σ,h,re,hr,q⟩:=zq
 rw[exS]at q
 refine⟨ρ,σ,h,re,hr,q.bnd.mono fun w h1 ρ1 H1 x1 hr1 q1 v r=>?_⟩
 refine⟨ρ1,σ,h1,re.ext x1,hr1,q1.bnd.mono fun w2 h2 ρ2 H2 x2 hr2 q2 v2 r2=>?_⟩
 exact⟨v,v2,rfl,RQ.here hr2 q2 _ ((((re.ext x1).ext x2).set i (Rel.ext x2 _ _ r)).set j r2)⟩
noncomputable def Qma (e:Expr):Bool:=match e with
 |.Tuple ..=>false
 |_=>true
theorem Qmo {es:List Expr}{k:Nat}{pt:Pos} (h:Qma e=true) (env:Env):swappedStores [.Tuple es k pt] e env=pure none:=by
 cases e<;>first | rfl | cases h
theorem s_unp {es:List Expr}{is:List Nat}{k:Nat}{pt:Pos} (hg:PG X (.Tuple es k pt) (tGI X.K is)) (h2:is.length≠1) (he:PE X e (tI X.K EX (evE cf e'))) (hc:QbZ e=true) (ht:Qma e=true) :
  PS X (.Assign [.Tuple es k pt] e pos) (tIS X.K EX (exS cf fw (.unp is e'))):=(Qlu he hg (by unfold swapsWithSole;exact Qdn hc _ _ _) (Qmo ht _) rfl).sub fun D τ H zq=>by
 obtain⟨ρ,σ,h,re,hr,q⟩:=zq
 rw[exS]at q
 refine⟨ρ,σ,h,re,hr,q.bnd.mono fun w h1 ρ1 H1 x1 hr1 q1 v r=>?_⟩
 split at q1
 ·rename_i ws
  split at q1
  ·rename_i σ' e
   refine⟨ρ1,σ,.tup ws,σ',re.ext x1,r,?_,fun τ' re'=>RQ.here hr1 q1 τ' re'⟩
   unfold QaG
   split
   ·exact absurd rfl h2
   ·exact e
  ·exact q1.elim
 ·rename_i ws
  split at q1
  ·rename_i σ' e
   refine⟨ρ1,σ,.lst ws,σ',re.ext x1,r,?_,fun τ' re'=>RQ.here hr1 q1 τ' re'⟩
   unfold QaG
   split
   ·exact absurd rfl h2
   ·exact e
  ·exact q1.elim
 ·exact q1.elim
noncomputable def tIF (K:PySem.W.Frag) (EX:EXT) (ev:Qai→Qac→Res (List W)):TE:=fun τ H Q =>
 ∃ ρ σ h,RelE K ρ H σ τ∧HRel K ρ h H∧RQ K EX ρ H (ev σ h) fun ws _ ρ' H'=>∀ xs l,RelL K ρ' H' ws xs→H' l=none→Q (.ref l) (upd H' l (.lst xs))
theorem QmN {i:Nat}{x:Str}{p:Pos} (hN:X.N.Nodup) (hi:X.N[i]?=some x) (hx:Loc X.env.scope x) (hf:X.fn x=true∨X.env.scope.names.lookup x=some .local) (he:PE X e (tIF X.K EX (evF cf e'))) (hc:QbZ e=true) :
  PS X (.Assign [.Name x p] e pos) (tIS X.K EX (exS cf fw (.fresh i e'))):=(QeN hN hi hx he (Qdn hc _ _ _) hf).sub fun D τ H zq=>by
 obtain⟨ρ,σ,h,re,hr,q⟩:=zq
 rw[exS]at q
 refine⟨ρ,σ,h,re,hr,q.bnd.mono fun ws h1 ρ1 H1 x1 hr1 q1 xs l rs n=>?_⟩
 split at q1
 ·rename_i hpure
  have y:=ext_cell (o:=.lst xs) hr1 n
  refine q1 _ _ y (hr1.cell n hpure rs) _ (((re.ext x1).ext y).set i ?_)
  rw[Rel]
  exact⟨l,rfl,by rw[← hr1.len,List.getElem?_append_right (Nat.le_refl _)];simp⟩
 ·exact q1.elim
theorem f_lst {es:List Expr}{es':List E} (h:PA X es (tIA X.K EX (evA cf es'))):PE X (.List es pos) (tIF X.K EX (evF cf (.lst es'))):=(Qlr h).sub fun τ H Q zq=>by
 obtain⟨ρ,σ,h,re,hr,q⟩:=zq
 rw[evF]at q
 refine⟨ρ,σ,h,re,hr,q.bnd.mono fun ws h1 ρ1 H1 x1 hr1 q1 vs rs=>?_⟩
 split at q1
 ·rename_i hl
  exact⟨by rw[← rs.length];exact hl,fun l n=>RQ.here hr1 q1 _ _ rs n⟩
 ·exact q1.elim
noncomputable def rF (K:PySem.W.Frag) (EX:EXT) (f:W→W→Qac→Res (List W)):R2:=fun x y H Q =>
 ∃ ρ h w1 w2,HRel K ρ h H∧Rel K ρ H w1 x∧Rel K ρ H w2 y∧RQ K EX ρ H (f w1 w2 h) fun ws _ ρ' H'=>∀ xs l,RelL K ρ' H' ws xs→H' l=none→Q (.ref l) (upd H' l (.lst xs))
theorem twoF {K:PySem.W.Frag}{ea eb:Qai→Qac→Res W}{f:W→W→Qac→Res (List W)}{τ:L2.St}{H:Hp}{Q:VK}
  (q:tIF K EX (fun σ h=>bnd (ea σ h) fun x h=>bnd (eb σ h) fun y h=>f x y h) τ H Q):tOp (rF K EX f) (tI K EX ea) (tI K EX eb) τ H Q:=by
 obtain⟨ρ,σ,h,re,hr,q⟩:=q
 refine⟨ρ,σ,h,re,hr,q.bnd.mono fun w1 h1 ρ1 H1 x1 hr1 q1 v1 r1=>?_⟩
 refine⟨ρ1,σ,h1,re.ext x1,hr1,q1.bnd.mono fun w2 h2 ρ2 H2 x2 hr2 q2 v2 r2=>?_⟩
 exact⟨ρ2,h2,w1,w2,hr2,Rel.ext x2 _ _ r1,r2,q2⟩
theorem f_mul (ha:PE X a (tI X.K EX (evE cf a'))) (hb:PE X b (tI X.K EX (evE cf b'))):PE X (.BinOp a .Mult b pos) (tIF X.K EX (evF cf (.bin .Mult a' b'))):=by
 have ho:OpR X (binaryOp .Mult) (rF X.K EX fun x y h=>match y with | .int j=>repL (Qc5 h x) j h | _=>.stuck):=by
  intro pins s σ H x y v u Q I rx ry ⟨ρ,h,w1,w2,hr,r1,r2,q⟩
  cases w2 with
  |int j =>
   cases Qap r2
   cases e:Qc5 h w1 with
   |none=>simp only[e,repL]at q;exact q.elim
   |some ws =>
    simp only[e,repL]at q
    split at q
    ·rename_i hm
     obtain⟨l,xs,rfl,e1,s1⟩:=Qbk hr e r1
     exact(Qlw (X:=X)) pins s σ H _ _ v u Q I rx ry ⟨l,j,xs,rfl,rfl,e1,hm.1,hm.2.1,by rw[← s1.length];exact hm.2.2,fun p n=>RQ.here hr q _ _ (s1.flatrep _) n⟩
    ·exact q.elim
  |_=>exact q.elim
 exact(QmM ho ha hb).sub fun τ H Q q=>twoF (by
  obtain⟨ρ,σ,h,re,hr,q⟩:=q
  rw[evF]at q
  exact⟨ρ,σ,h,re,hr,q⟩)
theorem f_add (ha:PE X a (tI X.K EX (evE cf a'))) (hb:PE X b (tI X.K EX (evE cf b'))):PE X (.BinOp a .Add b pos) (tIF X.K EX (evF cf (.bin .Add a' b'))):=by
 have ho:OpR X (binaryOp .Add) (rF X.K EX fun x y h=>QfO (Qc5 h x) (Qc5 h y) h):=by
  intro pins s σ H x y v u Q I rx ry ⟨ρ,h,w1,w2,hr,r1,r2,q⟩
  cases e:Qc5 h w1 with
  |none=>simp only[e,QfO]at q;exact q.elim
  |some ws =>
   cases e':Qc5 h w2 with
   |none=>simp only[e,e',QfO]at q;exact q.elim
   |some us =>
    simp only[e,e',QfO]at q
    split at q
    ·rename_i hm
     obtain⟨l,xs,rfl,e1,s1⟩:=Qbk hr e r1
     obtain⟨l2,ys,rfl,e2,s2⟩:=Qbk hr e' r2
     exact(Qlp (X:=X)) pins s σ H _ _ v u Q I rx ry ⟨l,l2,xs,ys,rfl,rfl,e1,e2,by rw[← s1.length,← s2.length];exact hm,fun p n=>RQ.here hr q _ _ (s1.append s2) n⟩
    ·exact q.elim
 exact(QmM ho ha hb).sub fun τ H Q q=>twoF (by
  obtain⟨ρ,σ,h,re,hr,q⟩:=q
  rw[evF]at q
  exact⟨ρ,σ,h,re,hr,q⟩)
theorem f_list {p:Pos} (hg:Gl X "list") (hm:X.mg "list"=none) (ha:PE X a (tI X.K EX (evE cf a'))) (hs:Qa1 a=true):PE X (.Call (.Name "list" p) [a] [] pos) (tIF X.K EX (evF cf (.blt .list [a']))) :=
 (QbN QcH hg hm PyProof.Rows.boot_list (Qbo ha pa_nil (Qat hs _ _)) (by decide +kernel) (by decide +kernel) (Qat hs _ _) (by rfl)).sub fun τ H Q zq=>by
  obtain⟨ρ,σ,h,re,hr,q⟩:=zq
  rw[evF]at q
  refine⟨ρ,σ,h,re,hr,q.bnd.mono fun w h1 ρ1 H1 x1 hr1 q1 v r=>?_⟩
  split at q1
  ·rename_i us e
   obtain⟨p,ys,rfl,hq,rs⟩:=QbC hr1 e r
   exact⟨p,ys,rfl,hq,fun l n=>RQ.here hr1 q1 _ _ rs n⟩
  ·exact q1.elim
theorem QkX {i:Nat}{x:Str}{p dp:Pos} (hN:X.N.Nodup) (hi:X.N[i]?=some x) (hx:Loc X.env.scope x) (hf:X.fn x=true∨X.env.scope.names.lookup x=some .local) :
  PS X (.Assign [.Name x p] (.Dict [] [] dp) pos) (tIS X.K EX (exS cf fw (.freshD i))):=(QeN hN hi hx QjT rfl hf).sub fun D τ H zq=>by
 obtain⟨ρ,σ,h,re,hr,q⟩:=zq
 rw[exS]at q
 intro a n
 have x1:=ext_cell (o:=.dK []) hr n
 refine q _ _ x1 (hr.cellD n) _ ((re.ext x1).set i ?_)
 rw[Rel]
 exact⟨a,rfl,by rw[← hr.len,List.getElem?_append_right (Nat.le_refl _),Nat.sub_self];rfl⟩
theorem QiF {i:Nat}{x:Str}{p dp:Pos} (hN:X.N.Nodup) (hi:X.N[i]?=some x) (hx:Loc X.env.scope x) (hf:X.fn x=true∨X.env.scope.names.lookup x=some .local) (ha:PE X a (tI X.K EX (evE cf a'))) (hb:PE X b (tI X.K EX (evE cf b'))) :
  PS X (.Assign [.Name x p] (.Dict [some a] [b] dp) pos) (tIS X.K EX (exS cf fw (.freshD1 i a' b'))) :=
 (QeN hN hi hx (QmP (Qla ha hb QlV) rfl rfl (by simp) (by simp)) rfl hf).sub fun D τ H zq=>by
 obtain⟨ρ,σ,h,re,hr,q⟩:=zq
 rw[exS]at q
 intro l n
 have x0:=ext_cell (o:=.dK []) hr n
 have hr0:=hr.cellD n
 have hl0:(ρ++[l])[h.length]?=some l:=by rw[← hr.len,List.getElem?_append_right (Nat.le_refl _),Nat.sub_self];rfl
 refine⟨_,σ,_,re.ext x0,hr0,(RQ.wk x0 q).bnd.mono fun w1 h1 ρ1 H1 x1 hr1 q1 v1 r1=>?_⟩
 refine⟨ρ1,σ,h1,(re.ext x0).ext x1,hr1,q1.bnd.mono fun w2 h2 ρ2 H2 x2 hr2 q2 v2 r2=>?_⟩
 have hl2:=x2.at (x1.at hl0)
 split at q2
 ·rename_i s e
  obtain⟨_,xs,z,zl,rs⟩:=hr2.at_ _ l _ hl2 e
  cases Qaw (Rel.ext x2 _ _ r1)
  cases xs with
  |cons _ _=>cases zl
  |nil =>
  split at q2
  ·rename_i hp
   refine⟨z,[(Sum.inr s,v2)],rfl,by show 1≤15;decide,?_⟩
   have x3:=ext_write (H:=H2) (o:=.dK (([s].map Sum.inr).zip [v2])) hl2
   refine q2 _ _ x3 (hr2.writeD hl2 (by rw[Qam,hp];rfl) rfl (.cons r2 .nil)) _ ((((re.ext x0).ext x1).ext x2).ext x3 |>.set i ?_)
   rw[Rel]
   exact⟨l,rfl,hl2⟩
  ·exact q2.elim
 ·exact q2.elim
noncomputable def rSetB:TSet:=fun o i v H Q=>rSetL o i v H Q∨∃ a y H',o=.ref a∧i=y∧DPut H a y v H'∧Q H'
theorem Qko (hu:X.A.units+64<cLine):PSet X rSetB:=by
 intro pins s σ H o i v ov iv u Q I ro ri rv h
 rcases h with h | ⟨a,y,H',rfl,rfl,g,q⟩
 ·exact Qlc pins s σ H o i v ov iv u Q I ro ri rv h
 ·cases ro
  exact QiA (Nat.lt_trans (by omega) hu) I g ri rv fun s' I'=>⟨H',I',q⟩
theorem Qft:∀ {ks:List Str}{ws:List W}{x:Str}{w:W},Qam ws=true→Qan w=true→Qam (QhG ks ws x w)=true
 |[],ws,x,w,h,_=>by unfold QhG;exact h
 |k::ks,[],x,w,h,_=>by unfold QhG;exact h
 |k::ks,u::ws,x,w,h,hw=>by
  rw[Qam,Bool.and_eq_true]at h
  unfold QhG
  rw[Qam,Qft h.2 hw]
  split
  ·rw[hw];rfl
  ·rw[h.1];rfl
theorem QcW {ws:List W}{w:W} (h1:Qam ws=true) (h2:Qan w=true):Qam (ws++[w])=true:=by
 induction ws with
 |nil=>show Qam [w]=true;rw[Qam,h2];rfl
 |cons u us ih =>
  rw[Qam,Bool.and_eq_true]at h1
  show Qam (u::(us++[w]))=true
  rw[Qam,h1.1,ih h1.2];rfl
theorem QjC {ks:List Str}{ws:List W}{x:Str}{w:W} (h:Qam ws=true) (hw:Qan w=true):Qam (QfL ks ws x w).2=true:=by
 unfold QfL
 split
 ·exact Qft h hw
 ·exact QcW h hw
theorem Qnm {p:Pos} (hu:X.A.units+64<cLine) (ha:PE X a (tI X.K EX (evE cf a'))) (hb:PE X b (tI X.K EX (evE cf b'))) (he:PE X e (tI X.K EX (evE cf e'))) (hc:QbZ e=true) (hpl:QcC b=true) :
  PS X (.Assign [.Subscript a b p] e pos) (tIS X.K EX (exS cf fw (.setix a' b' e'))):=by
 have hst:swappedStores [.Subscript a b p] e X.env=pure none:=by cases e<;>rfl
 refine(Qlu he (pg_sub ha hb (Qko hu) (by intro _;cases b<;>first | rfl | (unfold assign;rfl) | (exact absurd hpl (by simp[QcC])))) (by unfold swapsWithSole;exact Qdn hc _ _ _) hst rfl).sub fun D τ H zq=>?_
 obtain⟨ρ,σ,h,re,hr,q⟩:=zq
 rw[exS]at q
 refine⟨ρ,σ,h,re,hr,q.bnd.mono fun w h1 ρ1 H1 x1 hr1 q1 v r=>?_⟩
 refine⟨ρ1,σ,h1,re.ext x1,hr1,q1.bnd.mono fun w2 h2 ρ2 H2 x2 hr2 q2 v2 r2=>?_⟩
 refine⟨ρ2,σ,h2,(re.ext x1).ext x2,hr2,q2.bnd.mono fun w3 h3 ρ3 H3 x3 hr3 q3 v3 r3=>?_⟩
 have re3:=((re.ext x1).ext x2).ext x3
 have rv:=Rel.ext x3 _ _ (Rel.ext x2 _ _ r)
 have ro:=Rel.ext x3 _ _ r2
 split at q3
 ·rename_i n k
  cases Qap r3
  rw[Rel]at ro
  obtain⟨l,rfl,hn⟩:=ro
  split at q3
  ·rename_i us e
   obtain⟨pu,xs,z,rs⟩:=hr3.at_ n l _ hn e
   split at q3
   ·rename_i hpure
    split at q3
    ·rename_i j ej
     refine .inl ⟨l,xs,k,j,rfl,rfl,z,by rw[← rs.length];exact ej,?_⟩
     have pw:Qam (us.set j w)=true:=by
      clear ej q3 e rs
      induction us generalizing j with
      |nil=>exact pu
      |cons u us ih =>
       rw[Qam,Bool.and_eq_true]at pu
       cases j with
       |zero=>show Qam (w::us)=true;rw[Qam,hpure,pu.2];rfl
       |succ j=>show Qam (u::us.set j w)=true;rw[Qam,pu.1,ih pu.2];rfl
     exact q3 _ _ (ext_write hn) (hr3.write hn pw (rs.set j rv)) _ (re3.ext (ext_write hn))
    ·exact q3.elim
   ·exact q3.elim
  ·exact q3.elim
 ·rename_i n k
  cases Qaw r3
  rw[Rel]at ro
  obtain⟨l,rfl,hn⟩:=ro
  split at q3
  ·rename_i ks us e
   obtain⟨pu,xs,z,zl,rs⟩:=hr3.at_ n l _ hn e
   split at q3
   ·rename_i hp
    obtain⟨ys,e1,e2,e3⟩:=QjY (x:=k) zl rs rv
    have hlen:((ks.map Sum.inr).zip xs:List (Key×V)).length<sizeLine:=by rw[List.length_zip,List.length_map,← zl,Nat.min_self];exact hp.2
    refine .inr ⟨l,.str k,_,rfl,rfl,DPut.k (k:=Sum.inr k) z hlen,?_⟩
    rw[e1]
    exact q3 _ _ (ext_write hn) (hr3.writeD hn (QjC pu hp.1) e2 e3) _ (re3.ext (ext_write hn))
   ·exact q3.elim
  ·exact q3.elim
 ·exact q3.elim
end
section
variable {X:Cx}{EX:EXT}{cf:CF}{fw:Nat}{pos:Pos}{a b c e:Expr}{a' b' c' e':E}
end
structure XAt (l:List Env) (ha h:Heap) (e:Addr) (C:Value):Prop where
 no:ha.get? e=none
 fly:(∃ (B:Heap) (a0:Value),B.FlyingW l e C a0 h∧(∀ b o,ha.get? b=some o→b∉frs l→B.get? b=some o))∧(∀ b o,ha.get? b=some o→b∈frs l→∃ sl,h.get? b=some { o with slots:=sl })
theorem HOk.same {P:Program}{w:World}{fs:List Addr}{H:Hp}{h h':Heap} (ok:HOk P w H h) (k:∀ b o,h.get? b=some o→b∉fs→h'.get? b=some o) (n:∀ b∈fs,H b=none):HOk P w H h':=fun b u e =>
 (ok b u e).stay (fun c v hc q=>k c v q (fun m=>by
  rcases hc with rfl | hc
  ·rw[n _ m]at e;cases e
  ·rw[n c m]at hc;cases hc)) (fun _ q=>q) fun _ _ q=>q
noncomputable def XS (X:Cx) (pins:List (Addr×Obj)) (σ:L2.St) (H:Hp) (s:Shared) (e:Addr) (C:Value):Prop :=
 ∃ sa,Inv X pins σ H sa∧s.os=sa.os∧AllBare s.gens∧XAt X.stack sa.heap s.heap e C
section
variable {X:Cx}{pins:List (Addr×Obj)}{σ:L2.St}{H:Hp}{s:Shared}{e:Addr}{C:Value}
noncomputable def CXJ (P:Program) (w:World):CXT:=fun outer H s E e s'=>∃ ea C H' ha,e=.ref ea∧s'.os=s.os∧AllBare s'.gens∧Un (frs outer) [] H H' s.heap ha∧HOk P w H' ha∧XAt outer ha s'.heap ea C∧E C none H'
theorem Qn4 {E:XK}{ev:Value}{s':Shared} (I:Inv X pins σ H s) (h:CXJ X.prog X.w X.stack H s E ev s'):∃ ea C H',ev=.ref ea∧XS X pins σ H' s' ea C∧E C none H':=by
 obtain⟨ea,C,H',ha,rfl,os,bare,un,hok,x,q⟩:=h
 have I2:Inv X pins σ H' { s with heap:=ha }:=I.call' (s':={ s with heap:=ha }) (ch:=[]) rfl un hok I.bare (fun b z=>absurd z (by simp))
 exact⟨ea,C,H',rfl,⟨_,I2,os,bare,x⟩,q⟩
theorem Qlh {h h':Heap}{l:List Env}{B:Heap} (up:h.UpToSlots h') (ff:h.FunFrames B l) {b:Addr}{o:Obj} (m:b∈frs l) (e:h.get? b=some o):∃ sl,h'.get? b=some { o with slots:=sl }:=by
 obtain⟨_,o',e',d⟩:=ff.mem m
 rw[e]at e';cases e'
 exact up b o e d
theorem QbM {h:Heap}{as:List Addr}{b:Addr}{o:Obj} (e:h.get? b=some o) (n:b∉as):(PySem.W.hideAll h as).get? b=some o:=PySem.W.hideAll_get as e n
end
theorem QhX {CX:CXT}{P:Program}{w:World}{A:Around}{env:Env}{outer:List Env}{L:Addr}{H H':Hp}{s s1:Shared}{E:XK}{e:Addr}{C:Value}{ha:Heap}{E2:Value→Shared→Prop}
  (hf:A.frames=some (env::outer)) (hL:env.frame=some L) (hn:s.heap.get? L=none) (hN:∀ b∈frs outer,H' b=none) (hL0:H' L=none) (hLo:L∉frs outer)
  (un:Un (frs outer) [] H H' s.heap ha) (hok:HOk P w H' ha) (os:s1.os=s.os) (bare:AllBare s1.gens) (x:XAt (env::outer) ha s1.heap e C) (q:E C none H') :
  wpAny (model P w) A (leaving env (.ref e)) (fun _ s''=>CXJ P w outer H s E (.ref e) s'') E2 s1:=by
 obtain⟨⟨B,a0,f,k⟩,sl⟩:=x.fly
 have frs_cons:frs (env::outer)=L::frs outer:=by unfold frs;simp[hL]
 refine wpAny_leaves_onW hf hL f fun h' f' up=>?_
 refine⟨e,C,H',PySem.W.hideAll ha [L],rfl,os,bare,?_,?_,⟨?_,⟨B,a0,f',fun b o hb m=>?_⟩,fun b o hb m=>?_⟩,q⟩
 ·have hid:∀ b o,s.heap.get? b=some o→∀ o',ha.get? b=some o'→(PySem.W.hideAll ha [L]).get? b=some o':=fun b o e o' e'=>QbM e' (by simp;rintro rfl;rw[hn]at e;cases e)
  exact⟨fun b o e n m c=>hid b o e _ (un.keep b o e n m c),fun b o e n m c=>let ⟨sl,z⟩:=un.slot b o e n m c;⟨sl,hid b o e _ z⟩,un.free,fun b o e c=>let ⟨o',z⟩:=un.there b o e c;⟨o',hid b o e _ z⟩,un.tups,un.frzs,un.tbls⟩
 ·exact HOk.same (fs:=[L]) hok (fun b o hb m=>QbM hb m) (fun b hb=>by rw[List.mem_singleton.mp hb];exact hL0)
 ·cases z:(PySem.W.hideAll ha [L]).get? e with
  |none=>rfl
  |some o=>have:=PySem.W.of_hideAll _ z;rw[x.no]at this;cases this
 ·have hb':=PySem.W.of_hideAll _ hb
  refine k b o hb' ?_
  rw[frs_cons]
  intro z
  rcases List.mem_cons.mp z with rfl | z
  ·have:=PySem.W.hideAll_none [b] (h:=ha) (b:=b) (by simp)
   rw[this]at hb;cases hb
  ·exact m z
 ·have hb':=PySem.W.of_hideAll _ hb
  have m':b∈frs (env::outer):=by rw[frs_cons];exact List.mem_cons_of_mem _ m
  obtain⟨sl1,z1⟩:=sl b o hb' m'
  obtain⟨sl2,z2⟩:=Qlh (l:=env::outer) up f.2.2.1 m' z1
  exact⟨sl2,z2⟩
abbrev bmV:List Value:=[.type "ValueError",.type "Exception",.type "BaseException",.type "object"]
abbrev newV:String:="ValueError.__new__"
structure Eo (h:Heap) (C:Addr) (bm:List Value):Prop where
 obj:∃ N nm q bs hdct sn sub ab col dd k0 k1 k2 k3 k5 mN,h.get? C=some (excClassObj nm q C N bs bm hdct sn sub ab col dd k0 k1 k2 k3 k5 newV)∧h.Ns N mN∧mN "__init__"=none∧OwnTail h bmV bm
theorem QfJ {h B B':Heap}:∀ {l:List Env},(∀ L∈frs l,B'.get? L=none)→h.FunFrames B l→h.FunFrames B' l
 |[],_,f=>f
 |env::l,n,f=>by
  unfold Heap.FunFrames at f ⊢
  obtain⟨h1,⟨L,o,h2,h3,h4⟩,h5⟩:=f
  have fc:frs (env::l)=L::frs l:=by unfold frs;simp[h2]
  exact⟨h1,⟨L,o,h2,n L (by rw[fc];exact List.mem_cons_self),h4⟩,QfJ (fun b hb=>n b (by rw[fc];exact List.mem_cons_of_mem _ hb)) h5⟩
theorem Qhw {P:Program}{w:World}{A:Around}{env:Env}{outer:List Env}{L:Addr}{H H':Hp}{s s2:Shared}{h1 B0:Heap}{E:XK}{e:Addr}{C:Value}{args:List Value}{E2:Value→Shared→Prop}
  (hf:A.frames=some (env::outer)) (hL:env.frame=some L) (hn:s.heap.get? L=none) (hL0:H' L=none)
  (ff:s2.heap.FunFrames B0 (env::outer)) (un:Un (frs outer) [] H H' s.heap s2.heap) (hok:HOk P w H' s2.heap) (os:s2.os=s.os) (bare:AllBare s2.gens) (x:s2.heap.MadeExcOf h1 e C args) (q:E C none H') :
  wpAny (model P w) A (leaving env (.ref e)) (fun _ s''=>CXJ P w outer H s E (.ref e) s'') E2 { s2 with heap:=h1 }:=by
 have fc:frs (env::outer)=L::frs outer:=by unfold frs;simp[hL]
 have ff2:=QfJ (B':=PySem.W.hideAll s2.heap (frs (env::outer))) (fun b hb=>PySem.W.hideAll_none _ hb) ff
 refine wpAny_leaves_madeW (base:=PySem.W.hideAll s2.heap (frs (env::outer))) hf hL (fun b o hb=>PySem.W.of_hideAll _ hb) ff2 x fun h' t f' _ _ up=>?_
 refine⟨e,C,H',PySem.W.hideAll s2.heap [L],rfl,os,bare,?_,?_,⟨?_,⟨_,_,f',fun b o hb m=>?_⟩,fun b o hb m=>?_⟩,q⟩
 ·have hid:∀ b o,s.heap.get? b=some o→∀ o',s2.heap.get? b=some o'→(PySem.W.hideAll s2.heap [L]).get? b=some o':=fun b o e o' e'=>QbM e' (by simp;rintro rfl;rw[hn]at e;cases e)
  exact⟨fun b o e n m c=>hid b o e _ (un.keep b o e n m c),fun b o e n m c=>let ⟨sl,z⟩:=un.slot b o e n m c;⟨sl,hid b o e _ z⟩,un.free,fun b o e c=>let ⟨o',z⟩:=un.there b o e c;⟨o',hid b o e _ z⟩,un.tups,un.frzs,un.tbls⟩
 ·exact HOk.same (fs:=[L]) hok (fun b o hb m=>QbM hb m) (fun b hb=>by rw[List.mem_singleton.mp hb];exact hL0)
 ·cases z:(PySem.W.hideAll s2.heap [L]).get? e with
  |none=>rfl
  |some o=>have:=PySem.W.of_hideAll _ z;rw[x.new]at this;cases this
 ·have hb':=PySem.W.of_hideAll _ hb
  refine QbM hb' ?_
  rw[fc]
  intro z
  rcases List.mem_cons.mp z with rfl | z
  ·have:=PySem.W.hideAll_none [b] (h:=s2.heap) (b:=b) (by simp)
   rw[this]at hb;cases hb
  ·exact m z
 ·have hb':=PySem.W.of_hideAll _ hb
  have m':b∈frs (env::outer):=by rw[fc];exact List.mem_cons_of_mem _ m
  obtain⟨_,o',e',d⟩:=ff2.mem m'
  rw[hb']at e';cases e'
  exact up b o (x.keeps b o hb') d
noncomputable def XL (cl:Nat→Addr) (X:Cx) (EX:EXT):Prop:=∀ pins σ H s e c h ρ,XS X pins σ H s e (.ref (cl c))→HRel X.K ρ h H→EX c h ρ H→X.xe (.ref e) s
noncomputable def XM (cl:Nat→Addr) (X:Cx) (EX:EXT):Prop:=∀ pins σ H s h1 e c h ρ args,Inv X pins σ H s→s.heap.MadeExcOf h1 e (.ref (cl c)) args→HRel X.K ρ h H→EX c h ρ H→X.xe (.ref e) { s with heap:=h1 }
theorem XL.no {cl:Nat→Addr}{X:Cx}{EX:EXT} (h:∀ c h ρ H,¬ EX c h ρ H):XL cl X EX:=fun pins σ H s e c h' ρ _ _ z=>(h c h' ρ H z).elim
section
variable {P:Program}{w:World}{K:PySem.W.Frag}{mg:Str→Option Value}{base:Heap}{N:List Str}{qual:Str}{scope:Scope}{f:Addr}{cd:Value}{A:Around}{outer:List Env}{s:Shared}{H:Hp}{E:XK}{cl:Nat→Addr}
theorem xl_fn:XL cl (Qkb (CXJ P w) P w K mg base N qual scope f cd A outer s H E) (fun c _ _ H'=>E (.ref (cl c)) none H'):=by
 intro pins σ H1 s1 e c h ρ ⟨sa,I,os,bare,x⟩ _ q
 have hn:s.heap.get? s.heap.objs.size=none:=Heap.get?_none_of_le (Nat.le_refl _)
 exact QhX (CX:=CXJ P w) (env:=envOfC qual scope s.heap.objs.size f cd) (L:=s.heap.objs.size) (H:=H) (s:=s) (ha:=sa.heap) I.ok.frames rfl hn (fun b hb=>I.stkFree b (by show b∈frs (_::outer);unfold frs at hb ⊢;rw[List.filterMap_cons];split<;>first | exact hb | exact List.mem_cons_of_mem _ hb)) I.free (fun z=>by
  obtain⟨_,o,ho,_⟩:=I.ok.funs.mem z
  rw[show (Qkb (CXJ P w) P w K mg base N qual scope f cd A outer s H E).s₀=s from rfl,hn]at ho;cases ho) I.base I.hok (os.trans I.os) bare x q
theorem xm_fn:XM cl (Qkb (CXJ P w) P w K mg base N qual scope f cd A outer s H E) (fun c _ _ H'=>E (.ref (cl c)) none H'):=by
 intro pins σ H1 s1 h1 e c h ρ args I x _ q
 have hn:s.heap.get? s.heap.objs.size=none:=Heap.get?_none_of_le (Nat.le_refl _)
 exact Qhw (env:=envOfC qual scope s.heap.objs.size f cd) (L:=s.heap.objs.size) (H:=H) (s:=s) I.ok.frames rfl hn I.free I.stack I.base I.hok I.os I.bare x q
end
section
variable {X:Cx}{EX:EXT}{cf:CF}{fw:Nat}{pos:Pos}{a b c e:Expr}{a' b' c' e':E}
noncomputable def Qgk (e:Expr):Bool:=match e with
 |.Call (.Name _ _) [] [] _=>false
 |_=>true
theorem Qex {o:Expr} (h:Qgk o=true) (n:Str) (env:Env) (w:Sem Value):attributeBase o n env w=w:=by
 unfold attributeBase
 split
 ·cases h
 ·rfl
theorem QdQ {us:List W}{w:W} (h1:Qam us=true) (h2:Qan w=true):Qam (us++[w])=true:=by
 induction us with
 |nil=>show Qam [w]=true;rw[Qam,h2];rfl
 |cons u us ih =>
  rw[Qam,Bool.and_eq_true]at h1
  show Qam (u::(us++[w]))=true
  rw[Qam,h1.1,ih h1.2];rfl
theorem Qmd {K:PySem.W.Frag}{ρ:List Addr}{H:Hp}{h:Qac}{n:Nat}{v:V}{us:List W} (hr:HRel K ρ h H) (r:Rel K ρ H (.ref n) v) (e:h[n]?=some (.lst us)):∃ l ys,v=.ref l∧ρ[n]?=some l∧H l=some (.lst ys)∧Qam us=true∧RelL K ρ H us ys:=by
 rw[Rel]at r
 obtain⟨l,rfl,hn⟩:=r
 obtain⟨pu,ys,hy,rs⟩:=hr.at_ n l _ hn e
 exact⟨l,ys,rfl,hn,hy,pu,rs⟩
theorem recv {m:Mt}{τ:L2.St}{H:Hp}{Q:VK}{R:V→Hp→Prop}{as:List E}{K:PySem.W.Frag} (q:tI K EX (evE cf (.meth m a' as)) τ H Q)
  (k:∀ ρ σ h H1 w v,RelE K ρ H1 σ τ→HRel K ρ h H1→Rel K ρ H1 w v→Qg3 m h w=true→RQ K EX ρ H1 (bnd (evA cf as σ h) fun ws h=>methW m w ws h) (fun w _ ρ' H'=>∀ v,Rel K ρ' H' w v→Q v H')→R v H1):tI K EX (evE cf a') τ H R:=by
 obtain⟨ρ,σ,h,re,hr,q⟩:=q
 rw[evE]at q
 refine⟨ρ,σ,h,re,hr,q.bnd.mono fun w h1 ρ1 H1 x1 hr1 q1 v r=>?_⟩
 split at q1
 ·rename_i hi;exact k ρ1 σ h1 H1 w v (re.ext x1) hr1 r hi q1
 ·exact q1.elim
theorem recvL {K:PySem.W.Frag}{ρ:List Addr}{H:Hp}{h:Qac}{w:W}{v:V} (hr:HRel K ρ h H) (r:Rel K ρ H w v) (hi:(Qc5 h w).isSome=true):tyV K "list" v H:=by
 obtain⟨ws,ew⟩:=Option.isSome_iff_exists.mp hi
 obtain⟨l,xs,rfl,hx,rs⟩:=Qbk hr ew r
 exact .inl ⟨rfl,xs,.inl (.inl hx)⟩
theorem Qk6 {apos:Pos} (ha:PE X a (tI X.K EX (evE cf a'))) (he:PE X e (tI X.K EX (evE cf e'))) (hs:Qa1 e=true) (hb:Qgk a=true) (hl:apos.endLine=pos.line) :
  PE X (.Call (.Attribute a "append" apos) [e] [] pos) (tI X.K EX (evE cf (.meth .append a' [e']))) :=
 (pe_bm PySem.F.plainAttrs_list PySem.F.slot_list_append PySem.F.type_list_append Qfn ha (Qbo he pa_nil (Qat hs _ _)) (Qex hb _ _ _) (by rw[Qat hs];rfl) (by simp[hl]) (Qat hs _ _) (by rfl)).sub fun τ H Q q=>recv q fun ρ σ h H1 w v re hr r hi q=>by
  rw[Qcb,QaM]at q
  refine⟨recvL hr r hi,ρ,σ,h,re,hr,q.bnd.mono fun w2 h2 ρ2 H2 x2 hr2 q2 v2 r2=>?_⟩
  have q3:RQ X.K EX ρ2 H2 (appW w w2 h2) _:=q2
  cases w with
  |ref n =>
   unfold appW at q3
   dsimp only at q3
   split at q3
   ·rename_i us e
    obtain⟨l,ys,rfl,hn,hy,pu,rs⟩:=Qmd hr2 (Rel.ext x2 _ _ r) e
    split at q3
    ·rename_i hp
     exact⟨l,ys,v2,rfl,rfl,hy,by rw[← rs.length];exact hp.2,q3 _ _ (ext_write hn) (hr2.write hn (QdQ pu hp.1) (rs.append (.cons r2 .nil))) _ Qiw⟩
    ·exact q3.elim
   ·exact q3.elim
  |_=>exact q3.elim
noncomputable def spI (K:PySem.W.Frag) (cl:Nat→Addr) (cf:CF) (f:Nat) (np:Nat):Sp:=fun vs H Q E=>vs.length=np ∧
 ∃ ρ h ws,HRel K ρ h H∧RelL K ρ H ws vs∧RQ K (fun c _ _ H'=>E (.ref (cl c)) none H') ρ H (cf f ws h) fun w _ ρ' H'=>∀ v,Rel K ρ' H' w v→Q v H'
noncomputable def EKX (K:PySem.W.Frag) (cl:Nat→Addr) (EX:EXT):XK:=fun C _ H'=>∃ c h ρ,C=.ref (cl c)∧HRel K ρ h H'∧EX c h ρ H'
theorem XL.passes {cl:Nat→Addr} (hX:XL cl X EX):QhR (CXJ X.prog X.w) X (EKX X.K cl EX):=fun pins σ H s e s' I h=>by
 obtain⟨ea,C,H',rfl,x,c,h2,ρ,rfl,hr,q⟩:=Qn4 I h
 exact hX pins σ H' s' ea c h2 ρ x hr q
theorem r_call {k:Nat}{f:Addr}{fn:Nat}{np:Nat}{fd:FuncData}{ps:List Str}{x:Str}{p:Pos}{es:List Expr}{es':List E}{cl:Nat→Addr}
  (F:FnOk X.prog X.w X.K X.mg X.base (CXJ X.prog X.w) k f fd ps (spI X.K cl cf fn np)) (hr:Room k X.A) (hg:Gl X x) (hm:X.mg x=some (.ref f)) (hk:PySem.W.keepIn X.K (.ref f)=true) (hb:Binds X.K fd ps [])
  (hX:XL cl X EX) (hdb:(x == ("__debug__":Str))=false) (hs:(e::es).all Qa1=true) (hl:(e::es).length=np) (hl':es'.length=np)
  (ha:PA X (e::es) (tIA X.K EX (evA cf es'))) (hv:∀ σ h ws h',evA cf es' σ h=.ok ws h'→ws.length=np) :
  PE X (.Call (.Name x p) (e::es) [] pos) (tI X.K EX (evE cf (.call fn es'))):=by
 have hs':=hs
 rw[List.all_cons,Bool.and_eq_true]at hs'
 refine(QmH F hr hg hm hk hb .nil hX.passes ha hdb (Qat hs'.1 es X.env) (Qe2 hs'.2 pos X.env)).sub fun τ H Q zq=>?_
 obtain⟨ρ,σ,h,re,hr,q⟩:=zq
 rw[evE]at q
 refine⟨ρ,σ,h,re,hr,?_⟩
 cases e:evA cf es' σ h with
 |stuck=>rw[e]at q;exact q.elim
 |exc c h1=>rw[e]at q;exact q
 |ok ws h1 =>
  have hw:=hv _ _ _ _ e
  rw[e]at q
  intro ρ1 H1 x1 hr1 vs rs
  have q1:RQ X.K EX ρ1 H1 (cf fn ws h1) (fun w _ ρ' H'=>∀ v,Rel X.K ρ' H' w v→Q v H'):=q.bnd ρ1 H1 x1 hr1
  refine⟨by rw[List.append_nil,← rs.length];exact hw,ρ1,h1,ws,hr1,by rw[List.append_nil];exact rs,?_⟩
  cases e2:cf fn ws h1 with
  |ok w h2=>rw[e2]at q1;exact q1
  |exc c h2=>rw[e2]at q1;exact fun ρ2 H2 x2 hr2=>⟨c,h2,ρ2,rfl,hr2,q1 ρ2 H2 x2 hr2⟩
  |stuck=>rw[e2]at q1;exact q1
theorem Qem {cf:CF}:∀ {es:List E}{σ:Qai}{h:Qac}{ws:List W}{h':Qac},evA cf es σ h=.ok ws h'→ws.length=es.length
 |[],σ,h,ws,h',e=>by rw[evA]at e;cases e;rfl
 |a::es,σ,h,ws,h',e=>by
  rw[evA]at e
  cases e1:evE cf a σ h with
  |stuck=>rw[e1]at e;cases e
  |exc c h1=>rw[e1]at e;cases e
  |ok w h1 =>
   rw[e1]at e
   have e':bnd (evA cf es σ h1) (fun ws h=>Res.ok (w::ws) h)=.ok ws h':=e
   cases e2:evA cf es σ h1 with
   |stuck=>rw[e2]at e';cases e'
   |exc c h1=>rw[e2]at e';cases e'
   |ok us h2 =>
    rw[e2]at e'
    cases e'
    simp[Qem e2]
theorem HRel.cut {K:PySem.W.Frag}{ρ ρ':List Addr}{h':Qac}{H H':Hp}{n0:Nat} (x:Ext ρ H ρ' H') (hl:ρ.length=n0) (hr:HRel K ρ' h' H'):HRel K ρ (h'.take n0) H':=by
 obtain⟨t,rfl⟩:=x.pre
 have hlen:=hr.len
 rw[List.length_append]at hlen
 refine⟨by rw[List.length_take];omega,(List.nodup_append.mp hr.nd).1,fun n a o e1 e2=>?_⟩
 have hn:n<n0:=by rw[← hl];exact(List.getElem?_eq_some_iff.mp e1).1
 rw[List.getElem?_take_of_lt hn]at e2
 have q:=hr.at_ n a o (by rw[List.getElem?_append_left (by omega)];exact e1) e2
 cases o with
 |lst ws=>obtain⟨p,xs,e,r⟩:=q;exact⟨p,xs,e,RelL.less (fun b hb=>List.mem_append_left _ hb) ws xs p r⟩
 |dic ks ws=>obtain⟨p,xs,e,l,r⟩:=q;exact⟨p,xs,e,l,RelL.less (fun b hb=>List.mem_append_left _ hb) ws xs p r⟩
theorem Ext.cut {ρ ρ':List Addr}{H H':Hp} (x:Ext ρ H ρ' H'):Ext ρ H ρ H':=⟨List.prefix_refl _,x.keep,fun _ _ _ z=>z⟩
mutual
theorem QiG {K:PySem.W.Frag}{ρ t:List Addr}{H:Hp}{h:Qac}{n0:Nat} (hr:HRel K (ρ++t) h H) (hl:ρ.length=n0):∀ (w u:W) (v:V),unr h n0 w=some u→Rel K (ρ++t) H w v→Rel K ρ H u v
 |.non,u,v,e,r=>by cases e;rw[Rel]at r ⊢;exact r
 |.bl _,u,v,e,r=>by cases e;rw[Rel]at r ⊢;exact r
 |.int _,u,v,e,r=>by cases e;rw[Rel]at r ⊢;exact r
 |.str _,u,v,e,r=>by cases e;rw[Rel]at r ⊢;exact r
 |.tup ws,u,v,e,r=>by
  rw[unr]at e
  obtain⟨us,e1,rfl⟩:=Option.map_eq_some_iff.mp e
  rw[Rel]at r ⊢
  obtain⟨a,xs,ea,q,rs⟩:=r
  exact⟨a,xs,ea,q.imp (fun z=>⟨fun y=>z.1 (List.mem_append_left _ y),z.2⟩) id,QbV hr hl ws us xs e1 rs⟩
 |.lst ws,u,v,e,r=>by
  rw[unr]at e
  obtain⟨us,e1,rfl⟩:=Option.map_eq_some_iff.mp e
  rw[Rel]at r ⊢
  obtain⟨a,xs,ea,n,q,rs⟩:=r
  exact⟨a,xs,ea,fun y=>n (List.mem_append_left _ y),q,QbV hr hl ws us xs e1 rs⟩
 |.scr ws,u,v,e,r=>by
  rw[unr]at e
  obtain⟨us,e1,rfl⟩:=Option.map_eq_some_iff.mp e
  rw[Rel]at r ⊢
  obtain⟨a,xs,ea,q,rs⟩:=r
  exact⟨a,xs,ea,q.imp (fun z=>⟨fun y=>z.1 (List.mem_append_left _ y),z.2⟩) id,QbV hr hl ws us xs e1 rs⟩
 |.dic ks ws,u,v,e,r=>by
  rw[unr]at e
  obtain⟨us,e1,rfl⟩:=Option.map_eq_some_iff.mp e
  rw[Rel]at r ⊢
  obtain⟨a,xs,ea,n,q,l,rs⟩:=r
  exact⟨a,xs,ea,fun y=>n (List.mem_append_left _ y),q,l,QbV hr hl ws us xs e1 rs⟩
 |.ins c ws,u,v,e,r=>by
  rw[unr]at e
  obtain⟨us,e1,rfl⟩:=Option.map_eq_some_iff.mp e
  rw[Rel]at r ⊢
  obtain⟨a,dx,xs,C,ea,n,q,l,z,rs⟩:=r
  exact⟨a,dx,xs,C,ea,fun y=>n (List.mem_append_left _ y),q,l,z,QbV hr hl ws us xs e1 rs⟩
 |.ref n,u,v,e,r=>by
  rw[unr]at e
  rw[Rel]at r
  obtain⟨a,rfl,hn⟩:=r
  have sub:∀ b,b∈ρ→b∈ρ++t:=fun b hb=>List.mem_append_left _ hb
  have na:¬ n<n0→a∉ρ:=fun hlt hm=>by
   rw[List.getElem?_append_right (by omega)]at hn
   exact(List.nodup_append.mp hr.nd).2.2 a hm a (List.mem_of_getElem? hn) rfl
  split at e
  ·rename_i hlt
   cases e
   rw[Rel]
   exact⟨a,rfl,by rw[List.getElem?_append_left (by omega)]at hn;exact hn⟩
  ·rename_i hlt
   split at e
   ·rename_i ws ew
    cases e
    obtain⟨p,xs,hx,rs⟩:=hr.at_ n a _ hn ew
    rw[Rel]
    exact⟨a,xs,rfl,na hlt,hx,RelL.less sub ws xs p rs⟩
   ·rename_i ks ws ew
    cases e
    obtain⟨p,xs,hx,hlx,rs⟩:=hr.at_ n a _ hn ew
    rw[Rel]
    exact⟨a,xs,rfl,na hlt,.inl hx,hlx,RelL.less sub ws xs p rs⟩
   ·cases e
theorem QbV {K:PySem.W.Frag}{ρ t:List Addr}{H:Hp}{h:Qac}{n0:Nat} (hr:HRel K (ρ++t) h H) (hl:ρ.length=n0):∀ (ws us:List W) (xs:List V),QcU h n0 ws=some us→RelL K (ρ++t) H ws xs→RelL K ρ H us xs
 |[],us,xs,e,r=>by cases e;rw[RelL]at r ⊢;exact r
 |w::ws,us,xs,e,r=>by
  rw[QcU]at e
  rw[RelL]at r
  obtain⟨y,ys,rfl,r1,r2⟩:=r
  split at e
  ·rename_i u us' e1 e2
   cases e
   exact .cons (QiG hr hl w u y e1 r1) (QbV hr hl ws us' ys e2 r2)
  ·cases e
end
theorem RQ.fin {K:PySem.W.Frag}{ρ:List Addr}{H:Hp}{h:Qac}{r:Res Fl}{Q:VK}{EK:Nat→Hp→Prop} (hr:HRel K ρ h H)
  (q:RQ K (fun c _ _ H'=>EK c H') ρ H (J.fin h.length r) fun w _ ρ' H'=>∀ v,Rel K ρ' H' w v→Q v H') :
  RQ K (fun c _ _ H'=>EK c H') ρ H r (FlQ K { nx:=fun _ H'=>Q .non H',rt:=Q }):=by
 have hl:ρ.length=h.length:=hr.len
 cases r with
 |stuck=>exact q
 |exc c h'=>exact fun ρ' H' x hr'=>q ρ H' x.cut (hr'.cut x hl)
 |ok fl h' =>
  intro ρ' H' x hr'
  have hc:=hr'.cut x hl
  cases fl with
  |nx σ=>exact fun τ re=>q ρ H' x.cut hc _ Qiw
  |brk σ=>exact q.elim
  |cnt σ=>exact q.elim
  |ret w =>
   intro v r
   have q':RQ K (fun c _ _ H'=>EK c H') ρ H (match unr h' h.length w with | some u=>.ok u (h'.take h.length) | none=>.stuck) fun w _ ρ' H'=>∀ v,Rel K ρ' H' w v→Q v H':=q
   split at q'
   ·rename_i u e
    obtain⟨t,rfl⟩:=x.pre
    exact q' ρ H' x.cut hc v (QiG hr' hl w u v e r)
   ·exact q'.elim
theorem QiV {K:PySem.W.Frag}{ρ:List Addr}{H:Hp}{N:List Str}{ws:List W}{vs:List V} (r:RelL K ρ H ws vs):RelE K ρ H (ws.map some++List.replicate (N.length-ws.length) none) (start N vs):=by
 have hl:=r.length
 refine⟨by unfold L2.start;simp[hl],fun i w e=>?_⟩
 by_cases hi:i<ws.length
 ·rw[List.getElem?_append_left (by simpa using hi),List.getElem?_map]at e
  cases e1:ws[i]? with
  |none=>rw[e1]at e;cases e
  |some u =>
   rw[e1]at e
   have e':u=w:=Option.some.inj (Option.some.inj e)
   subst e'
   obtain⟨v,h1,h2⟩:=r.get e1
   refine⟨v,?_,h2⟩
   unfold L2.start
   rw[List.getElem?_append_left (by simp;omega),List.getElem?_map,h1]
   rfl
 ·rw[List.getElem?_append_right (by simpa using hi),List.getElem?_replicate]at e
  split at e<;>cases e
theorem fn_ok {P:Program}{w:World}{K:PySem.W.Frag}{mg:Str→Option Value}{base:Heap}{x qual:Str}{st:Stmt}{f:Addr}{fd:FuncData}{N ps:List Str}{k:Nat}{tb:List Fn}{d fn:Nat}{g:Fn}{cl:Nat→Addr}
  (F:Fun K x qual st f fd) (S:FnScope N ps (Qas st)) (hg:tb[fn]?=some g) (hnp:g.np=ps.length) (hns:g.ns=N.length)
  (body:∀ (X:Cx) (EX:EXT),X.prog=P→X.w=w→X.K=K→X.mg=mg→X.base=base→X.N=N→X.env.scope=Qas st→X.calm=true→(X.fn=fun _=>true)→PassesOwn (model X.prog X.w) X.A X.env X.xe→(X.stack=X.env::X.outer∧X.env.frame=some X.env.locals)→XL cl X EX→XM cl X EX→Room k X.A →
   PSs X (Qbb st) (tIS K EX (exB (Qae fw tb d) fw g.body))) :
  FnOk P w K mg base (CXJ P w) (k+1) f fd ps (spI K cl (Qae fw tb (d+1)) fn ps.length):=by
 obtain⟨oc,od,kV,doc,pm,an,cdv,ct,osl,rfl,lk,hcd⟩:=F.ex
 refine fn_of lk hcd S (fun vs H Q E h=>h.1) fun A outer s H vs Q E hr zq=>?_
 obtain⟨hl,ρ,h,ws,hrel,rl,q⟩:=zq
 refine⟨_,body (Qkb (CXJ P w) P w K mg base N qual (Qas st) f cdv A outer s H E) _ rfl rfl rfl rfl rfl rfl rfl rfl rfl PassesOwn.leaving ⟨rfl,rfl⟩ xl_fn xm_fn hr,ρ,_,h,QiV rl,hrel,?_⟩
 have e:Qae fw tb (d+1) fn ws h=J.fin h.length (exB (Qae fw tb d) fw g.body (ws.map some++List.replicate (N.length-ws.length) none) h):=by
  have hw:ws.length=g.np:=by rw[rl.length,hl,hnp]
  show (match tb[fn]? with | some g=>_ | none=>_)=_
  rw[hg]
  show (if ws.length=g.np then _ else _)=_
  rw[if_pos hw,hns,hw]
 rw[e]at q
 exact RQ.fin (EK:=fun c H'=>E (.ref (cl c)) none H') hrel q
end
noncomputable def fpV (τ:L2.St):Fp→Prop
 |.lit=>True
 |.con=>True
 |.var i=>(∃ n:Int,τ[i]?=some (some (.int n))∧n.natAbs<10 ^ 100)∨∃ s:Str,τ[i]?=some (some (.str s))∧s.length≤1000
 |.rep i=>∃ s:Str,τ[i]?=some (some (.str s))∧s.length≤1000∧∀ c∈s.cps.toList,c<16 ^ 8
section
variable {X:Cx}{EX:EXT}{cf:CF}{fw:Nat}{pos:Pos}{a:Expr}
noncomputable def PF (X:Cx) (e:Expr) (p:Fp):Prop:=∀ (pins:List (Addr×Obj)) (s:Shared) (τ:L2.St) (H:Hp) (Q:Value→Shared→Prop),Inv X pins τ H s→fpV τ p→(∀ (y:Str) (t:Tok) (s1:Shared),y.length≤20000→Inv X pins τ H s1→Q (.str y t) s1) →
 wpAny (model X.prog X.w) X.A (eval e X.env) Q X.xe s
inductive PFs (X:Cx):List Expr→List Fp→Prop where
 |nil:PFs X [] []
 |cons {e:Expr}{p:Fp}{es:List Expr}{ps:List Fp}:PF X e p→PFs X es ps→PFs X (e::es) (p::ps)
end
noncomputable abbrev Cx.hnd (X:Cx) (v:Value) (E:Value→Shared→Prop):Cx:={ X with A:=X.A.mark (some v),calm:=false,xe:=E }
section
variable {X:Cx}{EX:EXT}{cf:CF}{fw:Nat}{pos:Pos}{pins:List (Addr×Obj)}{σ:L2.St}{H:Hp}{s:Shared}{cl:Nat→Addr}
noncomputable def hdFl (c:Nat) (σ:Qai):Hd→Fl
 |.ret w=>.ret w
 |.asg i w=>.nx ((σ.map fun _=>none).set i (some w))
 |.flg i cs=>.nx ((σ.map fun _=>none).set i (some (.lst (cs.map fun k=>.bl (decide (c=k))))))
noncomputable def tHd (K:PySem.W.Frag) (hd:Hd):TS:=fun D τ H=>∃ c ρ h σ,(∀ σ':Qai,σ'.length=σ.length→(∀ (i:Nat) (w:W),¬ σ'[i]?=some (some w))→RelE K ρ H σ' τ)∧HRel K ρ h H∧FlQ K D (hdFl c σ hd) h ρ H
structure HdOk (X:Cx) (cl:Nat→Addr) (hb:ExceptHandler) (d:Nat) (hd:Hd):Prop where
 ex:∃ x np st p,hb=.ExceptHandler (some (.Name x np)) none [st] p∧Gl X x∧X.mg x=some (.ref (cl d))∧(x == ("__debug__":Str))=false∧∀ v E,PS (Cx.hnd X v E) st (tHd X.K hd)
inductive HdsOk (X:Cx) (cl:Nat→Addr):List ExceptHandler→List (Nat×Hd)→Prop where
 |nil:HdsOk X cl [] []
 |cons {hb:ExceptHandler}{d:Nat}{hd:Hd}{hs:List ExceptHandler}{hs':List (Nat×Hd)}:HdOk X cl hb d hd→HdsOk X cl hs hs'→HdsOk X cl (hb::hs) ((d,hd)::hs')
end
structure OCl (K:PySem.W.Frag) (c:Nat) (C:Addr):Prop where
 ns:PySem.W.nsIn K mainGlobals (cName c)=some (some (.ref C))
 cls:Cls K C
 no:∀ f∈Qj0 c,NoAttr K C f
section
variable {X:Cx}{EX:EXT}{cf:CF}{fw:Nat}{pos:Pos}{a b c e:Expr}{a' b' c' e':E}{cl:Nat→Addr}
end
section
variable {K:PySem.W.Frag}{ρ:List Addr}{H:Hp}{x C dx:Addr}{fs:List (Str×V)}{o:HO}
structure Pm (H:Hp) (x:Addr):Prop where
 ex:∃ C dx fs,H x=some (.ins C dx fs)∧∀ c (xs:List V),(Qj0 c).length=xs.length→fs≠(Qj0 c).zip xs
end
section
variable {X:Cx}{EX:EXT}{cf:CF}{fw:Nat}{pos:Pos}{a b c e:Expr}{a' b' c' e':E}{cl:Nat→Addr}
end
noncomputable def clo (env:Env):List (Str×NameKind)→List (Str×Addr)→List (Str×Addr)
 |[],cs=>cs
 |(n,k)::r,cs=>if k == .free then (match env.cells.lookup n with
  |some c=>clo env r ((n,c)::cs)
  |none=>clo env r cs) else clo env r cs
theorem QdU {scope:Scope}{env:Env} (h:∀ y∈scope.names,y.2=.free→∃ c,env.cells.lookup y.1=some c):closureFor scope env=pure (clo env scope.names []):=by
 unfold closureFor
 have go:∀ (l:List (Str×NameKind)) (cs:List (Str×Addr)),(∀ y∈l,y.2=.free→∃ c,env.cells.lookup y.1=some c) →
   (forIn l cs (fun x r=>match x with | (name,kind)=>if (kind == NameKind.free)=true then (do let a ← cellOf env name;pure (ForInStep.yield ((name,a)::r))) else pure (ForInStep.yield r)):Sem (List (Str×Addr)))=pure (clo env l cs):=by
  intro l
  induction l with
  |nil=>intro cs _;rfl
  |cons y l ih =>
   intro cs hl
   obtain⟨n,k⟩:=y
   rw[List.forIn_cons]
   dsimp only
   unfold clo
   by_cases hk:(k == NameKind.free)=true
   ·obtain⟨c,hc⟩:=hl (n,k) List.mem_cons_self (by simpa using hk)
    rw[if_pos hk,if_pos hk]
    dsimp only at hc
    unfold cellOf
    rw[hc]
    exact ih _ fun y hy=>hl y (List.mem_cons_of_mem _ hy)
   ·rw[if_neg hk,if_neg hk]
    exact ih _ fun y hy=>hl y (List.mem_cons_of_mem _ hy)
 exact congrArg (· >>= fun r=>pure r) (go scope.names [] h)
theorem QeC {env:Env}:∀ {l:List (Str×NameKind)}{cs:List (Str×Addr)}{x:Str}{c:Addr},(x,c)∈clo env l cs→(x,c)∈cs∨env.cells.lookup x=some c
 |[],cs,x,c,h=>.inl h
 |(n,k)::r,cs,x,c,h=>by
  unfold clo at h
  split at h
  ·split at h
   ·rename_i a ha
    rcases QeC h with z | z
    ·rcases List.mem_cons.mp z with e | z
     ·cases e;exact .inr ha
     ·exact .inl z
    ·exact .inr z
   ·exact QeC h
  ·exact QeC h
theorem Qe9 {env:Env}:∀ {l:List (Str×NameKind)}{cs:List (Str×Addr)}{x:Str},(cs.lookup x).isSome→((clo env l cs).lookup x).isSome
 |[],cs,x,h=>h
 |(n,k)::r,cs,x,h=>by
  unfold clo
  split
  ·split
   ·refine Qe9 ?_
    rw[List.lookup_cons]
    split
    ·rfl
    ·exact h
   ·exact Qe9 h
  ·exact Qe9 h
theorem Qdq {env:Env}:∀ {l:List (Str×NameKind)}{cs:List (Str×Addr)}{x:Str}{c:Addr},(x,NameKind.free)∈l→env.cells.lookup x=some c→((clo env l cs).lookup x).isSome
 |(n,k)::r,cs,x,c,h,hc=>by
  unfold clo
  rcases (List.mem_cons.mp h) with e | h
  ·cases e
   rw[if_pos (by rfl)]
   rw[hc]
   refine Qe9 ?_
   rw[List.lookup_cons]
   simp
  ·split
   ·split
    ·exact Qdq h hc
    ·exact Qdq h hc
   ·exact Qdq h hc
theorem QaT {β:Type}{x:Str}{b:β}{l:List (Str×β)} (h:l.lookup x=some b):(x,b)∈l:=PySem.mem_of_lookup h
theorem Qkc {env:Env}{l:List (Str×NameKind)}{x:Str}{c:Addr} (h:(clo env l []).lookup x=some c):env.cells.lookup x=some c:=by
 rcases QeC (QaT h) with z | z
 ·cases z
 ·exact z
noncomputable def QdB (sc:Scope) (out:Scope):Scope:={ sc with names:=sc.names.map fun (n,k)=>if (k == .free&&out.kind == .function&&out.names.lookup n == some .cell) then (n,.cell) else (n,k) }
theorem QaZ {out:Scope}:∀ {names:List (Str×NameKind)}{x:Str}{k:NameKind},
  (names.map fun (n,k)=>if (k == .free&&out.kind == .function&&out.names.lookup n == some .cell) then (n,.cell) else (n,k)).lookup x=some k →
  names.lookup x=some k∨(k=.cell∧names.lookup x=some .free∧out.names.lookup x=some .cell)
 |[],_,_,h=>by simp at h
 |(n,k')::r,x,k,h=>by
  rw[List.map_cons]at h
  dsimp only at h
  by_cases hc:(k' == .free&&out.kind == .function&&out.names.lookup n == some .cell)=true
  ·rw[if_pos hc,List.lookup_cons]at h
   rw[List.lookup_cons]
   cases hx:x == n with
   |true =>
    rw[hx]at h
    have e:x=n:=by simpa using hx
    subst e
    simp only[Bool.and_eq_true,beq_iff_eq]at hc
    cases h
    obtain⟨⟨rfl,_⟩,h3⟩:=hc
    exact .inr ⟨rfl,rfl,h3⟩
   |false =>
    rw[hx]at h
    exact QaZ h
  ·rw[if_neg hc,List.lookup_cons]at h
   rw[List.lookup_cons]
   cases hx:x == n with
   |true=>rw[hx]at h;exact .inl h
   |false=>rw[hx]at h;exact QaZ h
noncomputable def blk (X:Cx) (N':List Str) (scope:Scope) (cl:List (Str × Addr)) (C:Addr) (fp:List Addr) (s:Shared) (H:Hp):Cx :=
  { X with N:=N',s₀:=s,H₀:=H,env:=compEnvC scope cl C X.env,outer:=X.stack,stack:=X.stack,ex:=fp,fn:=fun _=>false,pn:=[],xe:=fun _ _=>False }

structure BlkOk (out:Scope) (N N':List Str) (sc:Scope) (own:List Str):Prop where
 kind:sc.kind=.function
 cell:∀ y∈sc.names,y.2≠.cell
 free:∀ y∈sc.names,y.2=.free→out.names.lookup y.1=some .cell
 loc:∀ y∈sc.names,y.2=.local→sc.names.lookup y.1=some .local
 mine:∀ x,sc.names.lookup x=some .local→x∈own
 pre:∃ t,N'=N++t
 new:∀ (i:Nat) (x:Str),N'[i]?=some x→N.length≤i→x∈own
structure BlkSt (N N':List Str) (own:List Str) (σ τ:L2.St):Prop where
 len:τ.length=N'.length
 at_:∀ (i:Nat) (v:V),τ[i]?=some (some v)→∃ x,N[i]?=some x∧x∉own∧σ[i]?=some (some v)
section
variable {X:Cx}{pins:List (Addr×Obj)}{σ τ:L2.St}{H:Hp}{s:Shared}{N':List Str}{sc:Scope}{own:List Str}
theorem Qe8 (I:Inv X pins σ H s) (B:BlkOk X.env.scope X.N N' sc own):∀ y∈sc.names,y.2=.free→∃ c,X.env.cells.lookup y.1=some c :=
 fun y hy hf=>I.ok.has y.1 (.inl (B.free y hy hf))
theorem Qmw {fp:List Addr}{h₁:Heap}{tk:Nat}{C:Addr}{H':Hp}{m:Str→Option Value} (I:Inv X pins σ H s) (B:BlkOk X.env.scope X.N N' sc own) (S:BlkSt X.N N' own σ τ)
  (f:∀ b∈fp,QgN X pins H b) (hC:s.heap.objs.size≤C) (hfp:∀ b∈fp,b<s.heap.objs.size) (k:∀ b o,s.heap.get? b=some o→h₁.get? b=some o) (hn:h₁.Ns C m)
  (u:Un (frs X.stack) fp H H' s.heap h₁) (hok:HOk X.prog X.w H' h₁) (hC':H' C=none) :
  Inv (blk X N' sc (clo X.env sc.names []) C fp s H) [] τ H' { s with heap:=h₁,toks:=tk }:=by
 have hcl:∀ x c,(clo X.env sc.names []).lookup x=some c→X.env.cells.lookup x=some c:=fun x c e=>Qkc e
 have hlt:∀ x c,X.env.cells.lookup x=some c→c<s.heap.objs.size:=fun x c e=>by obtain⟨v,z⟩:=I.cell x c e;exact z.lt
 have cellOf1:∀ x c,X.env.cells.lookup x=some c→∀ v,s.heap.IsCell c v→h₁.IsCell c v:=fun x c e v ⟨o,ho,hd⟩=>⟨o,k c o ho,hd⟩
 refine⟨⟨I.ok.mod,B.kind,I.ok.glob,I.ok.blt,hC,fun x y c h1 h2=>I.ok.inj x y c (hcl x c h1) (hcl y c h2),fun x hx=>?_,fun x c hf _=>(by cases hf),I.ok.hd,I.ok.frames,.inl rfl,fun b hb=>⟨?_,fun x c e=>?_⟩,
  I.bs,Nat.le_trans I.ok.bsz I.sz,fun b o e hb=>?_,fun b hb hm=>?_,I.stack,I.stkFree⟩,
  rfl,I.bare,u,⟨m,hn,fun i x v e1 e2 e3=>?_⟩,fun x c e=>?_,hC',fun x c e=>?_,fun p hp=>absurd (show p∈([]:List (Addr×Obj)) from hp) (by simp),hok,S.len⟩
 ·-- has
  have hx':(QdB sc X.env.scope).names.lookup x=some .cell∨(QdB sc X.env.scope).names.lookup x=some .free:=hx
  have fr:sc.names.lookup x=some .free:=by
   rcases hx' with z | z
   ·rcases QaZ z with z | z
    ·exact absurd rfl (B.cell _ (QaT z))
    ·exact z.2.1
   ·rcases QaZ z with z | z
    ·exact z
    ·exact z.2.1
  obtain⟨c,hc⟩:=Qe8 I B _ (QaT fr) rfl
  exact Option.isSome_iff_exists.mp (Qdq (QaT fr) hc)
 ·intro e
  have e':b=C:=e
  subst e'
  exact Nat.lt_irrefl _ (Nat.lt_of_lt_of_le (hfp b hb) hC)
 ·exact(f b hb).2.2.2.2.1 x c (hcl x c e)
 ·rcases (f b hb).2.2.2.1 with z | z
  ·exact I.ok.noex b o e z
  ·have h1:=Heap.lt_size e
   have h2:=I.ok.bsz
   exact absurd (Nat.lt_of_lt_of_le h1 (Nat.le_trans h2 z)) (Nat.lt_irrefl _)
 ·rcases List.mem_cons.mp (I.stkSub b hm) with e | z
  ·exact(f b hb).2.1 e
  ·exact(f b hb).2.2.1 z
 ·-- a name
  obtain⟨y,hy,hno,hv⟩:=S.at_ i v e2
  obtain⟨t,ht⟩:=B.pre
  have hi:i<X.N.length:=(List.getElem?_eq_some_iff.mp hy).1
  have e1':N'[i]?=some x:=e1
  rw[ht,List.getElem?_append_left hi,hy]at e1'
  cases e1'
  have e3':(QdB sc X.env.scope).names.lookup x=some .local∨(QdB sc X.env.scope).names.lookup x=some .cell∨(QdB sc X.env.scope).names.lookup x=some .free:=e3
  have fr:sc.names.lookup x=some .free∧(QdB sc X.env.scope).names.lookup x=some .cell:=by
   rcases e3' with z | z | z
   ·rcases QaZ z with z | z
    ·exact absurd (B.mine x z) hno
    ·cases z.1
   ·rcases QaZ z with z' | z'
    ·exact absurd rfl (B.cell _ (QaT z'))
    ·exact⟨z'.2.1,z⟩
   ·exfalso
    rcases QaZ z with z' | z'
    ·have oc:=B.free _ (QaT z') rfl
     have:∀ {names:List (Str×NameKind)},names.lookup x=some .free→(names.map fun (n,k)=>if (k == .free&&X.env.scope.kind == .function&&X.env.scope.names.lookup n == some .cell) then (n,.cell) else (n,k)).lookup x=some NameKind.cell:=by
      intro names
      induction names with
      |nil=>intro h;simp at h
      |cons a r ih =>
       obtain⟨n,k⟩:=a
       intro h
       rw[List.lookup_cons]at h
       rw[List.map_cons]
       dsimp only
       cases hx:x == n with
       |true =>
        rw[hx]at h
        have e:x=n:=by simpa using hx
        subst e
        cases h
        rw[if_pos (by simp[I.ok.kind];exact oc),List.lookup_cons]
        simp
       |false =>
        rw[hx]at h
        split
        ·rw[List.lookup_cons,hx];exact ih h
        ·rw[List.lookup_cons,hx];exact ih h
     have q:=this z'
     rw[show (QdB sc X.env.scope).names=sc.names.map fun (n,k)=>if (k == .free&&X.env.scope.kind == .function&&X.env.scope.names.lookup n == some .cell) then (n,.cell) else (n,k) from rfl,q]at z
     cases z
    ·cases z'.1
  have oc:=B.free _ (QaT fr.1) rfl
  obtain⟨m0,hn0,hl⟩:=I.loc
  obtain⟨uu,ru,lk⟩:=hl i x v hy hv (.inr (.inl oc))
  refine⟨uu,ru,?_⟩
  rcases lk with ⟨kk,_⟩ | ⟨_,c,hc,hcell⟩
  ·rw[show X.env.kindOf x=X.env.scope.names.lookup x from rfl,oc]at kk;cases kk
  ·obtain⟨c',hc'⟩:=Option.isSome_iff_exists.mp (Qdq (cs:=[]) (QaT fr.1) hc)
   have:=hcl x c' hc'
   rw[hc]at this
   cases this
   exact .inr ⟨.inl fr.2,c,hc',cellOf1 x c hc _ hcell⟩
 ·obtain⟨v,z⟩:=I.cell x c (hcl x c e)
  exact⟨v,cellOf1 x c (hcl x c e) v z⟩
 ·obtain⟨v,o,ho,hd⟩:=I.cell x c (hcl x c e)
  refine u.free c o ho (I.freeC x c (hcl x c e)) fun z=>?_
  exact(f c z).2.2.2.2.1 x c (hcl x c e) rfl
end
section
variable {P:Program}{w:World}{A:Around}{R:Result→Shared→Prop}{s:Shared}
theorem Qf8 {el tg ir:Expr}{cs:List Expr}{sc:Scope}{ps:Pos}{it ac:Value}{en:Env} (I:Nat→Shared→Prop)
  (tur:∀ n s,I n s→wpAny (model P w) A (pyNext it) (fun r t1=>match r with
   |none=>R (.ok .next) t1
   |some v=>wpAny (model P w) A (letOwnedTupleGo tg it v) (fun _ t1'=>wpAny (model P w) A (assign tg en v) (fun _ t2 =>
    wpAny (model P w) A (forIn cs true fun c r=>if r=true then do let ok ← isTrue c en (eval c en);pure (ForInStep.yield ok) else pure (ForInStep.yield r)) (fun ok t3 =>
     if ok=true then wpAny (model P w) A (eval el en) (fun x t4 =>
      wpAny (model P w) A (call (.builtin "list.append") [ac,x]) (fun _ t5=>∃ m,m<n∧I m t5) (fun _ _=>False) t4) (fun _ _=>False) t3
     else ∃ m,m<n∧I m t3) (fun _ _=>False) t2) (fun _ _=>False) t1') (fun _ _=>False) t1) (fun _ _=>False) s)
  (n:Nat) (h:I n s) :
  codeAny (model P w) A (.compLoop (.ListComp el [⟨tg,ir,cs,0⟩] sc ps) 0 it ac en) R s:=by
 refine codeAny_loop rfl I (fun n s hJ=>?_) n h
 show wpAny _ A ((compTurn (.ListComp el [⟨tg,ir,cs,0⟩] sc ps) 0 it ac en).onRaise (fun x=>do noteFrame x en;theTreesLotGoes x)) _ _ s
 refine wpAny_noted ?_
 rw[compTurn_list]
 refine wpAny_bind (wpAny_standAt (wpAny_bind (wpAny_mono (tur n s hJ) (fun r t1 k1=>?_) fun _ _ z=>z.elim)))
 cases r with
 |none=>exact wpAny_pure k1
 |some v =>
  refine wpAny_bind (wpAny_mono k1 (fun _ t1' k1'=>?_) fun _ _ z=>z.elim)
  refine wpAny_bind (wpAny_mono k1' (fun _ t2 k2=>wpAny_bind (wpAny_mono k2 (fun ok t3 k3=>?_) fun _ _ z=>z.elim)) fun _ _ z=>z.elim)
  cases ok with
  |false=>exact wpAny_pure ⟨rfl,k3⟩
  |true =>
   exact wpAny_bind (wpAny_bind (wpAny_mono k3 (fun x t4 k4=>wpAny_bind (wpAny_mono k4 (fun _ t5 k5=>wpAny_pure (wpAny_pure ⟨rfl,k5⟩)) fun _ _ z=>z.elim)) fun _ _ z=>z.elim))
end
noncomputable def Qc9 (D:Addr) (J:L2.It) (g:TG) (tt:TT) (te:TE) (Q:VK) (τ:L2.St) (H:Hp):Prop :=
 ∃ W:Nat→Nat→L2.St→Hp→Prop,(∃ m,W 0 m τ (upd H D (.lst [])))∧∀ i m τ H,W i m τ H →
  (J.stop i H∧Q (.ref D) H)∨(J.go i H∧∀ x H',J.yld i H x H'→g x τ H' fun τ2 H2=>tt τ2 H2 fun b H3=>if b=true then te τ2 H3 fun y H4=>∃ ys,H4 D=some (.lst ys)∧ys.length<sizeLine∧∃ m',m'<m∧W (i+1) m' τ2 (upd H4 D (.lst (ys++[y])))
   else ∃ m',m'<m∧W (i+1) m' τ2 H3)
noncomputable def PTs (X:Cx) (ifs:List Expr) (t:TT):Prop :=
 ∀ (pins:List (Addr×Obj)) (s:Shared) (σ:L2.St) (H:Hp) (Q:Bool→Hp→Prop),Inv X pins σ H s→t σ H Q →
  wpAny (model X.prog X.w) X.A (forIn ifs true fun c r=>if r=true then do let ok ← isTrue c X.env (eval c X.env);pure (ForInStep.yield ok) else pure (ForInStep.yield r)) (TP X pins σ Q) X.xe s
theorem Qmb {X:Cx}:PTs X [] (fun _ H Q=>Q true H):=fun pins s σ H Q I q=>wpAny_tests_nil ⟨H,I,q⟩
theorem QlU {X:Cx}{c:Expr}{t:TT} (h:PT X c t):PTs X [c] t:=fun pins s σ H Q I q=>wpAny_tests_one (h pins s σ H Q I q)
theorem QeO {X:Cx}{pins:List (Addr×Obj)}{σ τ:L2.St}{H:Hp}{s:Shared}{N':List Str}{sc:Scope}{own:List Str}{tg iter elt:Expr}{ifs:List Expr}{pos:Pos}{wi:TI}{g:TG}{tt:TT}{te:TE}{Q:VK}
  {RR:Value→Addr→Result→Shared→Prop}{E:Value→Shared→Prop}
  (hcalm:X.calm=true) (hi:PI X tg iter wi) (B:BlkOk X.env.scope X.N N' sc own) (S:BlkSt X.N N' own σ τ)
  (hb:∀ cl C fp s H,PG (blk X N' sc cl C fp s H) tg g∧PTs (blk X N' sc cl C fp s H) ifs tt∧PE (blk X N' sc cl C fp s H) elt te)
  (I:Inv X pins σ H s) (q:wi σ H fun J H1=>∀ D,H1 D=none→Qc9 D J g tt te Q τ H1)
  (hRR:∀ D C H' s' m',Inv X pins σ H' s'→QgN X pins H' C→s'.heap.Ns C m'→Q (.ref D) H'→RR (.ref D) C (.ok .next) s')
  (hE:E=X.xe) :
  wpAny (model X.prog X.w) X.A (eval iter X.env) (fun xv s₁=>wpAny (model X.prog X.w) X.A (pyIter xv) (fun it s₂=>wpAny (model X.prog X.w) X.A (newList []) (fun acc s₃ =>
   wpAny (model X.prog X.w) X.A (newFunctionEnv sc X.env.globals (clo X.env sc.names []) [] X.env.qual none .none (some X.env)) (fun cenv s₄ =>
    codeAny (model X.prog X.w) X.A (.compStart (.ListComp elt [⟨tg,iter,ifs,0⟩] sc pos) 0 it acc { cenv with scope:=relabel sc X.env }) (RR acc cenv.locals) s₄) E s₃) E s₂) E s₁) E s:=by
 subst hE
 refine thn (hi pins s σ H _ I q) fun xv s1 h1=>thn h1 fun itv s2 h2=>?_
 obtain⟨it,fp,tn,J,H2,e,I2,T,st2,f2,q2⟩:=h2
 subst e
 refine wpAny_newObj_type (wpAny_newFunctionEnv B.cell (by intro y hy;simp at hy) (fun h₁ hns₁ hsb₁=>?_) B.kind)
 dsimp only at hns₁ hsb₁ ⊢
 have hDn:H2 s2.heap.objs.size=none:=I2.fresh
 obtain⟨W,⟨m0,w0⟩,turn⟩:=q2 s2.heap.objs.size hDn
 have I3:=I2.lnew (its:=[]) (ys:=[]) (t':=s2.toks) .nil (by simp)
 generalize hH2:s2.heap.push { cls:=.type "list",dict:=none,data:=.seq ([]:List Value).toArray }=HP at hns₁ hsb₁ ⊢
 have hC:HP.objs.size=s2.heap.objs.size+1:=by rw[← hH2,Heap.size_push]
 have hCle:s2.heap.objs.size≤HP.objs.size:=by rw[hC];exact Nat.le_succ _
 have hDC:s2.heap.objs.size≠HP.objs.size:=by rw[hC];exact Nat.ne_of_lt (Nat.lt_succ_self _)
 have I3':Inv X pins σ (upd H2 s2.heap.objs.size (.lst [])) { s2 with heap:=HP,toks:=s2.toks }:=by rw[← hH2];exact I3
 have old3:∀ b o,HP.get? b=some o→h₁.get? b=some o:=fun b o e=>hsb₁.extBut b o (Nat.ne_of_lt (Heap.lt_size e)) (Heap.get?_push_of_some _ e)
 have old:∀ b o,s2.heap.get? b=some o→h₁.get? b=some o:=fun b o e=>old3 b o (by rw[← hH2];exact Heap.get?_push_of_some _ e)
 have hfp:∀ b∈fp,b<s2.heap.objs.size:=fun b hb=>by obtain⟨o,e,_⟩:=T.obj _ _ st2 b hb;exact Heap.lt_size e
 have hC':upd H2 s2.heap.objs.size (.lst []) HP.objs.size=none:=by rw[Qar (Ne.symm hDC)];exact I2.hok.fresh hCle
 have IB:=Qmw (tk:=s2.toks+([]:List (Str×Value)).length) (C:=HP.objs.size) I2 B S f2 hCle hfp old hns₁ (Un.laid old (Nat.le_refl _) hDn) (I3'.hok.kept old3) hC'
 have stat:∀ {H':Hp},(∀ b∈fp,H' b=none)→∀ b∈fp,QgN (blk X N' sc (clo X.env sc.names []) HP.objs.size fp s2 H2) [] H' b:=fun hn b hb =>
  ⟨hn b hb,fun e=>Nat.lt_irrefl _ (Nat.lt_of_lt_of_le (hfp b hb) (by rw[show b=HP.objs.size from e];exact hCle)),IB.ok.exfs b hb,.inl hb,fun x c e=>(IB.ok.exf b hb).2 x c e,fun p hp=>absurd (show p∈([]:List (Addr×Obj)) from hp) (by simp)⟩
 obtain⟨pg,pt,pe⟩:=hb (clo X.env sc.names []) HP.objs.size fp s2 H2
 have fpn:∀ b∈fp,upd H2 s2.heap.objs.size (.lst []) b=none:=fun b hb=>by rw[Qar (Nat.ne_of_lt (hfp b hb))];exact(f2 b hb).1
 have tn1:tn 0 h₁:=T.keep _ _ _ st2 fun b _ o e=>old b o e
 have loop:∀ s₃:Shared,s₃={ s2 with heap:=h₁,toks:=s2.toks+([]:List (Str×Value)).length } →
   codeAny (model X.prog X.w) X.A (.compLoop (.ListComp elt [⟨tg,iter,ifs,0⟩] sc pos) 0 (.ref it) (.ref s2.heap.objs.size) (compEnvC sc (clo X.env sc.names []) HP.objs.size X.env))
    (RR (.ref s2.heap.objs.size) HP.objs.size) s₃:=by
  rintro s₃ rfl
  refine Qf8 (fun n s'=>∃ i τ' H',Inv (blk X N' sc (clo X.env sc.names []) HP.objs.size fp s2 H2) [] τ' H' s'∧tn i s'.heap∧(∀ b∈fp,H' b=none)∧W i n τ' H') ?_ m0 ⟨0,τ,_,IB,tn1,fpn,w0⟩
  rintro n s' ⟨i,τ',H',I',st',fr',w'⟩
  rcases turn i n τ' H' w' with ⟨stop,qn⟩ | ⟨go,step⟩
  ·refine thn (T.done (blk X N' sc (clo X.env sc.names []) HP.objs.size fp s2 H2) rfl rfl rfl hcalm i [] s' τ' H' _ I' (stat fr') st' stop) fun r s4 zq=>?_
   obtain⟨hr,I4⟩:=zq
   subst hr
   obtain⟨m4,hn4,_⟩:=I4.loc
   have IX:Inv X pins σ H' s4:=I2.call' (ch:=fp) I4.os I4.base I4.hok I4.bare fun b hb=>⟨(f2 b hb).2.2.2.1,(f2 b hb).2.1,(f2 b hb).2.2.2.2.1,(f2 b hb).2.2.2.2.2⟩
   refine hRR _ _ H' s4 m4 IX ?_ hn4 qn
   have z:=I2.fpOk (H':=H') hCle I4.free
   exact z
  ·refine thn (T.item (blk X N' sc (clo X.env sc.names []) HP.objs.size fp s2 H2) rfl rfl rfl hcalm i [] s' τ' H' _ I' (stat fr') st' go) fun r s4 zq=>?_
   obtain⟨u,hr,h4⟩:=zq
   subst hr
   refine thn h4 fun _ s5 zq=>?_
   obtain⟨x,H5,I5,r5,y5,st5,fr5⟩:=zq
   have I5':=I5.pinned (stat fr5) (T.obj _ _ st5)
   have keepT:∀ {τ7:L2.St}{H7:Hp}{s7:Shared},Inv (blk X N' sc (clo X.env sc.names []) HP.objs.size fp s2 H2) ([]++QeQ fp s5.heap) τ7 H7 s7→tn (i+1) s7.heap∧∀ b∈fp,H7 b=none:=fun {τ7 H7 s7} I7 =>
    ⟨T.keep _ _ _ st5 fun b hb o e=>(I7.pin (b,o) (List.mem_append_right _ (List.mem_append_right _ (QbT hb e)))).1,fun b hb=>by
     obtain⟨o,e,d⟩:=T.obj _ _ st5 b hb
     exact(I7.pin (b,o) (List.mem_append_right _ (List.mem_append_right _ (QbT hb e)))).2.1⟩
   refine thn (pg _ s5 τ' H5 x u _ I5' r5 (step x H5 y5)) fun _ s6 zq=>?_
   obtain⟨τ6,H6,I6,q6⟩:=zq
   refine thn (pt _ s6 τ6 H6 _ I6 q6) fun ok s7 zq=>?_
   obtain⟨H7,I7,q7⟩:=zq
   cases ok with
   |false =>
    rw[if_neg (by decide)]at q7 ⊢
    obtain⟨m',hm,w7⟩:=q7
    obtain⟨k1,k2⟩:=keepT I7
    exact⟨m',hm,i+1,τ6,H7,I7.unpinned,k1,k2,w7⟩
   |true =>
    rw[if_pos rfl]at q7 ⊢
    refine thn (pe _ s7 τ6 H7 _ I7 q7) fun v s8 zq=>?_
    obtain⟨y,H8,I8,r8,ys,hD8,hz,m',hm,w8⟩:=zq
    refine thn (Qfn _ s8 τ6 H8 (.ref s2.heap.objs.size) [y] _ [v] (fun _ H9=>H9=upd H8 s2.heap.objs.size (.lst (ys++[y]))) I8 rfl (.cons r8 .nil) ⟨_,ys,y,rfl,rfl,hD8,hz,rfl⟩) fun _ s9 zq=>?_
    obtain⟨_,H9,I9,_,e9⟩:=zq
    subst e9
    obtain⟨k1,k2⟩:=keepT I9
    exact⟨m',hm,i+1,τ6,_,I9.unpinned,k1,k2,w8⟩
 exact codeAny_compStart_list (loop _ rfl) (T.self X.A 0 _ _ _ tn1 (loop _ rfl))
noncomputable def itN:Bool→String
 |true=>"tuple_iterator"
 |false=>"list_iterator"
noncomputable def sqN:Bool→String
 |true=>"tuple"
 |false=>"list"
noncomputable def isIt (t:Bool) (h:Heap) (it l:Addr) (i:Nat):Prop:=∃ o,h.get? it=some o∧o.cls=.type (itN t)∧o.data=.fields #[.ref l,.int i 0]
noncomputable def isSq (t:Bool) (h:Heap) (l:Addr) (its:Array Value):Prop:=∃ o,h.get? l=some o∧o.cls=.type (sqN t)∧∃ n,o.data=.seq its n
theorem isIt.on {t:Bool}{h h':Heap}{it l:Addr}{i:Nat} (x:isIt t h it l i) (k:∀ o,h.get? it=some o→h'.get? it=some o):isIt t h' it l i:=let ⟨o,e,r⟩:=x;⟨o,k o e,r⟩
theorem isSq.on {t:Bool}{h h':Heap}{l:Addr}{its:Array Value} (x:isSq t h l its) (k:∀ o,h.get? l=some o→h'.get? l=some o):isSq t h' l its:=let ⟨o,e,r⟩:=x;⟨o,k o e,r⟩
section
variable {P:Program}{w:World}{A:Around}{E:Value→Shared→Prop}{s:Shared}
theorem QfW {t:Bool}{it l:Addr}{i:Nat}{its:Array Value}{x:Value}{Q:Value→Shared→Prop} (a:isIt t s.heap it l i) (b:isSq t s.heap l its) (c:its[i]?=some x)
  (q:∀ h',isIt t h' it l (i+1)→Heap.SameBut it s.heap h'→Q x { s with heap:=h' }):wpAny (model P w) A (Builtin.SmallTypes.nextOf (.ref it)) Q E s:=by
 cases t with
 |false=>exact wpAny_nextOf_list_item (l:=l) (i:=i) a b c q
 |true =>
  obtain⟨o,eo,ec,ed⟩:=id a
  obtain⟨ol,el,_,n,dl⟩:=b
  have ty:s.TypeIs (.ref it) "tuple_iterator":=⟨o,eo,ec⟩
  unfold Builtin.SmallTypes.nextOf
  refine wpAny_bind (wpAny_callSpecial?_slot (name:=Str.ofString "__next__") ty F.slot_tuple_iterator_next (wpAny_call_entry F.slot_tuple_iterator_next ty F.entry_tuple_iterator_next ?_ (F.args_tuple_iterator_next_1 _)))
  refine wpAny_bind (m:=field (.ref it) 0) (wpAny_field eo ed (x:=.ref l) rfl ?_)
  refine wpAny_bind (m:=field (.ref it) 1) (wpAny_field eo ed (x:=.int i 0) rfl ?_)
  refine wpAny_bind (m:=seqItems? (.ref l)) (wpAny_seqItems el dl ?_)
  simp only[Int.toNat_natCast,c]
  refine wpAny_bind (wpAny_setField eo ed (by simp) (wpAny_pure ⟨x,rfl,wpAny_pure (q _ ⟨_,Heap.get?_update_self _ eo (Obj.isFreed_of_fields (Obj.data_mapFields ed _)),(Obj.cls_mapFields ..).trans ec,?_⟩ (Heap.SameBut.update ..))⟩))
  rw[Obj.data_mapFields ed]
  simp[rawInt]
theorem Qjz {t:Bool}{it l:Addr}{i:Nat}{its:Array Value}{Q:Value→Shared→Prop} (hh:A.handled=none) (a:isIt t s.heap it l i) (b:isSq t s.heap l its) (c:its[i]?=none)
  (q:∀ h' e,Heap.ExtBut it s.heap h'→(∃ o,h'.get? e=some o∧o.cls=.type "StopIteration")→E (.ref e) { s with heap:=h' }):wpAny (model P w) A (Builtin.SmallTypes.nextOf (.ref it)) Q E s:=by
 cases t with
 |false=>exact wpAny_nextOf_list_end hh (l:=l) (i:=i) a b c q
 |true =>
  obtain⟨o,eo,ec,ed⟩:=id a
  obtain⟨ol,el,_,n,dl⟩:=b
  have ty:s.TypeIs (.ref it) "tuple_iterator":=⟨o,eo,ec⟩
  unfold Builtin.SmallTypes.nextOf
  refine wpAny_bind (wpAny_callSpecial?_slot (name:=Str.ofString "__next__") ty F.slot_tuple_iterator_next (wpAny_call_entry F.slot_tuple_iterator_next ty F.entry_tuple_iterator_next ?_ (F.args_tuple_iterator_next_1 _)))
  refine wpAny_bind (m:=field (.ref it) 0) (wpAny_field eo ed (x:=.ref l) rfl ?_)
  refine wpAny_bind (m:=field (.ref it) 1) (wpAny_field eo ed (x:=.int i 0) rfl ?_)
  refine wpAny_bind (m:=seqItems? (.ref l)) (wpAny_seqItems el dl ?_)
  simp only[Int.toNat_natCast,c]
  refine wpAny_bind (wpAny_rule (wpAny_bind (wpAny_setField eo ed (by simp) ?_)))
  refine wpAny_bind (m:=newExc (.type "StopIteration") []) ?_
  simp only[newExc,newTuple]
  refine wpAny_bind (wpAny_newObj_type (wpAny_bind (m:=firstArgMember _ _) (wpAny_of_eq (a:=Value.none) (by first | rfl | (simp only[firstArgMember];rfl)) (wpAny_newObj_type ?_ (by size_fits)))) (by size_fits))
  simp only[raiseNew]
  refine wpAny_bind (wpAny_handled ?_)
  first | rw[show A.in1.handled=none from hh] | rw[hh]
  exact wpAny_bind (wpAny_pure (wpAny_throw (q _ _ (((Heap.SameBut.update ..).extBut.push _).push _) ⟨_,Heap.get?_push_size _ rfl,rfl⟩)))
end
section
variable {P:Program}{w:World}{A:Around}{E:Value→Shared→Prop}{s:Shared}
theorem Qki {z TI TO i1 i2 l1 l2:Addr}{t1 t2:Bool}{k:Nat}{xs ys:Array Value}{x y a b:Value}{Q:Option Value→Shared→Prop} (D:ZipApart z TI TO i1 i2 l1 l2) (hz:IsZip s.heap z TI TO .none) (hI:IsPair s.heap TI (.ref i1) (.ref i2)) (hO:IsPair s.heap TO a b)
  (a1:isIt t1 s.heap i1 l1 k) (a2:isIt t2 s.heap i2 l2 k) (b1:isSq t1 s.heap l1 xs) (b2:isSq t2 s.heap l2 ys) (ex:xs[k]?=some x) (ey:ys[k]?=some y)
  (q:∀ h',IsZip h' z TI TO (rawInt s.heap.objs.size)→IsPair h' TO x y→isIt t1 h' i1 l1 (k+1)→isIt t2 h' i2 l2 (k+1)→IsPair h' s.heap.objs.size x y→(∀ c o,c∉[z,TO,i1,i2]→s.heap.get? c=some o→h'.get? c=some o)→Q (some (.ref s.heap.objs.size)) { s with heap:=h' }) :
  wpAny (model P w) A (pyNext (.ref z)) Q E s:=by
 have ty:s.TypeIs (.ref z) "zip":=⟨_,hz,rfl⟩
 unfold pyNext
 refine wpAny_bind (wpAny_attempt (wpAny_callSpecial?_slot (name:=Str.ofString "__next__") ty F.slot_zip_next (wpAny_call_entry F.slot_zip_next ty F.entry_zip_next ?_ (F.args_zip_next_1 _))))
 refine wpAny_bind (m:=field (.ref z) 2) (wpAny_field hz rfl (x:=.bool false) rfl ?_)
 refine wpAny_bind (m:=field (.ref z) 3) (wpAny_field hz rfl (x:=.ref TI) rfl (wpAny_bind (wpAny_seqItems hI rfl ?_)))
 refine wpAny_bind (m:=Builtin.SmallTypes.ownedTupleIsFree (.ref z)) ?_
 unfold Builtin.SmallTypes.ownedTupleIsFree
 refine wpAny_bind (wpAny_field hz rfl (x:=.none) rfl (wpAny_pure ?_))
 simp only[if_true]
 refine wpAny_bind (wpAny_rule (wpAny_bind (wpAny_field hz rfl (x:=.ref TO) rfl (wpAny_bind (wpAny_setField_rec hz (by simp) fun g1 z1 s1=>?_)))))
 replace z1:IsZip g1 z TI TO .ellipsis:=z1
 refine wpAny_bind ?_
 simp only[List.zipIdx_cons,List.zipIdx_nil,List.forIn_cons,List.forIn_nil]
 refine wpAny_bind (wpAny_bind (wpAny_onRaise ?_))
 refine wpAny_bind (m:=Builtin.SmallTypes.nextOf (.ref i1)) (QfW (l:=l1) (i:=k) (t:=t1) (a1.on fun o e=>s1.extBut _ _ D.i1z e) (b1.on fun o e=>s1.extBut _ _ D.l1z e) ex fun g2 a1' s2=>wpAny_pure ?_)
 have O2:IsPair g2 TO a b:=s2.extBut _ _ D.TOi1 (s1.extBut _ _ D.TOz hO)
 refine wpAny_bind (wpAny_seqItems O2 rfl (wpAny_bind (wpAny_updateSeq_pair O2 fun g3 O3 s3=>?_)))
 replace O3:IsPair g3 TO x b:=O3
 refine wpAny_bind (wpAny_letGo (wpAny_pure (wpAny_bind (wpAny_bind (wpAny_onRaise ?_)))))
 refine wpAny_bind (m:=Builtin.SmallTypes.nextOf (.ref i2)) (QfW (l:=l2) (i:=k) (t:=t2) (a2.on fun o e=>s3.extBut _ _ D.TOi2.symm (s2.extBut _ _ D.i12.symm (s1.extBut _ _ D.i2z e))) (b2.on fun o e=>s3.extBut _ _ D.l2TO (s2.extBut _ _ D.l2i1 (s1.extBut _ _ D.l2z e))) ey fun g4 a2' s4=>wpAny_pure ?_)
 have O4:IsPair g4 TO x b:=s4.extBut _ _ D.TOi2 O3
 refine wpAny_bind (wpAny_seqItems O4 rfl (wpAny_bind (wpAny_updateSeq_pair O4 fun g5 O5 s5=>?_)))
 replace O5:IsPair g5 TO x y:=O5
 refine wpAny_bind (wpAny_letGo (wpAny_pure (wpAny_pure (wpAny_bind (wpAny_seqItems O5 rfl (wpAny_bind (wpAny_newTuple ?_)))))))
 have sz:g5.objs.size=s.heap.objs.size:=by rw[s5.1,s4.1,s3.1,s2.1,s1.1]
 have z5:IsZip g5 z TI TO .ellipsis:=s5.extBut _ _ D.TOz.symm (s4.extBut _ _ D.i2z.symm (s3.extBut _ _ D.TOz.symm (s2.extBut _ _ D.i1z.symm z1)))
 have k5:∀ c o,c∉[z,TO,i1,i2]→s.heap.get? c=some o→g5.get? c=some o:=fun c o hc e=>by
  simp only[List.mem_cons,List.not_mem_nil,or_false,not_or]at hc
  exact s5.extBut _ _ hc.2.1 (s4.extBut _ _ hc.2.2.2 (s3.extBut _ _ hc.2.1 (s2.extBut _ _ hc.2.2.1 (s1.extBut _ _ hc.1 e))))
 have p1:isIt t1 g5 i1 l1 (k+1):=a1'.on fun o e=>s5.extBut _ _ D.TOi1.symm (s4.extBut _ _ D.i12 (s3.extBut _ _ D.TOi1.symm e))
 have p2:isIt t2 g5 i2 l2 (k+1):=a2'.on fun o e=>s5.extBut _ _ D.TOi2.symm e
 have zlt:z<g5.objs.size:=Heap.lt_size z5
 refine wpAny_bind (m:=Builtin.SmallTypes.ownedTupleHandOut (.ref z) (.ref g5.objs.size)) ?_
 unfold Builtin.SmallTypes.ownedTupleHandOut
 refine wpAny_bind (wpAny_setField_rec (show IsZip (g5.push { cls:=.type "tuple",data:=.seq #[x,y] }) z TI TO .ellipsis from Heap.get?_push_of_some _ z5) (by simp) fun g7 z7 s7=>?_)
 replace z7:IsZip g7 z TI TO (rawInt g5.objs.size):=z7
 refine wpAny_setField_rec z7 (by simp) fun g8 z8 s8=>?_
 replace z8:IsZip g8 z TI TO (rawInt g5.objs.size):=z8
 have up:∀ c o,c≠z→g5.get? c=some o→g8.get? c=some o:=fun c o c1 e=>s8.extBut _ _ c1 (s7.extBut _ _ c1 (Heap.get?_push_of_some _ e))
 have T8:IsPair g8 g5.objs.size x y:=s8.extBut _ _ (Nat.ne_of_gt zlt) (s7.extBut _ _ (Nat.ne_of_gt zlt) (Heap.get?_push_size _ rfl))
 rw[sz]at z8 T8
 refine wpAny_pure ⟨_,rfl,wpAny_pure ?_⟩
 show Q (some (.ref g5.objs.size)) _
 rw[sz]
 exact q g8 z8 (up _ _ D.TOz O5) (p1.on fun o e=>up _ o D.i1z e) (p2.on fun o e=>up _ o D.i2z e) T8 fun c o hc e=>up c o (fun z=>hc (by simp[z])) (k5 c o hc e)
theorem QkL {z TI TO i1 i2 l1 l2:Addr}{t1 t2:Bool}{k:Nat}{xs ys:Array Value}{a b:Value}{Q:Option Value→Shared→Prop} (hh:A.handled=none) (D:ZipApart z TI TO i1 i2 l1 l2) (hz:IsZip s.heap z TI TO .none) (hI:IsPair s.heap TI (.ref i1) (.ref i2)) (hO:IsPair s.heap TO a b)
  (a1:isIt t1 s.heap i1 l1 k) (a2:isIt t2 s.heap i2 l2 k) (b1:isSq t1 s.heap l1 xs) (b2:isSq t2 s.heap l2 ys) (en:xs[k]?=none∨ys[k]?=none)
  (q:∀ h',(∀ c o,c∉[z,TO,i1,i2]→s.heap.get? c=some o→h'.get? c=some o)→Q none { s with heap:=h' }):wpAny (model P w) A (pyNext (.ref z)) Q E s:=by
 have ty:s.TypeIs (.ref z) "zip":=⟨_,hz,rfl⟩
 unfold pyNext
 refine wpAny_bind (wpAny_attempt (wpAny_callSpecial?_slot (name:=Str.ofString "__next__") ty F.slot_zip_next (wpAny_call_entry F.slot_zip_next ty F.entry_zip_next ?_ (F.args_zip_next_1 _))))
 refine wpAny_bind (m:=field (.ref z) 2) (wpAny_field hz rfl (x:=.bool false) rfl ?_)
 refine wpAny_bind (m:=field (.ref z) 3) (wpAny_field hz rfl (x:=.ref TI) rfl (wpAny_bind (wpAny_seqItems hI rfl ?_)))
 refine wpAny_bind (m:=Builtin.SmallTypes.ownedTupleIsFree (.ref z)) ?_
 unfold Builtin.SmallTypes.ownedTupleIsFree
 refine wpAny_bind (wpAny_field hz rfl (x:=.none) rfl (wpAny_pure ?_))
 simp only[if_true]
 refine wpAny_bind (wpAny_rule (wpAny_bind (wpAny_field hz rfl (x:=.ref TO) rfl (wpAny_bind (wpAny_setField_rec hz (by simp) fun g1 z1 s1=>?_)))))
 replace z1:IsZip g1 z TI TO .ellipsis:=z1
 refine wpAny_bind ?_
 simp only[List.zipIdx_cons,List.zipIdx_nil,List.forIn_cons,List.forIn_nil]
 refine wpAny_bind (wpAny_bind (wpAny_onRaise ?_))
 have fin:∀ {h':Heap}{e:Addr},(∃ o,h'.get? e=some o∧o.cls=.type "StopIteration")→(∀ c o,c∉[z,TO,i1,i2]→s.heap.get? c=some o→h'.get? c=some o) →
   wpAny (model P w) A (isInstance (.ref e) (.type "StopIteration")) (fun r s'=>wpAny (model P w) A (if r=true then pure none else throw (Value.ref e)) Q E s') E { s with heap:=h' }:=fun {h' e} ⟨o,ho,hc⟩ kk =>
  wpAny_isInstance (T:="StopIteration") (b:=true) ⟨o,ho,hc⟩ isSubtype_stop (wpAny_pure (q _ kk))
 cases hx:xs[k]? with
 |none =>
  refine wpAny_bind (m:=Builtin.SmallTypes.nextOf (.ref i1)) (Qjz (l:=l1) (i:=k) (t:=t1) hh (a1.on fun o e=>s1.extBut _ _ D.i1z e) (b1.on fun o e=>s1.extBut _ _ D.l1z e) hx fun g2 e s2 he=>?_)
  obtain⟨oe,ho,hc⟩:=he
  have z2:IsZip g2 z TI TO .ellipsis:=s2 _ _ D.i1z.symm z1
  have ez:e≠z:=fun r=>by subst r;rw[z2]at ho;cases ho;simp at hc
  refine wpAny_setField_rec z2 (by simp) fun g3 _ s3=>wpAny_bind (fin ⟨oe,s3.extBut _ _ ez ho,hc⟩ fun c o hc e=>?_)
  simp only[List.mem_cons,List.not_mem_nil,or_false,not_or]at hc
  exact s3.extBut _ _ hc.1 (s2 _ _ hc.2.2.1 (s1.extBut _ _ hc.1 e))
 |some x =>
  have hy:ys[k]?=none:=by rcases en with r | r;rw[hx]at r;cases r;exact r
  refine wpAny_bind (m:=Builtin.SmallTypes.nextOf (.ref i1)) (QfW (l:=l1) (i:=k) (t:=t1) (a1.on fun o e=>s1.extBut _ _ D.i1z e) (b1.on fun o e=>s1.extBut _ _ D.l1z e) hx fun g2 a1' s2=>wpAny_pure ?_)
  have O2:IsPair g2 TO a b:=s2.extBut _ _ D.TOi1 (s1.extBut _ _ D.TOz hO)
  refine wpAny_bind (wpAny_seqItems O2 rfl (wpAny_bind (wpAny_updateSeq_pair O2 fun g3 O3 s3=>?_)))
  refine wpAny_bind (wpAny_letGo (wpAny_pure (wpAny_bind (wpAny_bind (wpAny_onRaise ?_)))))
  refine wpAny_bind (m:=Builtin.SmallTypes.nextOf (.ref i2)) (Qjz (l:=l2) (i:=k) (t:=t2) hh (a2.on fun o e=>s3.extBut _ _ D.TOi2.symm (s2.extBut _ _ D.i12.symm (s1.extBut _ _ D.i2z e))) (b2.on fun o e=>s3.extBut _ _ D.l2TO (s2.extBut _ _ D.l2i1 (s1.extBut _ _ D.l2z e))) hy fun g4 e s4 he=>?_)
  obtain⟨oe,ho,hc⟩:=he
  have z4:IsZip g4 z TI TO .ellipsis:=s4 _ _ D.i2z.symm (s3.extBut _ _ D.TOz.symm (s2.extBut _ _ D.i1z.symm z1))
  have ez:e≠z:=fun r=>by subst r;rw[z4]at ho;cases ho;simp at hc
  refine wpAny_setField_rec z4 (by simp) fun g5 _ s5=>wpAny_bind (fin ⟨oe,s5.extBut _ _ ez ho,hc⟩ fun c o hc e=>?_)
  simp only[List.mem_cons,List.not_mem_nil,or_false,not_or]at hc
  exact s5.extBut _ _ hc.1 (s4 _ _ hc.2.2.2 (s3.extBut _ _ hc.2.1 (s2.extBut _ _ hc.2.2.1 (s1.extBut _ _ hc.1 e))))
end
section
variable {P:Program}{w:World}{A:Around}{E:Value→Shared→Prop}{s:Shared}
theorem Qit {t:Bool}{l:Addr}{its:Array Value}{Q:Value→Shared→Prop} (a:isSq t s.heap l its) (q:Q (.ref s.heap.objs.size) { s with heap:=s.heap.push { cls:=.type (itN t),data:=.fields #[.ref l,.int 0 0] } }):wpAny (model P w) A (pyIter (.ref l)) Q E s:=by
 cases t
 ·exact wpAny_pyIter_list a q
 ·exact wpAny_pyIter_tuple a q
noncomputable abbrev zh1 (t1:Bool) (h:Heap) (l1:Addr):Heap:=h.push { cls:=.type (itN t1),data:=.fields #[.ref l1,.int 0 0] }
noncomputable abbrev zh2 (t1 t2:Bool) (h:Heap) (l1 l2:Addr):Heap:=(zh1 t1 h l1).push { cls:=.type (itN t2),data:=.fields #[.ref l2,.int 0 0] }
noncomputable abbrev zh3 (t1 t2:Bool) (h:Heap) (l1 l2:Addr):Heap:=(zh2 t1 t2 h l1 l2).push { cls:=.type "tuple",data:=.seq #[.ref h.objs.size,.ref (zh1 t1 h l1).objs.size] }
noncomputable abbrev zh4 (t1 t2:Bool) (h:Heap) (l1 l2:Addr):Heap:=(zh3 t1 t2 h l1 l2).push { cls:=.type "tuple",data:=.seq #[.none,.none] }
noncomputable abbrev zh5 (t1 t2:Bool) (h:Heap) (l1 l2:Addr):Heap:=(zh4 t1 t2 h l1 l2).push { cls:=.type "zip",data:=.fields #[.none,.bool false,.bool false,.ref (zh2 t1 t2 h l1 l2).objs.size,.ref (zh3 t1 t2 h l1 l2).objs.size] }
theorem Qkw (t1 t2:Bool) (l1 l2:Addr) (xs ys:Array Value):Meets (Builtin.«zip.__new__» ⟨[.type "zip",.ref l1,.ref l2],[]⟩) (fun _ R s=>isSq t1 s.heap l1 xs∧isSq t2 s.heap l2 ys∧R (.ok (.ret (.ref (zh4 t1 t2 s.heap l1 l2).objs.size))) { s with heap:=zh5 t1 t2 s.heap l1 l2 }) :=
 .of_wp fun P w A R s h=>by
  obtain⟨hp,g,d,tk,os⟩:=s
  obtain⟨c1,c2,h⟩:=h
  have hsub:=sub_zip
  have m1:isSq t1 (Shared.heap ⟨hp,g,d,tk,os⟩) l1 xs:=c1
  have m2:isSq t2 (Shared.heap ⟨hp.push { cls:=.type (itN t1),data:=.fields #[.ref l1,.int 0 0] },g,d,tk,os⟩) l2 ys:=c2.on fun o e=>Heap.get?_push_of_some _ e
  wp_walk using Qit m1,Qit m2
  exact⟨_,rfl,h⟩
theorem QjZ {t1 t2:Bool}{l1 l2:Addr}{xs ys:Array Value}{Q:Value→Shared→Prop} (c1:isSq t1 s.heap l1 xs) (c2:isSq t2 s.heap l2 ys)
  (q:∀ h',IsZip h' (s.heap.objs.size+4) (s.heap.objs.size+2) (s.heap.objs.size+3) .none→IsPair h' (s.heap.objs.size+2) (.ref s.heap.objs.size) (.ref (s.heap.objs.size+1))→IsPair h' (s.heap.objs.size+3) .none .none →
   isIt t1 h' s.heap.objs.size l1 0→isIt t2 h' (s.heap.objs.size+1) l2 0→(∀ c o,s.heap.get? c=some o→h'.get? c=some o)→Q (.ref (s.heap.objs.size+4)) { s with heap:=h' }):wpAny (model P w) A (call (.type "zip") [.ref l1,.ref l2]) Q E s:=by
 refine callType_new F.called_zip (by decide) (F.typeCall_zip_2 _ _) (F.newCall_zip_2 _ _) (fun obj=>F.args_object_init_3 obj _ _) F.entry_zip_new (Qkw t1 t2 l1 l2 xs ys) ⟨c1,c2,?_⟩
 have n1:(zh1 t1 s.heap l1).objs.size=s.heap.objs.size+1:=Heap.size_push ..
 have n2:(zh2 t1 t2 s.heap l1 l2).objs.size=s.heap.objs.size+2:=by rw[Heap.size_push,n1]
 have n3:(zh3 t1 t2 s.heap l1 l2).objs.size=s.heap.objs.size+3:=by rw[Heap.size_push,n2]
 have n4:(zh4 t1 t2 s.heap l1 l2).objs.size=s.heap.objs.size+4:=by rw[Heap.size_push,n3]
 have g5:(zh5 t1 t2 s.heap l1 l2).get? (zh4 t1 t2 s.heap l1 l2).objs.size=some _:=Heap.get?_push_size _ rfl
 have g4:(zh5 t1 t2 s.heap l1 l2).get? (zh3 t1 t2 s.heap l1 l2).objs.size=some _:=Heap.get?_push_of_some _ (Heap.get?_push_size _ rfl)
 have g3:(zh5 t1 t2 s.heap l1 l2).get? (zh2 t1 t2 s.heap l1 l2).objs.size=some _:=Heap.get?_push_of_some _ (Heap.get?_push_of_some _ (Heap.get?_push_size _ rfl))
 have g2:(zh5 t1 t2 s.heap l1 l2).get? (zh1 t1 s.heap l1).objs.size=some _:=Heap.get?_push_of_some _ (Heap.get?_push_of_some _ (Heap.get?_push_of_some _ (Heap.get?_push_size _ rfl)))
 have g1:(zh5 t1 t2 s.heap l1 l2).get? s.heap.objs.size=some _:=Heap.get?_push_of_some _ (Heap.get?_push_of_some _ (Heap.get?_push_of_some _ (Heap.get?_push_of_some _ (Heap.get?_push_size _ rfl))))
 show _∧_
 rw[n2,n3,n4]at g5
 rw[n1,n2]at g3
 rw[n3]at g4
 rw[n1]at g2
 rw[n4]
 exact⟨⟨_,g5,rfl⟩,q _ g5 g3 g4 ⟨_,g1,rfl,rfl⟩ ⟨_,g2,rfl,rfl⟩ fun c o x=>Heap.get?_push_of_some _ (Heap.get?_push_of_some _ (Heap.get?_push_of_some _ (Heap.get?_push_of_some _ (Heap.get?_push_of_some _ x))))⟩
end
section
variable {P:Program}{w:World}{A:Around}{E:Value→Shared→Prop}{s:Shared}
end
noncomputable def SqB (K:PySem.W.Frag) (t:Bool) (H:Hp) (a:Addr) (xs:List V):Prop:=match t with
 |true=>SqT K H a xs
 |false=>SqL K H a xs
section
variable {X:Cx}{pins:List (Addr×Obj)}{σ:L2.St}{H:Hp}{s:Shared}{t:Bool}{a b:Addr}{xs ys:List V}
theorem SqB.at_ (I:Inv X pins σ H s) (q:SqB X.K t H a xs):∃ its:List Value,Vals xs its∧isSq t s.heap a its.toArray:=by
 cases t with
 |false=>obtain⟨its,r,p,_⟩:=I.list q;exact⟨its,r,p.isList⟩
 |true=>obtain⟨its,r,p,_⟩:=I.tuple q;exact⟨its,r,show s.heap.IsTuple a its.toArray from p⟩
theorem SqB.inj (I:Inv X pins σ H s) (q:SqB X.K t H a xs) (r:SqB X.K t H a ys):xs=ys:=by
 cases t with
 |false=>exact I.list_inj q r
 |true=>exact I.tuple_inj q r
theorem Rd.ne {u:HO} (r:Rd H a u) (f:H b=none):a≠b:=by
 rintro rfl
 rcases r with r | ⟨_,r⟩<;>rw[f]at r<;>cases r
theorem Ql8 {o:Obj} (I:Inv X pins σ H s) (k:X.K.lookup a=some o) (f:QgN X pins H b):a≠b:=by
 rintro rfl
 have e:=I.mod.kin a o k
 rcases f.2.2.2.1 with z | z
 ·exact I.ok.noex a o e z
 ·exact absurd (Nat.lt_of_lt_of_le (Heap.lt_size e) (Nat.le_trans I.ok.bsz z)) (Nat.lt_irrefl _)
theorem SqB.ne (I:Inv X pins σ H s) (q:SqB X.K t H a xs) (f:QgN X pins H b):a≠b:=by
 cases t with
 |false =>
  rcases q with q | ⟨o,_,_,k,_⟩
  ·exact Rd.ne q f.1
  ·exact Ql8 I k f
 |true =>
  rcases q with q | ⟨o,_,_,k,_⟩
  ·exact Rd.ne q f.1
  ·exact Ql8 I k f
theorem QkU {fp:List Addr}{h':Heap}{t':Nat}{x y:V}{u v:Value} (I:Inv X pins σ H s) (hf:∀ b∈fp,QgN X pins H b) (k:∀ b o,b∉fp→s.heap.get? b=some o→h'.get? b=some o) (hp:IsPair h' s.heap.objs.size u v) (ru:RelV x u) (rv:RelV y v) :
  Inv X pins σ (upd H s.heap.objs.size (.tup [x,y])) { s with heap:=h',toks:=t' }:=by
 have hn:=I.fresh
 have nz:∀ c (o:HO),H c=some o→c≠s.heap.objs.size:=fun c o e z=>by rw[z,hn]at e;cases e
 have lt:∀ b o,s.heap.get? b=some o→b≠s.heap.objs.size:=fun b o e=>Nat.ne_of_lt (Heap.lt_size e)
 have nf:∀ c (o:HO),H c=some o→c∉fp:=fun c o e z=>by rw[(hf c z).1]at e;cases e
 refine I.step (g':=s.gens) (d':=s.drawn) (ch:=fp) (fun b hb=>?_) (fun b o _ _ hc e _=>k b o hc e) (fun b o _ _ hc e _=>⟨o.slots,k b o hc e⟩) (fun b o _ e n=>by rw[Qar (lt b o e)];exact n)
  (fun b o hc e=>⟨o,k b o hc e⟩) (fun b _ e=>by rw[Qar (nz b _ e)];exact e) (fun b _ _ e=>by rw[Qar (nz b _ e)];exact e) (fun b ps e=>⟨#[],by rw[Qar (nz b _ e),e];simp⟩) (fun m hm=>?_) (fun b o e=>?_) I.bare
 ·obtain⟨_,f1,_,f3,f4,f5⟩:=hf b hb
  exact⟨f3,f1,f4,f5⟩
 ·obtain⟨o,es,ep,ho,r⟩:=hm
  exact⟨o,es,ep,k _ o (fun z=>(hf _ z).2.1 rfl) ho,r⟩
 ·by_cases hb:b=s.heap.objs.size
  ·subst hb
   rw[QaK]at e
   cases e
   exact⟨by show 2≤sizeLine;decide,[u,v],.cons ru (.cons rv .nil),⟨_,hp,rfl,_,rfl⟩⟩
  ·rw[Qar hb]at e
   refine(I.hok b o e).stay (fun c v hc q=>k c v ?_ q) (fun c q=>by rw[Qar (nz c _ q)];exact q) fun c _ q=>by rw[Qar (nz c _ q)];exact q
   rcases hc with z | z
   ·rw[z];exact nf b o e
   ·exact nf c _ z
theorem QhI {fp:List Addr}{h':Heap}{t':Nat} (I:Inv X pins σ H s) (hf:∀ b∈fp,QgN X pins H b) (k:∀ b o,b∉fp→s.heap.get? b=some o→h'.get? b=some o):Inv X pins σ H { s with heap:=h',toks:=t' }:=by
 have nf:∀ c (o:HO),H c=some o→c∉fp:=fun c o e z=>by rw[(hf c z).1]at e;cases e
 refine I.step (g':=s.gens) (d':=s.drawn) (ch:=fp) (fun b hb=>?_) (fun b o _ _ hc e _=>k b o hc e) (fun b o _ _ hc e _=>⟨o.slots,k b o hc e⟩) (fun b o _ e n=>n)
  (fun b o hc e=>⟨o,k b o hc e⟩) (fun b _ e=>e) (fun b _ _ e=>e) (fun b ps e=>⟨#[],by rw[e];simp⟩) (fun m hm=>?_) (fun b o e=>?_) I.bare
 ·obtain⟨_,f1,_,f3,f4,f5⟩:=hf b hb
  exact⟨f3,f1,f4,f5⟩
 ·obtain⟨o,es,ep,ho,r⟩:=hm
  exact⟨o,es,ep,k _ o (fun z=>(hf _ z).2.1 rfl) ho,r⟩
 ·refine(I.hok b o e).stay (fun c v hc q=>k c v ?_ q) (fun c q=>q) fun c _ q=>q
  rcases hc with z | z
  ·rw[z];exact nf b o e
  ·exact nf c _ z
end
noncomputable def Itz (K:PySem.W.Frag) (t1 t2:Bool) (a b:Addr):L2.It :=
 ⟨fun i H => ∃ xs ys x y, SqB K t1 H a xs ∧ SqB K t2 H b ys ∧ xs[i]? = some x ∧ ys[i]? = some y,
  fun i H v H'=>∃ p x y,H p=none∧v=.ref p∧H'=upd H p (.tup [x,y])∧(∀ xs,SqB K t1 H a xs→xs[i]?=some x)∧∀ ys,SqB K t2 H b ys→ys[i]?=some y,
  fun i H => ∃ xs ys, SqB K t1 H a xs ∧ SqB K t2 H b ys ∧ (xs.length ≤ i ∨ ys.length ≤ i)⟩
noncomputable def tnZ (t1 t2:Bool) (a b n:Addr) (i:Nat) (h:Heap):Prop:=IsZip h (n+4) (n+2) (n+3) .none∧IsPair h (n+2) (.ref n) (.ref (n+1))∧(∃ u v,IsPair h (n+3) u v)∧isIt t1 h n a i∧isIt t2 h (n+1) b i
noncomputable abbrev fpZ (n:Addr):List Addr:=[n+4,n+2,n+3,n,n+1]
theorem apart {n a b:Addr} (ha:∀ c∈fpZ n,a≠c) (hb:∀ c∈fpZ n,b≠c):ZipApart (n+4) (n+2) (n+3) n (n+1) a b:=by
 refine⟨?_,?_,?_,?_,?_,?_,?_,?_,?_,?_,ha _ (by simp),ha _ (by simp),ha _ (by simp),ha _ (by simp),hb _ (by simp),hb _ (by simp),hb _ (by simp),hb _ (by simp)⟩<;>(show @Ne Nat _ _;omega)
theorem QkE {P:Program}{w:World}{K:PySem.W.Frag}{es:List Expr}{x1}{pos:Pos} (t1 t2:Bool) (a b n:Addr):Turn P w K (.Tuple es x1 pos) (Itz K t1 t2 a b) (fpZ n) (n+4) (tnZ t1 t2 a b n) where
 mem:=by simp
 obj:=fun i h ⟨q1,q2,⟨u,v,q3⟩,⟨o4,q4,_,d4⟩,⟨o5,q5,_,d5⟩⟩ c hc=>by
  simp only[List.mem_cons,List.not_mem_nil,or_false]at hc
  rcases hc with rfl | rfl | rfl | rfl | rfl
  ·exact⟨_,q1,fun v z=>by cases (show Data.fields _=Data.cell v from z)⟩
  ·exact⟨_,q2,fun v z=>by cases (show Data.seq _ _=Data.cell v from z)⟩
  ·exact⟨_,q3,fun v z=>by cases (show Data.seq _ _=Data.cell v from z)⟩
  ·exact⟨o4,q4,fun v z=>by rw[d4]at z;cases z⟩
  ·exact⟨o5,q5,fun v z=>by rw[d5]at z;cases z⟩
 keep:=fun i h h' ⟨q1,q2,⟨u,v,q3⟩,q4,q5⟩ k=>⟨k _ (by simp) _ q1,k _ (by simp) _ q2,⟨u,v,k _ (by simp) _ q3⟩,q4.on fun o e=>k _ (by simp) o e,q5.on fun o e=>k _ (by simp) o e⟩
 item:=by
  intro X hP hw hK hc i pins s σ H E I hf st hg
  subst hP hw hK
  obtain⟨xs,ys,x,y,s1,s2,ex,ey⟩:=hg
  obtain⟨q1,q2,⟨u,v,q3⟩,q4,q5⟩:=st
  obtain⟨is1,r1,p1⟩:=s1.at_ I
  obtain⟨is2,r2,p2⟩:=s2.at_ I
  obtain⟨ux,hux,rx⟩:=r1.get ex
  obtain⟨uy,huy,ry⟩:=r2.get ey
  have D:=apart (n:=n) (a:=a) (b:=b) (fun c hc=>s1.ne I (hf c hc)) (fun c hc=>s2.ne I (hf c hc))
  refine Qki D q1 q2 q3 q4 q5 p1 p2 (x:=ux) (y:=uy) (by simpa using hux) (by simpa using huy) fun h' z1 z2 z3 z4 z5 kk=>⟨_,rfl,?_⟩
  refine wpAny_letOwnedTupleGo_zip z1 fun h2 y1 sb=>?_
  have kz:∀ c o,c∉fpZ n→s.heap.get? c=some o→h2.get? c=some o:=fun c o hc e=>sb.extBut _ _ (fun z=>hc (by simp[z])) (kk c o (fun z=>hc (by
   simp only[List.mem_cons,List.not_mem_nil,or_false]at z ⊢
   rcases z with z | z | z | z
   ·exact .inl z
   ·exact .inr (.inr (.inl z))
   ·exact .inr (.inr (.inr (.inl z)))
   ·exact .inr (.inr (.inr (.inr z))))) e)
  have hz:n+4<s.heap.objs.size:=Heap.lt_size q1
  have I1:=QkU (t':=s.toks) I hf kz (sb.extBut _ _ (Nat.ne_of_gt hz) z5) rx ry
  refine⟨.ref s.heap.objs.size,_,I1,rfl,⟨_,x,y,I.fresh,rfl,rfl,fun zs hs=>by rw[SqB.inj I hs s1];exact ex,fun zs hs=>by rw[SqB.inj I hs s2];exact ey⟩,
   ⟨y1,?_,⟨_,_,sb.extBut _ _ (by show @Ne Nat _ _;omega) z2⟩,z3.on fun o e=>sb.extBut _ _ (by show @Ne Nat _ _;omega) e,z4.on fun o e=>sb.extBut _ _ (by show @Ne Nat _ _;omega) e⟩,fun b hb=>?_⟩
  ·refine sb.extBut _ _ (by show @Ne Nat _ _;omega) (kk _ _ ?_ q2)
   simp only[List.mem_cons,List.not_mem_nil,or_false]
   rintro (z | z | z | z)<;>exact absurd z (by show @Ne Nat _ _;omega)
  ·have:b<s.heap.objs.size:=by
    have hb':=hb
    simp only[fpZ,List.mem_cons,List.not_mem_nil,or_false]at hb'
    have hz':@LT.lt Nat _ (n+4) s.heap.objs.size:=hz
    rcases hb' with rfl | rfl | rfl | rfl | rfl<;>(show @LT.lt Nat _ _ _;omega)
   rw[Qar (Nat.ne_of_lt this)]
   exact(hf b hb).1
 done:=by
  intro X hP hw hK hc i pins s σ H E I hf st hg
  subst hP hw hK
  obtain⟨xs,ys,s1,s2,en⟩:=hg
  obtain⟨q1,q2,⟨u,v,q3⟩,q4,q5⟩:=st
  obtain⟨is1,r1,p1⟩:=s1.at_ I
  obtain⟨is2,r2,p2⟩:=s2.at_ I
  have D:=apart (n:=n) (a:=a) (b:=b) (fun c hc=>s1.ne I (hf c hc)) (fun c hc=>s2.ne I (hf c hc))
  have l1:=r1.length
  have l2:=r2.length
  refine QkL (I.ok.hd hc) D q1 q2 q3 q4 q5 p1 p2 (by simp;omega) fun h' kk=>⟨rfl,QhI (t':=s.toks) I hf fun c o hc e=>kk c o (fun z=>hc (by
   simp only[List.mem_cons,List.not_mem_nil,or_false]at z ⊢
   rcases z with z | z | z | z
   ·exact .inl z
   ·exact .inr (.inr (.inl z))
   ·exact .inr (.inr (.inr (.inl z)))
   ·exact .inr (.inr (.inr (.inr z))))) e⟩
 self:=fun A i s Q E st h=>wpAny_pyIter_zip st.1 h
section
variable {P:Program}{w:World}{A:Around}{E:Value→Shared→Prop}{s:Shared}
end
noncomputable def FX:EXT:=fun _ _ _ _=>False
theorem RelE.weak {K:PySem.W.Frag}{ρ:List Addr}{H:Hp}{σ σ':Qai}{τ:L2.St} (r:RelE K ρ H σ' τ) (hl:σ.length=σ'.length) (h:∀ (i:Nat) (w:W),σ[i]?=some (some w)→σ'[i]?=some (some w)):RelE K ρ H σ τ :=
 ⟨hl.trans r.len,fun i w e=>r.at_ i w (h i w e)⟩
theorem set_up {σ:Qai}{i:Nat}{w:W} (hn:∀ u,σ[i]?≠some (some u)):(σ.set i (some w)).length=σ.length∧∀ (j:Nat) (u:W),σ[j]?=some (some u)→(σ.set i (some w))[j]?=some (some u) :=
 ⟨by simp,fun j u e=>by
  have hij:i≠j:=by rintro rfl;exact hn u e
  rw[List.getElem?_set_ne hij];exact e⟩
theorem Qd2:∀ {is:List Nat}{ws:List W}{σ σ':Qai},Qcj is ws σ=some σ'→σ'.length=σ.length∧∀ (j:Nat) (u:W),j∉is→σ[j]?=some (some u)→σ'[j]?=some (some u)
 |[],[],σ,σ',e=>by cases e;exact⟨rfl,fun _ _ _ z=>z⟩
 |[],_::_,_,_,e=>by cases e
 |_::_,[],_,_,e=>by cases e
 |i::is,w::ws,σ,σ',e=>by
  obtain⟨h1,h2⟩:=Qd2 (is:=is) (ws:=ws) e
  refine⟨by rw[h1];simp,fun j u hj z=>h2 j u (fun m=>hj (List.mem_cons_of_mem _ m)) ?_⟩
  rw[List.getElem?_set_ne (by rintro rfl;exact hj List.mem_cons_self)];exact z
theorem Qk5 {is:List Nat}{w:W}{σ σ':Qai} (e:QaG is w σ=some σ') (hn:∀ i∈is,∀ u,σ[i]?≠some (some u)):σ'.length=σ.length∧∀ (j:Nat) (u:W),σ[j]?=some (some u)→σ'[j]?=some (some u):=by
 unfold QaG at e
 split at e
 ·rename_i i
  cases e
  exact set_up (hn i (by simp))
 ·split at e
  ·obtain⟨h1,h2⟩:=Qd2 e
   exact⟨h1,fun j u z=>h2 j u (fun m=>hn j m u z) z⟩
  ·obtain⟨h1,h2⟩:=Qd2 e
   exact⟨h1,fun j u z=>h2 j u (fun m=>hn j m u z) z⟩
  ·cases e
open Classical in
theorem Qeb {K:PySem.W.Frag}{EX:EXT}{ρ1:List Addr}{h1:Qac}{H1:Hp}{σ0:Qai}{τ0:L2.St}{J:L2.It}{ws:List W}{src:Option Nat}{is:List Nat}{ts:Qai→Qac→Res Bool}{ev:Qai→Qac→Res W}{Q:VK}
  (re:RelE K ρ1 H1 σ0 τ0) (hr:HRel K ρ1 h1 H1) (hsrc:∀ k,src=some k→k<h1.length)
  (ok:∀ ρ h H i,Ext ρ1 H1 ρ H→HRel K ρ h H→(∀ k,src=some k→h[k]?=h1[k]?)→(i=ws.length→J.stop i H)∧∀ w,ws[i]?=some w→J.go i H∧∀ x H',J.yld i H x H'→Ext ρ H ρ H'∧HRel K ρ h H'∧Rel K ρ H' w x)
  (hcl:∀ i∈is,∀ u,σ0[i]?≠some (some u))
  (q:RQ K EX ρ1 H1 (Qh2 h1.length (lc h1.length src (fun w h=>QbJ (QaG is w σ0) ts ev h) ws (h1++[.lst []]))) fun w _ ρ' H'=>∀ v,Rel K ρ' H' w v→Q v H') :
  ∀ D,H1 D=none→Qc9 D J (tGI K is) (tIT K FX ts) (tI K FX ev) Q τ0 H1:=by
 intro D hD
 generalize hR:Qh2 h1.length (lc h1.length src (fun w h=>QbJ (QaG is w σ0) ts ev h) ws (h1++[.lst []]))=R0 at q
 have hl1:ρ1.length=h1.length:=hr.len
 have hD1:D∉ρ1:=hr.new hD
 refine⟨fun i m τ H=>m=ws.length-i∧i≤ws.length∧∃ ρ h,Ext ρ1 H1 ρ H∧ρ[h1.length]?=some D∧RelE K ρ H σ0 τ∧HRel K ρ h H∧(∀ k,src=some k→h[k]?=h1[k]?) ∧
  Qh2 h1.length (lc h1.length src (fun w h=>QbJ (QaG is w σ0) ts ev h) (ws.drop i) h)=R0,⟨ws.length,by simp,Nat.zero_le _,ρ1++[D],h1++[.lst []],ext_cell hr hD,?_,re.ext (ext_cell hr hD),hr.cell (ws:=[]) (xs:=[]) hD (by rw[Qam]) .nil,?_,by rw[List.drop_zero];exact hR⟩,?_⟩
 ·rw[List.getElem?_append_right (by omega),hl1];simp
 ·intro k hk
  rw[List.getElem?_append_left (hsrc k hk)]
 rintro i m τ H ⟨rfl,hi,ρ,h,x,hD2,re2,hr2,hk,hq⟩
 obtain⟨ok1,ok2⟩:=ok ρ h H i x hr2 hk
 by_cases hlt:i<ws.length
 ·refine .inr ?_
  obtain⟨go,yl⟩:=ok2 ws[i] (List.getElem?_eq_getElem hlt)
  refine⟨go,fun v H' y=>?_⟩
  obtain⟨xe,hr2',rv⟩:=yl v H' y
  replace x:=x.trans xe
  replace re2:=re2.ext xe
  clear ok1 ok2 yl go
  replace hr2:=hr2'
  rw[List.drop_eq_getElem_cons hlt,lc]at hq
  cases eb:QaG is ws[i] σ0 with
  |none =>
   rw[eb]at hq
   have:R0=.stuck:=hq.symm
   rw[this]at q;exact q.elim
  |some σ1 =>
   rw[eb]at hq
   obtain⟨u1,u2⟩:=Qk5 eb hcl
   refine⟨ρ,σ0,ws[i],σ1,re2,rv,eb,fun τ' re'=>⟨ρ,σ1,h,re',hr2,?_⟩⟩
   have re0:RelE K ρ _ σ0 τ':=re'.weak u1.symm u2
   unfold QbJ at hq
   dsimp only at hq
   cases et:ts σ1 h with
   |stuck =>
    rw[et]at hq
    have:R0=.stuck:=hq.symm
    rw[this]at q;exact q.elim
   |exc c h3 =>
    rw[et]at hq
    have:R0=.stuck:=hq.symm
    rw[this]at q;exact q.elim
   |ok b h3 =>
    rw[et]at hq
    intro ρ3 H3 x3 hr3
    cases b with
    |false =>
     refine Qnk ?_
     have hq':Qh2 h1.length (if (∀ k,src=some k→h3[k]?=h[k]?) then lc h1.length src (fun w h=>QbJ (QaG is w σ0) ts ev h) (ws.drop (i+1)) h3 else .stuck)=R0:=hq
     by_cases hg:∀ k,src=some k→h3[k]?=h[k]?
     ·rw[if_pos hg]at hq'
      exact⟨ws.length-(i+1),by omega,rfl,hlt,ρ3,h3,x.trans x3,x3.at hD2,re0.ext x3,hr3,fun k e=>(hg k e).trans (hk k e),hq'⟩
     ·rw[if_neg hg]at hq'
      have:R0=.stuck:=hq'.symm
      rw[this]at q;exact q.elim
    |true =>
     refine Qn3 ⟨ρ3,σ1,h3,re'.ext x3,hr3,?_⟩
     have hq1:Qh2 h1.length (bnd (bnd (ev σ1 h3) fun w h=>Res.ok (some w) h) fun o h'=>if (∀ k,src=some k→h'[k]?=h[k]?) then (match o with
       |none=>lc h1.length src (fun w h=>QbJ (QaG is w σ0) ts ev h) (ws.drop (i+1)) h'
       |some u=>match h'[h1.length]? with
        |some (.lst us)=>if Qan u=true∧us.length<sizeLine then lc h1.length src (fun w h=>QbJ (QaG is w σ0) ts ev h) (ws.drop (i+1)) (h'.set h1.length (.lst (us++[u]))) else .stuck
        |_=>.stuck) else .stuck)=R0:=hq
     cases ee:ev σ1 h3 with
     |stuck =>
      rw[ee]at hq1
      have:R0=.stuck:=hq1.symm
      rw[this]at q;exact q.elim
     |exc c h4 =>
      rw[ee]at hq1
      have:R0=.stuck:=hq1.symm
      rw[this]at q;exact q.elim
     |ok u h4 =>
      rw[ee]at hq1
      intro ρ4 H4 x4 hr4 y ry
      have hq2:Qh2 h1.length (if (∀ k,src=some k→h4[k]?=h[k]?) then (match h4[h1.length]? with
        |some (.lst us)=>if Qan u=true∧us.length<sizeLine then lc h1.length src (fun w h=>QbJ (QaG is w σ0) ts ev h) (ws.drop (i+1)) (h4.set h1.length (.lst (us++[u]))) else .stuck
        |_=>.stuck) else .stuck)=R0:=hq1
      by_cases hg:∀ k,src=some k→h4[k]?=h[k]?
      ·rw[if_pos hg]at hq2
       have hD4:=x4.at (x3.at hD2)
       split at hq2
       ·rename_i us eu
        obtain⟨pu,ys,hy,rs⟩:=hr4.at_ _ D _ hD4 eu
        by_cases hp:Qan u=true∧us.length<sizeLine
        ·rw[if_pos hp]at hq2
         refine⟨ys,hy,by rw[← rs.length];exact hp.2,ws.length-(i+1),by omega,rfl,hlt,ρ4,h4.set h1.length (.lst (us++[u])),?_,hD4,?_,hr4.write hD4 (QdQ pu hp.1) (rs.append (.cons ry .nil)),?_,hq2⟩
         ·exact((x.trans x3).trans x4).trans (ext_write hD4)
         ·exact((re0.ext x3).ext x4).ext (ext_write hD4)
         ·intro k e
          rw[List.getElem?_set_ne (Nat.ne_of_gt (hsrc k e))]
          exact(hg k e).trans (hk k e)
        ·rw[if_neg hp]at hq2
         have:R0=.stuck:=hq2.symm
         rw[this]at q;exact q.elim
       ·have:R0=.stuck:=hq2.symm
        rw[this]at q;exact q.elim
      ·rw[if_neg hg]at hq2
       have:R0=.stuck:=hq2.symm
       rw[this]at q;exact q.elim
 ·have ei:i=ws.length:=by omega
  refine .inl ⟨ok1 ei,?_⟩
  rw[ei,List.drop_length,lc]at hq
  unfold Qh2 at hq
  dsimp only at hq
  split at hq
  ·rename_i us eu
   obtain⟨pu,ys,hy,rs⟩:=hr2.at_ _ D _ hD2 eu
   subst hq
   refine q ρ1 H x.cut (hr2.cut x hl1) _ ?_
   rw[Rel]
   exact⟨D,ys,rfl,hD1,hy,RelL.less (fun b hb=>x.pre.subset hb) us ys pu rs⟩
  ·subst hq;exact q.elim
open Classical in
theorem QbL {K:PySem.W.Frag}{EX:EXT}{ρ1:List Addr}{h1:Qac}{H1:Hp}{σ0:Qai}{τ0:L2.St}{J:L2.It}{ws:List W}{src:Option Nat}{is:List Nat}{ts:Qai→Qac→Res Bool}{ev:Qai→Qac→Res W}{Q:VK}
  (re:RelE K ρ1 H1 σ0 τ0) (hr:HRel K ρ1 h1 H1) (hsrc:∀ k,src=some k→k<h1.length)
  (ok:∀ ρ h H i,Ext ρ1 H1 ρ H→HRel K ρ h H→(∀ k,src=some k→h[k]?=h1[k]?)→(i=ws.length→J.stop i H)∧∀ w,ws[i]?=some w→J.go i H∧∀ x H',J.yld i H x H'→H'=H∧Rel K ρ H w x)
  (hcl:∀ i∈is,∀ u,σ0[i]?≠some (some u))
  (q:RQ K EX ρ1 H1 (Qh2 h1.length (lc h1.length src (fun w h=>QbJ (QaG is w σ0) ts ev h) ws (h1++[.lst []]))) fun w _ ρ' H'=>∀ v,Rel K ρ' H' w v→Q v H') :
  ∀ D,H1 D=none→Qc9 D J (tGI K is) (tIT K FX ts) (tI K FX ev) Q τ0 H1 :=
 Qeb re hr hsrc (fun ρ h H i x hr hk=>⟨(ok ρ h H i x hr hk).1,fun w e=>⟨((ok ρ h H i x hr hk).2 w e).1,fun v H' y=>by
  obtain⟨e',r⟩:=((ok ρ h H i x hr hk).2 w e).2 v H' y
  subst e'
  exact⟨Ext.refl,hr,r⟩⟩⟩) hcl q
theorem Qe1 {α:Type}:∀ (is:List Nat) (σ:List (Option α)),(clr is σ).length=σ.length
 |[],_=>rfl
 |i::is,σ=>by rw[clr,Qe1 is];simp
theorem Ql1 {α:Type}:∀ {is:List Nat}{σ:List (Option α)}{i:Nat}{w:α},(clr is σ)[i]?=some (some w)→i∉is∧σ[i]?=some (some w)
 |[],_,_,_,h=>⟨by simp,h⟩
 |j::is,σ,i,w,h=>by
  rw[clr]at h
  obtain⟨h1,h2⟩:=Ql1 h
  by_cases hij:j=i
  ·subst hij
   rw[List.getElem?_set]at h2
   split at h2
   ·split at h2<;>cases h2
   ·exact absurd rfl ‹_›
  ·rw[List.getElem?_set_ne hij]at h2
   exact⟨fun m=>(List.mem_cons.mp m).elim (fun e=>hij e.symm) h1,h2⟩
theorem Qj4 {α:Type}:∀ {is:List Nat}{σ:List (Option α)}{i:Nat},i∉is→(clr is σ)[i]?=σ[i]?
 |[],_,_,_=>rfl
 |j::is,σ,i,h=>by
  rw[clr,Qj4 fun m=>h (List.mem_cons_of_mem _ m),List.getElem?_set_ne (by rintro rfl;exact h List.mem_cons_self)]
noncomputable abbrev QfN {α:Type} (is:List Nat) (n:Nat) (σ:List (Option α)):List (Option α):=clr is σ++List.replicate n none
theorem Qgr {α:Type}{is:List Nat}{n:Nat}{σ:List (Option α)}{i:Nat}{w:α} (h:(QfN is n σ)[i]?=some (some w)):i∉is∧σ[i]?=some (some w):=by
 by_cases hi:i<(clr is σ).length
 ·rw[List.getElem?_append_left hi]at h
  exact Ql1 h
 ·rw[List.getElem?_append_right (by omega),List.getElem?_replicate]at h
  split at h<;>cases h
theorem QcD {α:Type}{is:List Nat}{n:Nat}{σ:List (Option α)}:∀ i∈is,∀ u,(QfN is n σ)[i]?≠some (some u):=fun i hi u e=>(Qgr e).1 hi
theorem QbS {K:PySem.W.Frag}{ρ:List Addr}{H:Hp}{σ:Qai}{τ:L2.St}{is:List Nat}{n:Nat} (r:RelE K ρ H σ τ):RelE K ρ H (QfN is n σ) (QfN is n τ):=by
 refine⟨by simp[Qe1,r.len],fun i w e=>?_⟩
 obtain⟨h1,h2⟩:=Qgr e
 obtain⟨v,h3,h4⟩:=r.at_ i w h2
 refine⟨v,?_,h4⟩
 have hi:i<(clr is τ).length:=by rw[Qe1];exact(List.getElem?_eq_some_iff.mp h3).1
 rw[List.getElem?_append_left hi,Qj4 h1];exact h3
theorem QiB {N N' own:List Str}{is:List Nat}{n:Nat}{τ:L2.St} (hl:τ.length=N.length) (hn:N'.length=N.length+n) (ho:∀ (i:Nat) (x:Str),N[i]?=some x→x∈own→i∈is):BlkSt N N' own τ (QfN is n τ):=by
 refine⟨by simp[Qe1,hl,hn],fun i v e=>?_⟩
 obtain⟨h1,h2⟩:=Qgr e
 have hi:i<N.length:=by rw[← hl];exact(List.getElem?_eq_some_iff.mp h2).1
 exact⟨N[i],List.getElem?_eq_getElem hi,fun m=>h1 (ho i _ (List.getElem?_eq_getElem hi) m),h2⟩
section
variable {X:Cx}{EX:EXT}{cf:CF}{fw:Nat}{pos:Pos}{a b c e:Expr}{a' b' c' e':E}{is:List Nat}{n:Nat}{ifs':List E}{elt':E}
theorem Qmu {K:PySem.W.Frag}{ρ1:List Addr}{h1:Qac}{H1:Hp}{w:W}{v:V}{ws:List W} (hr:HRel K ρ1 h1 H1) (e:seqA h1 w=some ws) (r:Rel K ρ1 H1 w v) :
  (∀ k,Qd8 w=some k→k<h1.length)∧∃ p,v=.ref p∧(((∃ xs,SqL K H1 p xs)∧∀ ρ h H i,Ext ρ1 H1 ρ H→HRel K ρ h H→(∀ k,Qd8 w=some k→h[k]?=h1[k]?)→(i=ws.length→(Itl K p).stop i H)∧∀ w,ws[i]?=some w→(Itl K p).go i H∧∀ x H',(Itl K p).yld i H x H'→H'=H∧Rel K ρ H w x) ∨
   ((∃ xs,SqT K H1 p xs)∧∀ ρ h H i,Ext ρ1 H1 ρ H→HRel K ρ h H→(∀ k,Qd8 w=some k→h[k]?=h1[k]?)→(i=ws.length→(Itt K p).stop i H)∧∀ w,ws[i]?=some w→(Itt K p).go i H∧∀ x H',(Itt K p).yld i H x H'→H'=H∧Rel K ρ H w x)):=by
 have lists:∀ (p:Addr) (ρ:List Addr) (h:Qac) (H:Hp) (i:Nat) (xs:List V),SqL K H p xs→RelL K ρ H ws xs→(i=ws.length→(Itl K p).stop i H)∧∀ w,ws[i]?=some w→(Itl K p).go i H∧∀ x H',(Itl K p).yld i H x H'→H'=H∧Rel K ρ H w x:=by
  intro p ρ h H i xs hq rs
  refine⟨fun ei=>⟨xs,hq,by rw[← rs.length];omega⟩,fun w' ew=>?_⟩
  obtain⟨x,hx,rx⟩:=rs.get ew
  refine⟨⟨xs,x,hq,hx⟩,fun y H' ⟨e1,e2⟩=>⟨e1,?_⟩⟩
  have:=e2 xs hq
  rw[hx]at this;cases this
  exact rx
 have tups:∀ (p:Addr) (ρ:List Addr) (h:Qac) (H:Hp) (i:Nat) (xs:List V),SqT K H p xs→RelL K ρ H ws xs→(i=ws.length→(Itt K p).stop i H)∧∀ w,ws[i]?=some w→(Itt K p).go i H∧∀ x H',(Itt K p).yld i H x H'→H'=H∧Rel K ρ H w x:=by
  intro p ρ h H i xs hq rs
  refine⟨fun ei=>⟨xs,hq,by rw[← rs.length];omega⟩,fun w' ew=>?_⟩
  obtain⟨x,hx,rx⟩:=rs.get ew
  refine⟨⟨xs,x,hq,hx⟩,fun y H' ⟨e1,e2⟩=>⟨e1,?_⟩⟩
  have:=e2 xs hq
  rw[hx]at this;cases this
  exact rx
 cases w with
 |tup us =>
  rw[Rel]at r
  obtain⟨p,xs,rfl,hq,rs⟩:=r
  cases (show us=ws from Option.some.inj e)
  exact⟨fun k ek=>(by cases ek),p,rfl,.inr ⟨⟨xs,hq.sq⟩,fun ρ h H i x _ _=>tups p ρ h H i xs (hq.ext x).sq (RelL.ext x _ _ rs)⟩⟩
 |scr us =>
  rw[Rel]at r
  obtain⟨p,xs,rfl,hq,rs⟩:=r
  cases (show us=ws from Option.some.inj e)
  exact⟨fun k ek=>(by cases ek),p,rfl,.inl ⟨⟨xs,hq.sq⟩,fun ρ h H i x _ _=>lists p ρ h H i xs (hq.ext x).sq (RelL.ext x _ _ rs)⟩⟩
 |lst us =>
  rw[Rel]at r
  obtain⟨p,xs,rfl,hn,hq,rs⟩:=r
  cases (show us=ws from Option.some.inj e)
  exact⟨fun k ek=>(by cases ek),p,rfl,.inl ⟨⟨xs,.inl (.inl hq)⟩,fun ρ h H i x _ _=>lists p ρ h H i xs (.inl (.inl (x.keepN hq hn (fun _ z=>by cases z)))) (RelL.ext x _ _ rs)⟩⟩
 |ref k =>
  rw[Rel]at r
  obtain⟨p,rfl,hk⟩:=r
  have e':(match h1[k]? with | some (.lst ws)=>some ws | _=>none)=some ws:=e
  split at e'<;>try (cases e';done)
  rename_i us eu
  cases e'
  obtain⟨_,xs,hx,rs⟩:=hr.at_ k p _ hk eu
  refine⟨fun k' ek=>(by cases ek;exact(List.getElem?_eq_some_iff.mp eu).1),p,rfl,.inl ⟨⟨xs,.inl (.inl hx)⟩,fun ρ h H i x hr' hs=>?_⟩⟩
  obtain⟨_,xs',hx',rs'⟩:=hr'.at_ k p _ (x.at hk) (by rw[hs k rfl];exact eu)
  exact lists p ρ h H i xs' (.inl (.inl hx')) rs'
 |_=>cases e
theorem QmU {K:PySem.W.Frag}{ρ1:List Addr}{H1:Hp}{z:Str}:∀ (ρ:List Addr) (h:Qac) (H:Hp) (i:Nat),Ext ρ1 H1 ρ H→HRel K ρ h H→(i=(strI z).length→(Its z).stop i H)∧∀ w,(strI z)[i]?=some w→(Its z).go i H∧∀ x H',(Its z).yld i H x H'→H'=H∧Rel K ρ H w x:=by
 intro ρ h H i _ _
 refine⟨fun e=>by show i=z.cps.size;rw[e];simp[strI],fun w e=>?_⟩
 unfold strI at e
 rw[List.getElem?_map]at e
 obtain⟨c,ec,rfl⟩:=Option.map_eq_some_iff.mp e
 rw[Array.getElem?_toList]at ec
 refine⟨(Array.getElem?_eq_some_iff.mp ec).1,fun y H' ⟨e2,c',e3,e4⟩=>⟨e2,?_⟩⟩
 rw[ec]at e3
 cases e3
 subst e4
 exact QcM
theorem Qhz {τ:L2.St}{H:Hp}{Q:VK}{K:PySem.W.Frag} (q:tI K EX (evE cf (.compS is n a' ifs' elt')) τ H Q) :
  iSeq K (tI K EX (evE cf a')) τ H fun J H1=>∀ D,H1 D=none→Qc9 D J (tGI K is) (tIT K FX (Qc2 cf ifs')) (tI K FX (evE cf elt')) Q (QfN is n τ) H1:=by
 obtain⟨ρ,σ,h,re,hr,q⟩:=q
 rw[evE]at q
 refine⟨ρ,σ,h,re,hr,q.bnd.mono fun w h1 ρ1 H1 x1 hr1 q1 v r=>?_⟩
 split at q1
 ·rename_i ws e
  by_cases hz:∃ z,w=.str z
  ·obtain⟨z,rfl⟩:=hz
   unfold seqI at e
   dsimp only at e
   split at e
   ·cases e
    cases Qaw r
    exact .inl ⟨z,rfl,QbL (src:=none) (QbS (re.ext x1)) hr1 (fun k e=>by cases e) (fun ρ h H i x hr _=>QmU ρ h H i x hr) QcD q1⟩
   ·cases e
  ·have e':seqA h1 w=some ws:=by cases w<;>first | exact e | exact absurd ⟨_,rfl⟩ hz
   obtain⟨hs,p,rfl,hq⟩:=Qmu hr1 e' r
   refine .inr ⟨p,rfl,?_⟩
   rcases hq with ⟨hx,hq⟩ | ⟨hx,hq⟩
   ·exact .inl ⟨hx,QbL (QbS (re.ext x1)) hr1 hs hq QcD q1⟩
   ·exact .inr (.inl ⟨hx,QbL (QbS (re.ext x1)) hr1 hs hq QcD q1⟩)
 ·exact q1.elim
theorem Qiy {K:PySem.W.Frag}{ρ1:List Addr}{H1:Hp}{lo:Int}{m:Nat}:∀ (ρ:List Addr) (h:Qac) (H:Hp) (i:Nat),Ext ρ1 H1 ρ H→HRel K ρ h H→(∀ k,(none:Option Nat)=some k→h[k]?=([]:Qac)[k]?) →
  (i=((List.range m).map fun (k:Nat)=>W.int (lo+(k:Int))).length→(Itr lo m).stop i H)∧∀ w,((List.range m).map fun (k:Nat)=>W.int (lo+(k:Int)))[i]?=some w→(Itr lo m).go i H∧∀ x H',(Itr lo m).yld i H x H'→H'=H∧Rel K ρ H w x:=by
 intro ρ h H i x hr _
 refine⟨fun e=>by show m≤i;simpa using (Nat.le_of_eq e.symm),fun w e=>?_⟩
 rw[List.getElem?_map]at e
 cases e1:(List.range m)[i]? with
 |none=>rw[e1]at e;cases e
 |some k =>
  rw[e1]at e
  obtain⟨hi,ek⟩:=List.getElem?_eq_some_iff.mp e1
  have hi':i<m:=by simpa using hi
  have ek':k=i:=by simpa using ek.symm
  subst ek'
  cases e
  exact⟨hi',fun y H' ⟨e2,e3⟩=>⟨e2,by subst e3;exact Qbc⟩⟩
noncomputable def BlkP (X:Cx) (cf:CF) (N':List Str) (sc:Scope) (tg:Expr) (is:List Nat) (ifs:List Expr) (ifs':List E) (elt:Expr) (elt':E):Prop :=
 ∀ cl C fp s H,PG (blk X N' sc cl C fp s H) tg (tGI X.K is)∧PTs (blk X N' sc cl C fp s H) ifs (tIT X.K FX (Qc2 cf ifs'))∧PE (blk X N' sc cl C fp s H) elt (tI X.K FX (evE cf elt'))
variable {tg elt:Expr}{ifs:List Expr}{N' own:List Str}{sc:Scope}{ce:E}{wi:TI}
theorem Ql9 (hc:X.calm=true) (hi:PI X tg a wi) (hp:Qbn a=true) (B:BlkOk X.env.scope X.N N' sc own) (hn:N'.length=X.N.length+n) (ho:∀ (i:Nat) (x:Str),X.N[i]?=some x→x∈own→i∈is)
  (hb:BlkP X cf N' sc tg is ifs ifs' elt elt') (hq:∀ τ H Q,tI X.K EX (evE cf ce) τ H Q→wi τ H fun J H1=>∀ D,H1 D=none→Qc9 D J (tGI X.K is) (tIT X.K FX (Qc2 cf ifs')) (tI X.K FX (evE cf elt')) Q (QfN is n τ) H1) :
  PE X (.ListComp elt [⟨tg,a,ifs,0⟩] sc pos) (tI X.K EX (evE cf ce)):=by
 intro pins s τ H Q I q
 rw[eval_ListComp]
 refine wpAny_comprehension_free (use:=none) rfl (QfR hp _) (QdU (Qe8 I B)) B.kind B.loc ?_
 refine QeO (RR:=fun acc C=>compPost (model X.prog X.w) X.A X.xe none (EP X pins τ Q) acc C) hc hi B (QiB I.len hn ho) hb I (hq τ H Q q) (fun D C H' s' m' I' f hn' q'=>?_) rfl
 exact⟨m',hn',fun h' hs=>⟨.ref D,H',I'.turned (it:=C) (fun b o hb e=>hs.extBut b o hb e) f.1 f.2.1 f.2.2.2.1 f.2.2.2.2.1 f.2.2.2.2.2,rfl,q'⟩⟩
theorem s_comp {i:Nat}{x:Str}{p:Pos}{spos:Pos} (hN:X.N.Nodup) (hix:X.N[i]?=some x) (hx:Loc X.env.scope x) (hf:X.fn x=true∨X.env.scope.names.lookup x=some .local)
  (hc:X.calm=true) (hi:PI X tg a wi) (hp:Qbn a=true) (B:BlkOk X.env.scope X.N N' sc own) (hn:N'.length=X.N.length+n) (ho:∀ (i:Nat) (x:Str),X.N[i]?=some x→x∈own→i∈is)
  (hb:BlkP X cf N' sc tg is ifs ifs' elt elt') (hq:∀ τ H Q,tI X.K EX (evE cf ce) τ H Q→wi τ H fun J H1=>∀ D,H1 D=none→Qc9 D J (tGI X.K is) (tIT X.K FX (Qc2 cf ifs')) (tI X.K FX (evE cf elt')) Q (QfN is n τ) H1) :
  PS X (.Assign [.Name x p] (.ListComp elt [⟨tg,a,ifs,0⟩] sc pos) spos) (tIS X.K EX (exS cf fw (.asg i ce))):=by
 have key:∀ D τ H,tIS X.K EX (exS cf fw (.asg i ce)) D τ H→tI X.K EX (evE cf ce) τ H fun v H1=>D.nx (τ.set i (some v)) H1:=fun D τ H zq=>by
  obtain⟨ρ,σ,h,re,hr,q⟩:=zq
  rw[exS]at q
  exact⟨ρ,σ,h,re,hr,q.bnd.mono fun w h1 ρ1 H1 x1 hr1 q1 v r=>RQ.here hr1 q1 _ ((re.ext x1).set i r)⟩
 have sw:∃ k,swapsWith (.ListComp elt [⟨tg,a,ifs,0⟩] sc pos) (some (.Name x p)) spos.line X.env=pure k:=⟨_,rfl⟩
 obtain⟨k,hk⟩:=sw
 cases k with
 |false=>exact(QeN hN hix hx (Ql9 (pos:=pos) hc hi hp B hn ho hb hq) hk hf).sub fun D τ H q=>key D τ H q
 |true =>
  intro pins s τ H D I q
  rw[exec_Assign_Name_used _ _ _ _ hk]
  refine wpAny_bind (wpAny_standAt <| wpAny_bind ?_)
  show wpAny _ X.A (do let _ ← comprehension (.ListComp elt [⟨tg,a,ifs,0⟩] sc pos) sc X.env _ (newList []) false (eval a X.env) (some (assign (.Name x p) X.env))) _ _ s
  refine wpAny_bind (wpAny_mono (wpAny_comprehension_free (use:=some (assign (.Name x p) X.env)) (Q:=fun _ s'=>SP X pins D .next s') rfl (QfR hp _) (QdU (Qe8 I B)) B.kind B.loc ?_) (fun _ s' hq=>wpAny_pure (wpAny_pure hq)) fun _ _ e=>e)
  refine QeO (RR:=fun acc C=>compPost (model X.prog X.w) X.A X.xe (some (assign (.Name x p) X.env)) (fun _ s'=>SP X pins D .next s') acc C) hc hi B (QiB I.len hn ho) hb I (hq τ H _ (key D τ H q)) (fun DD C H' s' m' I' f hn' q'=>?_) rfl
  show wpAny _ X.A (assign (.Name x p) X.env (.ref DD)) _ _ s'
  refine wpAny_assign_Name (QeJ I' hN hix hx (v:=.ref DD) rfl (fun s2 I2 ⟨al,sb,ha⟩=>?_) hf)
  have hne:C≠al:=by
   rcases ha with e | e
   ·rw[e];exact f.2.1
   ·exact Ne.symm (f.2.2.2.2.1 x al e)
  exact⟨m',hn'.sameBut sb hne,fun h' hs=>⟨_,H',I2.turned (it:=C) (fun b o hb e=>hs.extBut b o hb e) f.1 f.2.1 f.2.2.2.1 f.2.2.2.2.1 f.2.2.2.2.2,q'⟩⟩
theorem i_seq (ha:PE X a (tI X.K EX (evE cf a'))):PI X tg a (iSeq X.K (tI X.K EX (evE cf a'))):=QlG ha
theorem q_seq:∀ τ H Q,tI X.K EX (evE cf (.compS is n a' ifs' elt')) τ H Q→iSeq X.K (tI X.K EX (evE cf a')) τ H fun J H1=>∀ D,H1 D=none→Qc9 D J (tGI X.K is) (tIT X.K FX (Qc2 cf ifs')) (tI X.K FX (evE cf elt')) Q (QfN is n τ) H1 :=
 fun τ H Q q=>Qhz q
theorem q_rng1:∀ τ H Q,tI X.K EX (evE cf (.compR is n [a'] ifs' elt')) τ H Q→iRng1 (tIA X.K EX (evA cf [a'])) τ H fun J H1=>∀ D,H1 D=none→Qc9 D J (tGI X.K is) (tIT X.K FX (Qc2 cf ifs')) (tI X.K FX (evE cf elt')) Q (QfN is n τ) H1:=fun τ H Q zq=>by
 obtain⟨ρ,σ,h,re,hr,q⟩:=zq
 rw[evE]at q
 refine⟨ρ,σ,h,re,hr,?_⟩
 cases e:evA cf [a'] σ h with
 |stuck=>rw[e]at q;exact q.elim
 |exc c h1=>rw[e]at q;exact q
 |ok ws h1 =>
  rw[e]at q
  intro ρ1 H1 x1 hr1 vs rs
  have q1:=q.bnd ρ1 H1 x1 hr1
  have hl:=Qem e
  match ws,hl with
  |[w],_ =>
   dsimp only at q1
   cases w with
   |int j =>
    obtain⟨v,rfl,rv⟩:=Qn6 rs
    cases Qap rv
    unfold Qh9 at q1
    dsimp only at q1
    split at q1
    ·rename_i ks ek
     split at ek
     ·rename_i hj
      cases ek
      exact⟨j,rfl,hj.1,hj.2,QbL (QbS (re.ext x1)) hr1 (fun k e=>by cases e) (fun ρ h H i x hr _=>Qiy ρ h H i x hr (fun k e=>by cases e)) QcD q1⟩
     ·cases ek
    ·exact q1.elim
   |_=>exact q1.elim
theorem q_rng2:∀ τ H Q,tI X.K EX (evE cf (.compR is n [a',b'] ifs' elt')) τ H Q→iRng2 (tIA X.K EX (evA cf [a',b'])) τ H fun J H1=>∀ D,H1 D=none→Qc9 D J (tGI X.K is) (tIT X.K FX (Qc2 cf ifs')) (tI X.K FX (evE cf elt')) Q (QfN is n τ) H1:=fun τ H Q zq=>by
 obtain⟨ρ,σ,h,re,hr,q⟩:=zq
 rw[evE]at q
 refine⟨ρ,σ,h,re,hr,?_⟩
 cases e:evA cf [a',b'] σ h with
 |stuck=>rw[e]at q;exact q.elim
 |exc c h1=>rw[e]at q;exact q
 |ok ws h1 =>
  rw[e]at q
  intro ρ1 H1 x1 hr1 vs rs
  have q1:=q.bnd ρ1 H1 x1 hr1
  have hl:=Qem e
  match ws,hl with
  |[w,w2],_ =>
   dsimp only at q1
   unfold Qh9 at q1
   split at q1
   ·rename_i ks ek
    split at ek
    ·rename_i e1;cases e1
    ·rename_i i j e1
     cases e1
     split at ek
     ·rename_i hj
      cases ek
      obtain⟨v,v2,rfl,rv,rv2⟩:=Qmt rs
      cases Qap rv
      cases Qap rv2
      exact⟨i,j,rfl,hj,QbL (QbS (re.ext x1)) hr1 (fun k e=>by cases e) (fun ρ h H i x hr _=>Qiy ρ h H i x hr (fun k e=>by cases e)) QcD q1⟩
     ·cases ek
    ·cases ek
   ·exact q1.elim
end
theorem QlA {K:PySem.W.Frag}{ρ1:List Addr}{H1:Hp}{w:W}{v:V}{us:List W} (e:seqA [] w=some us) (r:Rel K ρ1 H1 w v):∃ p t xs,v=.ref p∧RelL K ρ1 H1 us xs∧∀ ρ H,Ext ρ1 H1 ρ H→SqB K t H p xs:=by
 cases w with
 |tup ws =>
  rw[Rel]at r
  obtain⟨p,xs,rfl,hq,rs⟩:=r
  cases (show ws=us from Option.some.inj e)
  exact⟨p,true,xs,rfl,rs,fun ρ H x=>(hq.ext x).sq⟩
 |scr ws =>
  rw[Rel]at r
  obtain⟨p,xs,rfl,hq,rs⟩:=r
  cases (show ws=us from Option.some.inj e)
  exact⟨p,false,xs,rfl,rs,fun ρ H x=>(hq.ext x).sq⟩
 |lst ws =>
  rw[Rel]at r
  obtain⟨p,xs,rfl,hn,hq,rs⟩:=r
  cases (show ws=us from Option.some.inj e)
  exact⟨p,false,xs,rfl,rs,fun ρ H x=>.inl (.inl (x.keepN hq hn (fun _ z=>by cases z)))⟩
 |ref k=>cases e
 |_=>cases e
theorem bndk {α β:Type}{a:α}{h:Qac}{f:α→Qac→Res β}:bnd (.ok a h) f=f a h:=rfl
theorem QmO {K:PySem.W.Frag}{ρ:List Addr}{h:Qac}{H:Hp}{q:Addr}{u v:W}{x y:V} (hr:HRel K ρ h H) (hq:H q=none) (r1:Rel K ρ H u x) (r2:Rel K ρ H v y) :
  Ext ρ H ρ (upd H q (.tup [x,y]))∧HRel K ρ h (upd H q (.tup [x,y]))∧Rel K ρ (upd H q (.tup [x,y])) (.tup [u,v]) (.ref q):=by
 have e:Ext ρ H ρ (upd H q (.tup [x,y])):=ext_new hr hq
 refine⟨e,hr.ext_new hq,?_⟩
 rw[Rel]
 refine⟨q,[x,y],rfl,.inl ⟨hr.new hq,.inl QaK⟩,?_⟩
 exact .cons (Rel.ext e _ _ r1) (.cons (Rel.ext e _ _ r2) .nil)
noncomputable def iZip (K:PySem.W.Frag) (ta:TA):TI:=fun σ H R=>ta σ H fun vs H1=>∃ p q t1 t2,vs=[.ref p,.ref q]∧(∃ xs,SqB K t1 H1 p xs)∧(∃ ys,SqB K t2 H1 q ys)∧R (Itz K t1 t2 p q) H1
section
variable {X:Cx}{EX:EXT}{cf:CF}{a b:Expr}{a' b':E}{ta:TA}{p pos:Pos}{es:List Expr}{x1:Nat}{ps:Pos}{is:List Nat}{n:Nat}{ifs':List E}{elt':E}
theorem pi_zip (hg:Gl X "zip") (hm:X.mg "zip"=none) (ha:PA X [a,b] ta) (hs:starEach [a,b] X.env=[(false,eval a X.env),(false,eval b X.env)]:=by rfl) (hs2:starEach [b] X.env=[(false,eval b X.env)]:=by rfl) :
  PI X (.Tuple es x1 ps) (.Call (.Name "zip" p) [a,b] [] pos) (iZip X.K ta):=by
 intro pins s σ H R I h
 refine Call_ (Qd1 I hg hm PyProof.Rows.boot_zip (PyProof.Rows.callWith_type1 (thn (ha pos pins s σ H _ I h) fun us s1 ⟨vs,H1,I1,r1,q1⟩=>?_) (by rw[hs,hs2]) (by rw[hs2];rfl)))
 obtain⟨p,q,t1,t2,rfl,⟨xs,s1q⟩,⟨ys,s2q⟩,q1⟩:=q1
 cases r1 with
 |cons r rr =>
  cases rr with
  |cons r' rr =>
   cases rr
   cases r
   cases r'
   obtain⟨is1,_,m1⟩:=s1q.at_ I1
   obtain⟨is2,_,m2⟩:=s2q.at_ I1
   refine QjZ m1 m2 fun h' z1 z2 z3 z4 z5 kk=>wpAny_pyIter_zip z1 ⟨_,fpZ s1.heap.objs.size,_,_,H1,rfl,I1.kept (t':=s1.toks) kk,QkE t1 t2 p q s1.heap.objs.size,⟨z1,z2,⟨_,_,z3⟩,z4,z5⟩,fun c hc=>?_,q1⟩
   have:s1.heap.objs.size≤c:=by
    simp only[fpZ,List.mem_cons,List.not_mem_nil,or_false]at hc
    rcases hc with rfl | rfl | rfl | rfl | rfl<;>(show @LE.le Nat _ _ _;omega)
   exact I1.fpOk this (I1.hok.fresh this)
theorem q_zip:∀ τ H Q,tI X.K EX (evE cf (.compS is n (.zipE a' b') ifs' elt')) τ H Q→iZip X.K (tIA X.K EX (evA cf [a',b'])) τ H fun J H1=>∀ D,H1 D=none→Qc9 D J (tGI X.K is) (tIT X.K FX (Qc2 cf ifs')) (tI X.K FX (evE cf elt')) Q (QfN is n τ) H1:=fun τ H Q zq=>by
 obtain⟨ρ,σ,h,re,hr,q⟩:=zq
 rw[evE,evE]at q
 refine⟨ρ,σ,h,re,hr,?_⟩
 rw[evA]
 cases e1:evE cf a' σ h with
 |stuck=>rw[e1]at q;exact q.elim
 |exc c h1=>rw[e1]at q;exact q
 |ok x h1 =>
  rw[e1,bndk]at q
  rw[bndk,evA]
  cases e2:evE cf b' σ h1 with
  |stuck=>rw[e2]at q;exact q.elim
  |exc c h2=>rw[e2]at q;exact q
  |ok y h2 =>
   rw[e2,bndk]at q
   rw[bndk,evA,bndk,bndk]
   intro ρ1 H1 x1 hr1 vs rs
   cases ex:seqA [] x with
   |none=>rw[ex]at q;exact q.elim
   |some us =>
    cases ey:seqA [] y with
    |none=>rw[ex,ey]at q;exact q.elim
    |some ws =>
     rw[ex,ey]at q
     obtain⟨v1,v2,rfl,r1,r2⟩:=Qmt rs
     obtain⟨p,t1,xs,rfl,rl1,sq1⟩:=QlA ex r1
     obtain⟨p',t2,ys,rfl,rl2,sq2⟩:=QlA ey r2
     refine⟨p,p',t1,t2,rfl,⟨xs,sq1 _ _ Ext.refl⟩,⟨ys,sq2 _ _ Ext.refl⟩,?_⟩
     have q0:RQ X.K EX ρ H (bnd (Res.ok () h2) fun _ h2=>Qh2 h2.length (lc h2.length none (fun w h=>QbJ (QaG is w (QfN is n σ)) (Qc2 cf ifs') (evE cf elt') h) (List.zipWith (fun u v=>W.tup [u,v]) us ws) (h2++[Ob.lst []]))) fun w _ ρ' H'=>∀ v,Rel X.K ρ' H' w v→Q v H':=q
     refine Qeb (src:=none) (QbS (re.ext x1)) hr1 (fun k e=>by cases e) (fun ρ2 h3 H3 i x2 hr3 _=>?_) QcD (q0.bnd ρ1 H1 x1 hr1)
     have rl1':=RelL.ext x2 _ _ rl1
     have rl2':=RelL.ext x2 _ _ rl2
     have l1:=rl1'.length
     have l2:=rl2'.length
     refine⟨fun ei=>⟨xs,ys,sq1 _ _ x2,sq2 _ _ x2,?_⟩,fun w ew=>?_⟩
     ·rw[List.length_zipWith]at ei
      omega
     ·rw[List.getElem?_zipWith]at ew
      cases eu:us[i]? with
      |none=>rw[eu]at ew;simp at ew
      |some u =>
       cases ev:ws[i]? with
       |none=>rw[eu,ev]at ew;simp at ew
       |some v =>
        rw[eu,ev]at ew
        cases ew
        obtain⟨xv,hx,rx⟩:=rl1'.get eu
        obtain⟨yv,hy,ry⟩:=rl2'.get ev
        refine⟨⟨xs,ys,xv,yv,sq1 _ _ x2,sq2 _ _ x2,hx,hy⟩,fun v2 H' zq=>?_⟩
        obtain⟨pp,x',y',hp,e1,e2,f1,f2⟩:=zq
        have g1:=f1 xs (sq1 _ _ x2)
        have g2:=f2 ys (sq2 _ _ x2)
        rw[hx]at g1
        rw[hy]at g2
        cases g1
        cases g2
        subst e1 e2
        exact QmO hr3 hp rx ry
end
theorem Qcm:∀ (n:Nat) (i:Int) (its:List Value),its.length=n→(∀ (j:Nat) (v:Value),its[j]?=some v→∃ t,v=.int (i+(j:Int)) t)→Vals ((List.range n).map fun (k:Nat)=>V.int (i+(k:Int))) its
 |0,i,its,hl,_=>by
  rw[List.length_eq_zero_iff]at hl
  subst hl
  exact .nil
 |n+1,i,its,hl,h=>by
  obtain⟨v,r,rfl⟩:=List.exists_cons_of_length_eq_add_one hl
  rw[List.range_succ_eq_map,List.map_cons,List.map_map]
  have ih:=Qcm n (i+1) r (by simpa using hl) (fun j v e=>by
   obtain⟨t,rfl⟩:=h (j+1) v (by simpa using e)
   exact⟨t,by congr 1;omega⟩)
  refine .cons (h 0 v rfl) ?_
  have e:(List.range n).map ((fun (k:Nat)=>V.int (i+(k:Int))) ∘ Nat.succ)=(List.range n).map fun (k:Nat)=>V.int (i+1+(k:Int)):=List.map_congr_left fun k _=>by
   show V.int (i+((k+1:Nat):Int))=V.int (i+1+(k:Int))
   congr 1
   omega
  rw[e]
  exact ih
section
variable {X:Cx}{EX:EXT}{cf:CF}{pos:Pos}{a b:Expr}{a' b':E}
end
section
variable {X:Cx}{EX:EXT}{cf:CF}{fw:Nat}{pos:Pos}{a b c e:Expr}{a' b' c' e':E}
noncomputable def rSl (K:PySem.W.Frag) (EX:EXT):V→Option Int→Option Int→Hp→VK→Prop:=fun x lo hi H Q =>
 ∃ ρ h w,HRel K ρ h H∧Rel K ρ H w x∧RQ K EX ρ H (slW w lo hi h) fun w _ ρ' H'=>∀ v,Rel K ρ' H' w v→Q v H'
theorem QgS {v:Value}{o:Option Int} (h:IsPart v o):∃ p:Option (Int×Tok),v=partValue p∧p.map (·.1)=o:=by
 cases h with
 |none=>exact⟨none,rfl,rfl⟩
 |int i t=>exact⟨some (i,t),rfl,rfl⟩
theorem Qjf {K:PySem.W.Frag}{ρ:List Addr}{H:Hp}{ws:List W}{xs:List V}{lo hi:Option Int} (r:RelL K ρ H ws xs):RelL K ρ H (QjL ws lo hi) (Qlt xs lo hi):=by
 unfold QjL Qlt
 rw[r.length]
 exact(r.drop _).take _
theorem slW_ok:SlR X (rSl X.K EX):=by
 intro pins s σ H x v vl vu lo hi sl Q I rx hs pl pu ⟨ρ,h,w,hr,r,q⟩
 unfold slW at q
 split at q
 ·rename_i z
  split at q
  ·rename_i hz
   cases Qaw r
   obtain⟨t,rfl⟩:=rx
   obtain⟨p,rfl,e1⟩:=QgS pl
   obtain⟨p2,rfl,e2⟩:=QgS pu
   subst e1 e2
   refine⟨"str",_,PySem.F.slot_str_getitem.lookup,PySem.typeIs_str s z t,?_⟩
   obtain⟨o,h1,h2,h3⟩:=hs
   refine wpAny_getItem_str_slice (l:=p) (u:=p2) (st:=none) ⟨o,h1,h2,h3⟩ rfl ?_
   unfold sliceMade
   refine post_val_or_str ?_
   have ez:(if ((Option.map (fun x=>x.1) (none:Option (Int×Tok))).getD 1 == 1&&(slicePicked z p p2 none).length == z.length)=true then z else ⟨((slicePicked z p p2 none).filterMap (z.cps[·]?)).toArray⟩)=Txt.slice z (p.map (·.1)) (p2.map (·.1)):=by
    unfold Txt.slice slicePicked
    simp
   rw[ez]
   refine⟨Nat.le_trans (Txt.slice_le z _ _) (Nat.le_trans hz (by decide)),fun t' k=>⟨.str _,H,I.tok k,⟨t',rfl⟩,RQ.here hr q _ QcM⟩⟩
  ·exact q.elim
 ·rename_i ws
  split at q
  ·exact q.elim
  ·rename_i hw
   have r0:=r
   rw[Rel]at r
   obtain⟨p,xs,rfl,hq,rs⟩:=r
   exact sl_tup pins s σ H _ v vl vu lo hi sl Q I rx hs pl pu ⟨p,xs,rfl,hq.sq,by rw[← rs.length];exact hw,RQ.tup hr (Qjf rs) q⟩
 ·split at q
  ·rename_i ws e
   obtain⟨p,xs,rfl,hq,rs⟩:=Qcl hr e r
   exact Qmk pins s σ H _ v vl vu lo hi sl Q I rx hs pl pu ⟨p,xs,rfl,hq,RQ.lst hr (Qjf rs) q⟩
  ·exact q.elim
noncomputable def tIO (K:PySem.W.Frag) (EX:EXT) (ev:Qai→Qac→Res (Option Int)):L2.TO:=fun τ H Q =>
 ∃ ρ σ h,RelE K ρ H σ τ∧HRel K ρ h H∧RQ K EX ρ H (ev σ h) fun o _ _ H'=>Q o H'
theorem _root_.L2.PO.sub {X:Cx}{e:Option Expr}{t t':L2.TO} (p:PO X e t) (h:∀ τ H Q,t' τ H Q→t τ H Q):PO X e t':=fun pins s σ H Q I q=>p pins s σ H Q I (h _ _ _ q)
theorem o_none:PO X none (tIO X.K EX (evO cf none)):=po_none.sub fun τ H Q zq=>by
 obtain⟨ρ,σ,h,re,hr,q⟩:=zq
 rw[evO]at q
 exact RQ.here hr q
theorem o_some (ha:PE X a (tI X.K EX (evE cf a'))):PO X (some a) (tIO X.K EX (evO cf (some a'))):=(Qnl ha).sub fun τ H Q zq=>by
 obtain⟨ρ,σ,h,re,hr,q⟩:=zq
 rw[evO]at q
 refine⟨ρ,σ,h,re,hr,q.bnd.mono fun w h1 ρ1 H1 x1 hr1 q1 v r=>?_⟩
 split at q1
 ·rename_i i;exact⟨i,Qap r,RQ.here hr1 q1⟩
 ·exact q1.elim
theorem r_sl {lo hi:Option Expr}{lo' hi':Option E}{p2:Pos} (ha:PE X a (tI X.K EX (evE cf a'))) (hl:PO X lo (tIO X.K EX (evO cf lo'))) (hu:PO X hi (tIO X.K EX (evO cf hi'))) :
  PE X (.Subscript a (.Slice lo hi none p2) pos) (tI X.K EX (evE cf (.sl a' lo' hi'))):=(Qk4 slW_ok ha hl hu).sub fun τ H Q zq=>by
 obtain⟨ρ,σ,h,re,hr,q⟩:=zq
 rw[evE]at q
 refine⟨ρ,σ,h,re,hr,q.bnd.mono fun w h1 ρ1 H1 x1 hr1 q1 v r=>?_⟩
 refine⟨ρ1,σ,h1,re.ext x1,hr1,q1.bnd.mono fun l h2 ρ2 H2 x2 hr2 q2=>?_⟩
 refine⟨ρ2,σ,h2,(re.ext x1).ext x2,hr2,q2.bnd.mono fun u h3 ρ3 H3 x3 hr3 q3=>?_⟩
 exact⟨ρ3,h3,w,hr3,Rel.ext x3 _ _ (Rel.ext x2 _ _ r),q3⟩
theorem QmQ (t:Ty) {i:Int}{k:Tok}:Answers (fun s=>s.TypeIs (.int i k) "int") (.int i k) (.type (Qau t)) (decide (t=.int)):=by
 cases t with
 |int=>exact Answers.of_true PySem.F.isi_meta_int PySem.F.sub_int_int
 |bool=>exact Answers.of_false_int (by decide +kernel) PySem.F.isi_meta_bool PySem.F.sub_int_bool
 |str=>exact Answers.of_false_int (by decide +kernel) PySem.F.isi_meta_str PySem.F.sub_int_str
 |tuple=>exact Answers.of_false_int (by decide +kernel) PySem.F.isi_meta_tuple PySem.F.sub_int_tuple
 |list=>exact Answers.of_false_int (by decide +kernel) PySem.F.isi_meta_list PySem.F.sub_int_list
theorem QkB (t:Ty) {i:Bool}:Answers (fun s=>s.TypeIs (.bool i) "bool") (.bool i) (.type (Qau t)) (decide (t=.int)||decide (t=.bool)):=by
 cases t with
 |int=>exact Answers.of_true PySem.F.isi_meta_int PySem.F.sub_bool_int
 |bool=>exact Answers.of_true PySem.F.isi_meta_bool PySem.F.sub_bool_bool
 |str=>exact Answers.of_false_bool (by decide +kernel) PySem.F.isi_meta_str PySem.F.sub_bool_str
 |tuple=>exact Answers.of_false_bool (by decide +kernel) PySem.F.isi_meta_tuple PySem.F.sub_bool_tuple
 |list=>exact Answers.of_false_bool (by decide +kernel) PySem.F.isi_meta_list PySem.F.sub_bool_list
theorem QmF (t:Ty) {i:Str}{k:Tok}:Answers (fun s=>s.TypeIs (.str i k) "str") (.str i k) (.type (Qau t)) (decide (t=.str)):=by
 cases t with
 |int=>exact Answers.of_false_str (by decide +kernel) PySem.F.isi_meta_int PySem.F.sub_str_int
 |bool=>exact Answers.of_false_str (by decide +kernel) PySem.F.isi_meta_bool PySem.F.sub_str_bool
 |str=>exact Answers.of_true PySem.F.isi_meta_str PySem.F.sub_str_str
 |tuple=>exact Answers.of_false_str (by decide +kernel) PySem.F.isi_meta_tuple PySem.F.sub_str_tuple
 |list=>exact Answers.of_false_str (by decide +kernel) PySem.F.isi_meta_list PySem.F.sub_str_list
theorem Qed (t:Ty) {p:Addr}:Answers (fun s=>s.TypeIs (.ref p) "list") (.ref p) (.type (Qau t)) (decide (t=.list)):=by
 cases t with
 |int=>exact Answers.of_false_list (by decide +kernel) PySem.F.isi_meta_int PySem.F.sub_list_int
 |bool=>exact Answers.of_false_list (by decide +kernel) PySem.F.isi_meta_bool PySem.F.sub_list_bool
 |str=>exact Answers.of_false_list (by decide +kernel) PySem.F.isi_meta_str PySem.F.sub_list_str
 |tuple=>exact Answers.of_false_list (by decide +kernel) PySem.F.isi_meta_tuple PySem.F.sub_list_tuple
 |list=>exact Answers.of_true PySem.F.isi_meta_list PySem.F.sub_list_list
theorem Qjk (t:Ty) {p:Addr}:Answers (fun s=>s.TypeIs (.ref p) "tuple") (.ref p) (.type (Qau t)) (decide (t=.tuple)):=by
 cases t with
 |int=>exact Answers.of_false_tuple (by decide +kernel) PySem.F.isi_meta_int PySem.F.sub_tuple_int
 |bool=>exact Answers.of_false_tuple (by decide +kernel) PySem.F.isi_meta_bool PySem.F.sub_tuple_bool
 |str=>exact Answers.of_false_tuple (by decide +kernel) PySem.F.isi_meta_str PySem.F.sub_tuple_str
 |tuple=>exact Answers.of_true PySem.F.isi_meta_tuple PySem.F.sub_tuple_tuple
 |list=>exact Answers.of_false_tuple (by decide +kernel) PySem.F.isi_meta_list PySem.F.sub_tuple_list
theorem Qjp {P:Shared→Prop}{x:Value}{f:Ty→Bool} (h:∀ t,Answers P x (.type (Qau t)) (f t)):∀ ts:List Ty,AnswersAll P x (ts.map fun t=>Value.type (Qau t)) (ts.map f)
 |[]=>trivial
 |t::ts=>⟨h t,Qjp h ts⟩
noncomputable def tyNames:List Expr→Option (List Ty)
 |[]=>some []
 |.Name x _::es=>(tyOf' x).bind fun t=>(tyNames es).map (t::·)
 |_=>none
where tyOf' (x:Str):Option Ty:=if x="int" then some .int else if x="bool" then some .bool else if x="str" then some .str else if x="tuple" then some .tuple else if x="list" then some .list else none
theorem QkD {x:Str}{t:Ty} (h:tyNames.tyOf' x=some t):x=Str.ofString (Qau t):=by
 unfold tyNames.tyOf' at h
 repeat' split at h
 all_goals first | (cases h;assumption) | cases h
theorem a_tys (hg:∀ t:Ty,Gl X (Str.ofString (Qau t))∧X.mg (Str.ofString (Qau t))=none):∀ {es:List Expr}{ts:List Ty},tyNames es=some ts→PA X es (fun _ H Q=>Q (ts.map fun t=>V.ty (Qau t)) H)
 |[],ts,h=>by
  cases h
  exact pa_nil
 |e::es,ts,h=>by
  cases e with
  |Name x p =>
   have h':(tyNames.tyOf' x).bind (fun t=>(tyNames es).map (t::·))=some ts:=h
   obtain⟨t,h1,h2⟩:=obs h'
   cases h3:tyNames es with
   |none=>rw[h3]at h2;cases h2
   |some us =>
    rw[h3]at h2
    cases h2
    have hx:=QkD h1
    subst hx
    have hty:PE X (.Name (Str.ofString (Qau t)) p) (tC (.ty (Qau t))):=Qiq (hg t).1 (hg t).2 (QjE t) rfl (by cases t<;>decide +kernel) (by cases t<;>decide +kernel)
    have ih:PA X es (fun _ H Q=>Q (us.map fun t=>V.ty (Qau t)) H):=a_tys hg h3
    exact Qbo hty ih rfl
  |_=>cases h
theorem Qhp:∀ {ts:List Ty}{us:List Value},Vals (ts.map fun t=>V.ty (Qau t)) us→us=ts.map fun t=>Value.type (Qau t)
 |[],us,h=>by cases h;rfl
 |t::ts,us,h=>by
  cases h with
  |cons r rs =>
   have r':_=Value.type (Qau t):=r
   rw[r',Qhp rs];rfl
theorem Qgz {h:Qac}{w:W}:∀ {ts:List Ty}{bs:List Bool}{f:Ty→Bool},(∀ t,QaY h w t=some (f t))→ts.mapM (QaY h w)=some bs→bs=ts.map f
 |[],bs,f,_,e=>by simp at e;simpa using e.symm
 |t::ts,bs,f,hf,e=>by
  rw[List.mapM_cons,hf t]at e
  cases e1:ts.mapM (QaY h w) with
  |none=>rw[e1]at e;cases e
  |some cs =>
   rw[e1]at e
   cases e
   rw[Qgz hf e1];rfl
theorem Qke {K:PySem.W.Frag}{h:Qac}{w:W}{ρ:List Addr}{H:Hp}{v:V}{u:Value}{pins:List (Addr×Obj)}{σ:L2.St}{s:Shared} (hK:X.K=K) (hr:HRel K ρ h H) (r:Rel K ρ H w v) (I:Inv X pins σ H s) (rv:RelV v u) (hs:∃ t k,QaY h w t=some k) :
  ∃ f:Ty→Bool,(∀ t,QaY h w t=some (f t))∧∃ Tx,(∀ t,Answers (fun s=>s.TypeIs u Tx) u (.type (Qau t)) (f t))∧s.TypeIs u Tx:=by
 subst hK
 obtain⟨t0,k0,ek⟩:=hs
 cases w with
 |int i=>cases Qap r;obtain⟨t,rfl⟩:=rv;exact⟨_,fun _=>rfl,"int",fun t=>QmQ t,rfl⟩
 |bl i=>cases Qbr r;cases rv;exact⟨_,fun _=>rfl,"bool",fun t=>QkB t,rfl⟩
 |str i=>cases Qaw r;obtain⟨t,rfl⟩:=rv;exact⟨_,fun _=>rfl,"str",fun t=>QmF t,rfl⟩
 |tup ws =>
  rw[Rel]at r
  obtain⟨p,xs,rfl,hq,_⟩:=r
  cases rv
  obtain⟨its,_,ht,_⟩:=I.tuple hq.sq
  exact⟨_,fun _=>rfl,"tuple",fun t=>Qjk t,ht.typeIs⟩
 |lst ws =>
  rw[Rel]at r
  obtain⟨p,xs,rfl,_,hq,_⟩:=r
  cases rv
  obtain⟨its,_,ht,_⟩:=I.list (X:=X) (.inl (.inl hq))
  exact⟨_,fun _=>rfl,"list",fun t=>Qed t,ht.isList.typeIs⟩
 |scr ws =>
  rw[Rel]at r
  obtain⟨p,xs,rfl,hq,_⟩:=r
  cases rv
  obtain⟨its,_,ht,_⟩:=I.list hq.sq
  exact⟨_,fun _=>rfl,"list",fun t=>Qed t,ht.isList.typeIs⟩
 |ref n =>
  have ek':(match h[n]? with | some (.lst _)=>some (decide (t0=.list)) | _=>none)=some k0:=ek
  split at ek'<;>try (cases ek';done)
  rename_i us e3
  have hsq:QlN h (.ref n)=some us:=by show (match h[n]? with | some (.lst ws)=>some ws | _=>none)=some us;rw[e3]
  obtain⟨p,xs,rfl,hq,_⟩:=Qcl hr hsq r
  cases rv
  obtain⟨its,_,ht,_⟩:=I.list hq
  exact⟨fun t=>decide (t=.list),fun t=>by show (match h[n]? with | some (.lst _)=>some (decide (t=Ty.list)) | _=>none)=_;rw[e3],"list",fun t=>Qed t,ht.isList.typeIs⟩
 |_=>cases ek
theorem r_isiT {ts:List Ty}{es:List Expr}{kk:Nat}{p p2:Pos} (hg:Gl X "isinstance") (hm:X.mg "isinstance"=none) (hgt:∀ t:Ty,Gl X (Str.ofString (Qau t))∧X.mg (Str.ofString (Qau t))=none)
  (ha:PE X a (tI X.K EX (evE cf a'))) (hs:Qa1 a=true) (ht:tyNames es=some ts) (hne:ts≠[]) (hlen:ts.length≤100) :
  PE X (.Call (.Name "isinstance" p) [a,.Tuple es kk p2] [] pos) (tI X.K EX (evE cf (.isi a' ts))):=by
 intro pins s τ H Q I ⟨ρ,σ,h,re,hr,q⟩
 rw[evE]at q
 refine wpAny_Call_Name_kw (Qd1 I hg hm PyProof.Rows.boot_isinstance ?_ (by decide +kernel) (by decide +kernel))
 refine PyProof.Rows.callWith_builtin1 ?_ (Qat hs _ _) (by rfl)
 have hstar:starEach [a,.Tuple es kk p2] X.env=(false,eval a X.env)::(false,eval (.Tuple es kk p2) X.env)::[]:=by rw[Qat hs];rfl
 rw[hstar]
 show wpAny _ _ (spliced ((false,eval a X.env)::backTo pos [(false,eval (.Tuple es kk p2) X.env)])) _ _ s
 refine Calls.spliced_cons (thn (ha pins s τ H (fun x H1=>∃ ρ1 h1 w1,HRel X.K ρ1 h1 H1∧Rel X.K ρ1 H1 w1 x∧RQ X.K EX ρ1 H1 (match ts.mapM (QaY h1 w1) with
   |some bs=>okB (bs.any id) h1
   |none=>.stuck) fun w _ ρ' H'=>∀ v,Rel X.K ρ' H' w v→Q v H') I ⟨ρ,σ,h,re,hr,q.bnd.mono fun w1 h1 ρ1 H1 x1 hr1 q1 v r=>⟨ρ1,h1,w1,hr1,r,q1⟩⟩) fun u s1 zq=>?_)
 obtain⟨x,H1,I1,r1,ρ1,h1,w1,hr1,rw1,q1⟩:=zq
 refine thn (Q:=fun us s2=>∃ p,us=[Value.ref p]∧Inv X pins τ H1 s2∧s2.heap.get? p=some { cls:=.type "tuple",data:=.seq (ts.map fun t=>Value.type (Qau t)).toArray }) ?_ fun us s2 ⟨p,e1,I2,hp⟩=>?_
 ·show wpAny _ _ (spliced ((false,eval (.Tuple es kk p2) X.env)::[])) _ _ s1
  refine Calls.spliced_cons (wpAny_Tuple_spliced (thn (a_tys hgt ht p2 pins s1 τ H1 (fun vs H'=>vs=ts.map (fun t=>V.ty (Qau t))∧H'=H1) I1 ⟨rfl,rfl⟩) fun us s2 zq=>?_))
  obtain⟨xs,H2,I2,r2,e1,e2⟩:=zq
  subst e1 e2
  have e3:=Qhp r2
  subst e3
  refine⟨Nat.le_trans ?_ (Nat.le_refl sizeLine),?_⟩
  ·rw[List.length_map]
   exact Nat.le_trans hlen (by decide)
  ·refine wpAny_pure ⟨s2.heap.objs.size,rfl,I2.kept (t':=s2.toks) fun b o e=>Heap.get?_push_of_some _ e,Heap.get?_push_size _ rfl⟩
 ·subst e1
  cases em:ts.mapM (QaY h1 w1) with
  |none=>rw[em]at q1;exact q1.elim
  |some bs =>
   rw[em]at q1
   have hs0:∃ t k,QaY h1 w1 t=some k:=by
    cases ts with
    |nil=>exact absurd rfl hne
    |cons t ts =>
     rw[List.mapM_cons]at em
     cases ek:QaY h1 w1 t with
     |none=>rw[ek]at em;cases em
     |some k=>exact⟨t,k,ek⟩
   obtain⟨f,hf,Tx,hans,hty⟩:=Qke rfl hr1 rw1 I2 r1 hs0
   have eb:=Qgz hf em
   subst eb
   exact PySem.IsiPair.tupleOf (Qjp hans ts) hty hp fun tk=>⟨.bl _,H1,I2.tok tk,rfl,RQ.here hr1 q1 _ Qbh⟩
end
inductive Gk where
 |fn (n np:Nat) | con (w:W) | cls (c:Nat) | mth (n np:Nat) | ctor (n np:Nat)
structure Cc where
 N:List Str
 sc:Scope
 G:List (Str×Gk)
 mu:List Str
 top:Bool:=true
noncomputable def Qcu:List Str:=["isinstance","len","list","tuple","max","min","int","bool","str","range","sorted","dict","set","all","any","zip","enumerate","reversed"]
noncomputable def Qmj (x:Str):Option Bl:=if x="len" then some .len else if x="list" then some .list else if x="tuple" then some .tuple else if x="max" then some .max else if x="min" then some .min else if x="int" then some .int else if x="sorted" then some .sorted else if x="dict" then some .dict else if x="all" then some .all else if x="any" then some .any else none
theorem Qkq {x:Str}{b:Bl} (h:Qmj x=some b):x=Qc7 b:=by
 unfold Qmj at h
 repeat' split at h
 all_goals first | (cases h;assumption) | cases h
noncomputable def tyOf (x:Str):Option Ty:=if x="int" then some .int else if x="bool" then some .bool else if x="str" then some .str else if x="tuple" then some .tuple else if x="list" then some .list else none
theorem Qng {x:Str}{t:Ty} (h:tyOf x=some t):x=Str.ofString (Qau t):=by
 unfold tyOf at h
 repeat' split at h
 all_goals first | (cases h;assumption) | cases h
noncomputable def idx (N:List Str) (x:Str):Option Nat:=N.findIdx? fun y=>decide (y=x)
theorem QdD {N:List Str}{x:Str}{i:Nat} (h:idx N x=some i):N[i]?=some x:=by
 unfold idx at h
 obtain⟨h1,h2,_⟩:=List.findIdx?_eq_some_iff_getElem.mp h
 rw[List.getElem?_eq_getElem h1]
 exact congrArg some (of_decide_eq_true h2)
noncomputable def Cc.glo (C:Cc) (x:Str):Bool:=decide (C.sc.names.lookup x=some .globalImplicit)
noncomputable def Cc.loc (C:Cc) (x:Str):Bool:=decide (C.sc.names.lookup x=some .local)
noncomputable def Cc.vis (C:Cc) (x:Str):Bool:=decide (C.sc.names.lookup x=some .local)||decide (C.sc.names.lookup x=some .cell)
noncomputable def Cc.sto (C:Cc) (x:Str):Bool:=decide (C.sc.names.lookup x=some .local)||(C.top&&decide (C.sc.names.lookup x=some .cell))
noncomputable def QeR (x:Str):Bool:=!(x == ("__debug__":Str))&&!(x == ("__classdict__":Str))
noncomputable def cL (f:Expr→Option E):List Expr→Option (List E)
 |[]=>some []
 |e::es=>(f e).bind fun a=>(cL f es).bind fun as=>if Qa1 e then some (a::as) else none
noncomputable def Qhn (C:Cc):List Expr→Option (List Nat)
 |[]=>some []
 |.Name x _::es=>(idx C.N x).bind fun i=>(Qhn C es).bind fun is=>if C.sto x then some (i::is) else none
 |_::_=>none
noncomputable def cTg (C:Cc) (e:Expr):Option (List Nat):=match e with
 |.Name x _=>(idx C.N x).bind fun i=>if C.sto x then some [i] else none
 |.Tuple es _ _=>(Qhn C es).bind fun is=>if is.length=1 then none else some is
 |_=>none
noncomputable def nameOf (e:Expr):List Str:=match e with
 |.Name x _=>[x]
 |_=>[]
noncomputable def Qes (tg:Expr):List Str:=".0"::(match tg with
 |.Name x _=>[x]
 |.Tuple es _ _=>es.flatMap nameOf
 |_=>[])
noncomputable def Qe5 (N own:List Str):List Str:=(own.drop 1).filter fun x=>!N.contains x
noncomputable def Cc.blk (C:Cc) (sc:Scope) (own:List Str):Cc:=⟨C.N++Qe5 C.N own,QdB sc C.sc,C.G,[],false⟩
noncomputable def blkB (C:Cc) (sc:Scope) (own:List Str) (is:List Nat):Bool:=decide (sc.kind=.function)&&sc.names.all (fun y=>decide (y.2≠.cell))&&sc.names.all (fun y=>decide (y.2≠.free∨C.sc.names.lookup y.1=some .cell))
 && sc.names.all (fun y=>decide (y.2≠.local∨(sc.names.lookup y.1=some .local∧y.1∈own)))&&decide (C.N++Qe5 C.N own).Nodup&&own.all (fun x=>match idx C.N x with
  |some i=>is.contains i
  |none=>true)
noncomputable def cO (f:Expr→Option E):Option Expr→Option (Option E)
 |none=>some none
 |some l=>(f l).map some
noncomputable def cIfs (f:Expr→Option E):List Expr→Option (List E)
 |[]=>some []
 |[c]=>(f c).map fun c'=>[c']
 |_=>none
noncomputable def cRng (f:Expr→Option E) (C:Cc) (es:List Expr):Option It:=if C.glo "range"&&(C.G.lookup ("range":Str)).isNone then (match es with
 |[e1]=>(f e1).bind fun e1'=>if Qa1 e1 then some (.rng [e1']) else none
 |[e1,e2]=>(f e1).bind fun e1'=>(f e2).bind fun e2'=>if Qa1 e1&&Qa1 e2 then some (.rng [e1',e2']) else none
 |_=>none) else none
noncomputable def QiI (e:Expr):Bool:=match e with
 |.Tuple ..=>true
 |_=>false
theorem Qjw {e:Expr} (h:QiI e=true):∃ es k p,e=.Tuple es k p:=by
 unfold QiI at h
 split at h
 ·exact⟨_,_,_,rfl⟩
 ·cases h
noncomputable def cZip (f:Expr→Option E) (C:Cc) (tg:Expr) (es:List Expr):Option It:=if QiI tg&&C.glo "zip"&&(C.G.lookup ("zip":Str)).isNone then (match es with
 |[e1,e2]=>(f e1).bind fun e1'=>(f e2).bind fun e2'=>if Qa1 e1&&Qa1 e2 then some (.seq (.zipE e1' e2')) else none
 |_=>none) else none
noncomputable def QmT (f:Expr→Option E) (C:Cc) (tg it:Expr):Option It:=match it with
 |.Call (.Name x p) es [] p2=>if x="range" then cRng f C es else if x="zip" then cZip f C tg es else (f (.Call (.Name x p) es [] p2)).bind fun a'=>some (.seq a')
 |it=>(f it).bind fun a'=>if Qbn it then some (.seq a') else none
noncomputable def cSrc (f:Expr→Option E) (C:Cc) (tg it:Expr):Option It:=QmT f C tg it
noncomputable def Qj5 (is:List Nat) (n:Nat) (src:It) (ifs':List E) (elt':E):E:=match src with
 |.seq a=>.compS is n a ifs' elt'
 |.rng es=>.compR is n es ifs' elt'
noncomputable def cCon (k:Const):Option E:=match k with
 |.int i=>some (.con (.int i))
 |.bool b=>some (.con (.bl b))
 |.str s=>some (.con (.str s))
 |.none=>some (.con .non)
 |_=>none
noncomputable def cNm (C:Cc) (x:Str):Option E:=if QeR x then (match idx C.N x with
 |some i=>if C.vis x then some (.var i) else none
 |none=>match C.G.lookup x with
  |some (.con w)=>if C.glo x then some (.con w) else none
  |_=>none) else none
noncomputable def cUn (op:UnaryOp) (a':E):Option E:=match op with
 |.Not=>some (.not_ a')
 |.USub=>some (.neg a')
 |_=>none
noncomputable def cCmp (f:Expr→Option E) (a:Expr) (ops:List CmpOp) (bs:List Expr):Option E:=match ops,bs with
 |[op],[b]=>(f a).bind fun a'=>(f b).bind fun b'=>if Qeh b then some (.cmp op a' b') else none
 |_,_=>none
noncomputable def mtOf (m:Str) (n:Nat):Option Mt:=if n=1 then (if m="append" then some .append else none) else none
noncomputable def cBool (f:Expr→Option E) (op:BoolOp) (vs:List Expr) (p:Pos):Option E:=match vs with
 |[]=>none
 |[a]=>f a
 |a::b::r=>(f a).bind fun a'=>(f (.BoolOp op (b::r) p)).bind fun b'=>some (match op with
  |.And=>.and_ a' b'
  |.Or=>.or_ a' b')
noncomputable def cSub (f:Expr→Option E) (a b:Expr):Option E:=match b with
 |.Slice lo hi st _=>if st.isNone then (f a).bind fun a'=>(cO f lo).bind fun lo'=>(cO f hi).bind fun hi'=>some (.sl a' lo' hi') else none
 |b=>(f a).bind fun a'=>(f b).bind fun b'=>if QcC b then some (.ix a' b') else none
noncomputable def cIsi (f:Expr→Option E) (C:Cc) (a:Expr) (t:Expr):Option E:=match t with
 |.Name t _=>(tyOf t).bind fun ty=>(f a).bind fun a'=>if Qa1 a&&C.glo "isinstance"&&C.glo t&&(C.G.lookup ("isinstance":Str)).isNone&&(C.G.lookup t).isNone then some (.isi a' [ty]) else none
 |.Tuple ts _ _=>(tyNames ts).bind fun tys=>(f a).bind fun a'=>if Qa1 a&&C.glo "isinstance"&&(C.G.lookup ("isinstance":Str)).isNone&&!tys.isEmpty&&decide (tys.length≤100)&&([("int":Str),"bool","str","tuple","list"].all fun t=>C.glo t&&(C.G.lookup t).isNone) then some (.isi a' tys) else none
 |_=>none
noncomputable def Qil (f:Expr→Option E) (C:Cc) (x:Str) (es:List Expr):Option E:=match C.G.lookup x with
 |some (.fn g np)=>(cL f es).bind fun es'=>if C.glo x&&QeR x&&decide (es.length=np) then some (.call g es') else none
 |_=>none
noncomputable def cBlt (f:Expr→Option E) (C:Cc) (x:Str) (b:Bl) (es:List Expr):Option E:=(cL f es).bind fun es'=>if C.glo x&&(C.G.lookup x).isNone then some (.blt b es') else none
noncomputable def Qlk (f:Expr→Option E) (C:Cc) (x:Str) (e:Expr) (es:List Expr):Option E :=
 if x="isinstance" then (match es with
  |[t]=>cIsi f C e t
  |_=>none)
 else (match Qmj x with
  |some b=>cBlt f C x b (e::es)
  |none=>Qil f C x (e::es))
noncomputable def Ql4 (f:Expr→Option E) (a:Expr) (mt:Mt) (es:List Expr):Option E:=(f a).bind fun a'=>(cL f es).bind fun es'=>if Qgk a then some (.meth mt a' es') else none
noncomputable def QmK (f:Expr→Option E) (C:Cc) (a:Expr) (m:Str) (ap p:Pos) (es:List Expr):Option E:=if ap.endLine=p.line then (match mtOf m es.length with
 |some mt=>Ql4 f a mt es
 |none=>none) else none
noncomputable def cCall (f:Expr→Option E) (C:Cc) (g:Expr) (es:List Expr) (p:Pos):Option E:=match g with
 |.Name x _=>(match es with
  |e::es=>Qlk f C x e es
  |[]=>none)
 |.Attribute a m ap=>QmK f C a m ap p es
 |_=>none
noncomputable def cGen (g:Cc→Expr→Option E) (C:Cc) (elt:Expr) (gs:List Comprehension) (sc:Scope):Option E:=match gs with
 |[⟨tg, it, ifs, k⟩] => if k = 0 then (cTg (C.blk sc (Qes tg)) tg).bind fun is => (g (C.blk sc (Qes tg)) elt).bind fun elt' => (cIfs (g (C.blk sc (Qes tg))) ifs).bind fun ifs' => (cSrc (g C) C tg it).bind fun src =>
  if blkB C sc (Qes tg) is then some (Qj5 is (Qe5 C.N (Qes tg)).length src ifs' elt') else none else none
 |_=>none
noncomputable def cE (C:Cc):Nat→Expr→Option E
 |0,_=>none
 |n+1,e=>match e with
  |.Constant k _ _=>cCon k
  |.Name x _=>cNm C x
  |.BinOp a op b _=>(cE C n a).bind fun a'=>(cE C n b).bind fun b'=>some (.bin op a' b')
  |.UnaryOp op a _=>(cE C n a).bind fun a'=>cUn op a'
  |.Compare a ops bs _=>cCmp (cE C n) a ops bs
  |.BoolOp op vs p=>cBool (cE C n) op vs p
  |.IfExp c a b _=>(cE C n c).bind fun c'=>(cE C n a).bind fun a'=>(cE C n b).bind fun b'=>some (.ite c' a' b')
  |.Tuple es _ _=>(cL (cE C n) es).bind fun es'=>some (.tup es')
  |.List es _=>(cL (cE C n) es).bind fun es'=>some (.lst es')
  |.Subscript a b _=>cSub (cE C n) a b
  |.ListComp elt gs sc _=>cGen (fun C=>cE C n) C elt gs sc
  |.Call g es kw p=>if kw.isEmpty then cCall (cE C n) C g es p else none
  |_=>none
structure Sib (X Y:Cx):Prop where
 prog:Y.prog=X.prog
 w:Y.w=X.w
 K:Y.K=X.K
 mg:Y.mg=X.mg
 base:Y.base=X.base
 A:Y.A=X.A
structure COk (cl:Nat→Addr) (X:Cx) (EX:EXT) (cf:CF) (C:Cc):Prop where
 N:X.N=C.N
 nd:C.N.Nodup
 sc:X.env.scope=C.sc
 kind:C.sc.kind=.function
 calm:X.calm=true
 room:X.A.units+64<cLine
 own:PassesOwn (model X.prog X.w) X.A X.env X.xe
 fn:C.top=true→∀ x,X.fn x=true
 con:∀ x w,C.G.lookup x=some (.con w)→∃ u v,X.mg x=some u∧RelV v u∧∀ ρ H,Rel X.K ρ H w v
 call:∀ (Y:Cx) (EY:EXT),Sib X Y→XL cl Y EY→∀ x f np,C.G.lookup x=some (.fn f np)→Gl Y x→(x == ("__debug__":Str))=false→∀ (p pos:Pos) (e:Expr) (es:List Expr) (es':List E),(e::es).all Qa1=true→(e::es).length=np→es'.length=np→PA Y (e::es) (tIA Y.K EY (evA cf es')) →
  PE Y (.Call (.Name x p) (e::es) [] pos) (tI Y.K EY (evE cf (.call f es')))
 nob:∀ x,x∈Qcu→C.G.lookup x=none→X.mg x=none
 xl:XL cl X EX
 cls:∀ x c,C.G.lookup x=some (.cls c)→X.mg x=some (.ref (cl c))∧∃ bm,Eo X.base (cl c) bm∧∀ y d,C.G.lookup y=some (.cls d)→(Value.ref (cl c)::bm).contains (.ref (cl d))=decide (c=d)
section
variable {X:Cx}{EX:EXT}{cf:CF}{C:Cc}{cl:Nat→Addr}
theorem COk.gl (H:COk cl X EX cf C) {x:Str} (h:C.glo x=true):Gl X x:=by
 unfold Gl Env.kindOf
 rw[H.sc]
 exact of_decide_eq_true h
theorem QhN {f:Expr→Option E} (hf:∀ e e',f e=some e'→PE X e (tI X.K EX (evE cf e'))):∀ {es:List Expr}{es':List E},cL f es=some es'→PA X es (tIA X.K EX (evA cf es'))∧es.all Qa1=true∧es'.length=es.length
 |[],es',h=>by cases h;exact⟨QkV,rfl,rfl⟩
 |e::es,es',h=>by
  unfold cL at h
  obtain⟨a,h1,h⟩:=obs h
  obtain⟨as,h2,h⟩:=obs h
  split at h
  ·rename_i hs
   cases h
   obtain⟨p,q,r⟩:=QhN hf h2
   exact⟨QdM (hf _ _ h1) p hs,by rw[List.all_cons,hs,q];rfl,by simp[r]⟩
  ·cases h
theorem QfT (b:Bl):Qc7 b∈Qcu:=by
 cases b<;>decide +kernel
theorem QdG (t:Ty):Str.ofString (Qau t)∈Qcu:=by
 cases t<;>decide +kernel
theorem Qbw (H:COk cl X EX cf C) {x:Str} (h:C.sto x=true):Loc X.env.scope x∧(X.fn x=true∨X.env.scope.names.lookup x=some .local):=by
 unfold Cc.sto at h
 rw[Bool.or_eq_true,Bool.and_eq_true]at h
 rw[H.sc]
 rcases h with h | h
 ·exact⟨.inl (of_decide_eq_true h),.inr (of_decide_eq_true h)⟩
 ·exact⟨.inr (of_decide_eq_true h.2),.inl (H.fn h.1 x)⟩
theorem vis_of (H:COk cl X EX cf C) {x:Str} (h:C.vis x=true):Vis X.env.scope x:=by
 unfold Cc.vis at h
 rw[Bool.or_eq_true]at h
 rw[H.sc]
 rcases h with h | h
 ·exact .inl (of_decide_eq_true h)
 ·exact .inr (.inl (of_decide_eq_true h))
theorem Qfj (H:COk cl X EX cf C):∀ {es:List Expr}{is:List Nat},Qhn C es=some is→PGs X es (tGs X.K is)∧es.all Qa4=true∧es.length=is.length
 |[],is,h=>by cases h;exact⟨gs_nil,rfl,rfl⟩
 |e::es,is,h=>by
  unfold Qhn at h
  split at h
  ·rename_i heq;cases heq
  ·rename_i x p es0 heq
   cases heq
   obtain⟨i,h1,h⟩:=obs h
   obtain⟨is',h2,h⟩:=obs h
   split at h
   ·rename_i hl
    cases h
    obtain⟨q1,q2,q3⟩:=Qfj H h2
    exact⟨QmD (by rw[H.N];exact H.nd) (by rw[H.N];exact QdD h1) (Qbw H hl).1 (Qbw H hl).2 q1,by rw[List.all_cons,q2];rfl,by simp[q3]⟩
   ·cases h
  ·cases h
theorem QdR (H:COk cl X EX cf C) {e:Expr}{is:List Nat} (h:cTg C e=some is):PG X e (tGI X.K is):=by
 unfold cTg at h
 split at h
 ·obtain⟨i,h1,h⟩:=obs h
  split at h
  ·rename_i hl
   cases h
   exact g_name (by rw[H.N];exact H.nd) (by rw[H.N];exact QdD h1) (Qbw H hl).1 (Qbw H hl).2
  ·cases h
 ·obtain⟨is',h1,h⟩:=obs h
  split at h
  ·cases h
  ·rename_i hl
   cases h
   obtain⟨q1,q2,q3⟩:=Qfj H h1
   exact g_tup H.calm q1 q2 q3 hl
 ·cases h
theorem blk_ok (H:COk cl X EX cf C) {sc:Scope}{own:List Str}{is:List Nat} (h:blkB C sc own is=true) (cs:List (Str×Addr)) (L:Addr) (fp:List Addr) (s:Shared) (H0:Hp) :
  COk cl (blk X (C.N++Qe5 C.N own) sc cs L fp s H0) FX cf (C.blk sc own):=by
 unfold blkB at h
 simp only[Bool.and_eq_true,decide_eq_true_eq]at h
 refine⟨rfl,h.1.2,?_,h.1.1.1.1.1,H.calm,H.room,PassesOwn.never,(fun z=>by cases z),H.con,?_,H.nob,XL.no (fun c h ρ H z=>z),H.cls⟩
 ·show QdB sc X.env.scope=QdB sc C.sc
  rw[H.sc]
 ·intro Y EY S hE
  exact H.call Y EY ⟨S.prog,S.w,S.K,S.mg,S.base,S.A⟩ hE
theorem blk_is (H:COk cl X EX cf C) {sc:Scope}{own:List Str}{is:List Nat} (h0:own.head?=some ".0") (h:blkB C sc own is=true):BlkOk X.env.scope X.N (C.N++Qe5 C.N own) sc own ∧
  (C.N++Qe5 C.N own).length=X.N.length+(Qe5 C.N own).length∧∀ (i:Nat) (x:Str),X.N[i]?=some x→x∈own→i∈is:=by
 unfold blkB at h
 simp only[Bool.and_eq_true,decide_eq_true_eq,List.all_eq_true]at h
 obtain⟨⟨⟨⟨⟨h1,h2⟩,h3⟩,h4⟩,h5⟩,h6⟩:=h
 refine⟨⟨h1,h2,fun y hy hf=>?_,fun y hy hl=>?_,fun x hx=>?_,⟨Qe5 C.N own,by rw[H.N]⟩,fun i x hi hl=>?_⟩,by rw[H.N,List.length_append],fun i x hi hx=>?_⟩
 ·rcases h3 y hy with z | z
  ·exact absurd hf z
  ·rw[H.sc];exact z
 ·rcases h4 y hy with z | z
  ·exact absurd hl z
  ·exact z.1
 ·rcases h4 _ (QaT hx) with z | z
  ·exact absurd rfl z
  ·exact z.2
 ·rw[H.N]at hl
  rw[List.getElem?_append_right hl]at hi
  have hm:=List.mem_of_getElem? hi
  exact List.mem_of_mem_drop (List.mem_filter.mp hm).1
 ·have q:=h6 x hx
  rw[H.N]at hi
  cases e:idx C.N x with
  |none =>
   unfold idx at e
   rw[List.findIdx?_eq_none_iff]at e
   have:=e x (List.mem_of_getElem? hi)
   simp at this
  |some j =>
   rw[e]at q
   have hj:=QdD e
   have:j=i:=Qe6 H.nd hj hi
   subst this
   simpa using q
theorem Qk1 {c':E} (σ:Qai) (h:Qac):Qc2 cf [c'] σ h=evT cf c' σ h:=by
 rw[Qc2]
 show bnd (tst (evE cf c' σ h)) _=tst (evE cf c' σ h)
 cases tst (evE cf c' σ h) with
 |ok b h1=>cases b<;>simp[bnd,Qc2]
 |exc c h1=>rfl
 |stuck=>rfl
theorem t_ite {c a b:Expr}{c' a' b':E}{pos:Pos} (hc:PT X c (tIT X.K EX (evT cf c'))) (ha:PT X a (tIT X.K EX (evT cf a'))) (hb:PT X b (tIT X.K EX (evT cf b'))):PT X (.IfExp c a b pos) (tIT X.K EX (evT cf (.ite c' a' b'))):=by
 intro pins s τ H Q I ⟨ρ,σ,h,re,hr,q⟩
 rw[QmR]at q
 refine isTrue_IfExp (thn (hc pins s τ H _ I ⟨ρ,σ,h,re,hr,q.bnd.mono fun k h1 ρ1 H1 x1 hr1 q1=>(show (if k=true then tIT X.K EX (evT cf a') τ H1 Q else tIT X.K EX (evT cf b') τ H1 Q) from ?_)⟩) fun k s1 ⟨H1,I1,q1⟩=>?_)
 ·cases k with
  |true=>exact Qn3 ⟨ρ1,σ,h1,re.ext x1,hr1,by simpa using q1⟩
  |false=>exact Qnk ⟨ρ1,σ,h1,re.ext x1,hr1,by simpa using q1⟩
 ·cases k with
  |true=>exact ha pins s1 τ H1 Q I1 (by simpa using q1)
  |false=>exact hb pins s1 τ H1 Q I1 (by simpa using q1)
noncomputable def CompP (X:Cx) (EX:EXT) (cf:CF) (elt tg it:Expr) (ifs:List Expr) (sc:Scope) (ce:E):Prop :=
 ∃ (wi:TI) (N' own:List Str) (is:List Nat) (n:Nat) (ifs':List E) (elt':E),PI X tg it wi∧Qbn it=true∧BlkOk X.env.scope X.N N' sc own∧N'.length=X.N.length+n∧(∀ (i:Nat) (x:Str),X.N[i]?=some x→x∈own→i∈is) ∧
  BlkP X cf N' sc tg is ifs ifs' elt elt'∧∀ τ H Q,tI X.K EX (evE cf ce) τ H Q→wi τ H fun J H1=>∀ D,H1 D=none→Qc9 D J (tGI X.K is) (tIT X.K FX (Qc2 cf ifs')) (tI X.K FX (evE cf elt')) Q (QfN is n τ) H1
theorem Qkx (H:COk cl X EX cf C) {f:Expr→Option E} (ihE:∀ e e',f e=some e'→PE X e (tI X.K EX (evE cf e'))) {it tg:Expr}{src:It}{is:List Nat}{n:Nat}{ifs':List E}{elt':E} (h:QmT f C tg it=some src) :
  ∃ wi,PI X tg it wi∧Qbn it=true∧∀ τ H Q,tI X.K EX (evE cf (Qj5 is n src ifs' elt')) τ H Q→wi τ H fun J H1=>∀ D,H1 D=none→Qc9 D J (tGI X.K is) (tIT X.K FX (Qc2 cf ifs')) (tI X.K FX (evE cf elt')) Q (QfN is n τ) H1:=by
 unfold QmT at h
 split at h
 ·split at h
  ·rename_i hx
   subst hx
   unfold cRng at h
   split at h
   ·rename_i hc
    rw[Bool.and_eq_true]at hc
    have hm:=H.nob "range" (by decide +kernel) (Option.isNone_iff_eq_none.mp hc.2)
    split at h
    ·obtain⟨e1',h1,h⟩:=obs h
     split at h
     ·rename_i hs
      cases h
      exact⟨_,Qfx (H.gl hc.1) hm (QdM (ihE _ _ h1) QkV hs) (Qat hs _ _),rfl,q_rng1⟩
     ·cases h
    ·obtain⟨e1',h1,h⟩:=obs h
     obtain⟨e2',h2,h⟩:=obs h
     split at h
     ·rename_i hs
      rw[Bool.and_eq_true]at hs
      cases h
      exact⟨_,Qf7 (H.gl hc.1) hm (QdM (ihE _ _ h1) (QdM (ihE _ _ h2) QkV hs.2) hs.1) (by rw[Qat hs.1,Qat hs.2];rfl) (by rw[Qat hs.2];rfl),rfl,q_rng2⟩
     ·cases h
    ·cases h
   ·cases h
  ·split at h
   ·rename_i hx
    subst hx
    unfold cZip at h
    split at h
    ·rename_i hc
     rw[Bool.and_eq_true,Bool.and_eq_true]at hc
     obtain⟨⟨ht,hgl⟩,hno⟩:=hc
     have hm:=H.nob "zip" (by decide +kernel) (Option.isNone_iff_eq_none.mp hno)
     split at h
     ·obtain⟨e1',h1,h⟩:=obs h
      obtain⟨e2',h2,h⟩:=obs h
      split at h
      ·rename_i hs
       rw[Bool.and_eq_true]at hs
       cases h
       obtain⟨_,_,_,rfl⟩:=Qjw ht
       exact⟨_,pi_zip (H.gl hgl) hm (QdM (ihE _ _ h1) (QdM (ihE _ _ h2) QkV hs.2) hs.1) (by rw[Qat hs.1,Qat hs.2];rfl) (by rw[Qat hs.2];rfl),rfl,q_zip⟩
      ·cases h
     ·cases h
    ·cases h
   ·obtain⟨a',h1,h⟩:=obs h
    cases h
    exact⟨_,i_seq (ihE _ _ h1),rfl,q_seq⟩
 ·obtain⟨a',h1,h⟩:=obs h
  split at h
  ·rename_i hp
   cases h
   exact⟨_,i_seq (ihE _ _ h1),hp,q_seq⟩
  ·cases h
theorem Qm3 (H:COk cl X EX cf C) {f:Expr→Option E} (ihE:∀ e e',f e=some e'→PE X e (tI X.K EX (evE cf e'))) {it tg:Expr}{src:It}{is:List Nat}{n:Nat}{ifs':List E}{elt':E} (h:cSrc f C tg it=some src) :
  ∃ wi,PI X tg it wi∧Qbn it=true∧∀ τ H Q,tI X.K EX (evE cf (Qj5 is n src ifs' elt')) τ H Q→wi τ H fun J H1=>∀ D,H1 D=none→Qc9 D J (tGI X.K is) (tIT X.K FX (Qc2 cf ifs')) (tI X.K FX (evE cf elt')) Q (QfN is n τ) H1:=by
 unfold cSrc at h
 exact Qkx H ihE h
theorem Qkh (tg:Expr):(Qes tg).head?=some ".0":=rfl
theorem QgV (H:COk cl X EX cf C) {n:Nat} (ih:∀ (X:Cx) (EX:EXT) (C:Cc),COk cl X EX cf C→∀ e e',cE C n e=some e'→PE X e (tI X.K EX (evE cf e'))∧PT X e (tIT X.K EX (evT cf e')))
  {elt tg it:Expr}{ifs:List Expr}{sc:Scope}{pos:Pos}{ce:E} (h:cE C (n+1) (.ListComp elt [⟨tg,it,ifs,0⟩] sc pos)=some ce):CompP X EX cf elt tg it ifs sc ce:=by
 have h:cGen (fun C=>cE C n) C elt [⟨tg,it,ifs,0⟩] sc=some ce:=by unfold cE at h;exact h
 unfold cGen at h
 dsimp only at h
 rw[if_pos rfl]at h
 obtain⟨is,h1,h⟩:=obs h
 obtain⟨elt',h2,h⟩:=obs h
 obtain⟨ifs',h3,h⟩:=obs h
 obtain⟨src,h4,h⟩:=obs h
 split at h
 ·rename_i hb
  cases h
  obtain⟨wi,q1,q2,q3⟩:=Qm3 (tg:=tg) (is:=is) (n:=(Qe5 C.N (Qes tg)).length) (ifs':=ifs') (elt':=elt') H (fun e e' h=>(ih X EX C H e e' h).1) h4
  obtain⟨b1,b2,b3⟩:=blk_is H (Qkh tg) hb
  refine⟨wi,_,_,is,_,ifs',elt',q1,q2,b1,b2,b3,fun cl L fp s H0=>?_,q3⟩
  have HB:=blk_ok H hb cl L fp s H0
  refine⟨QdR HB h1,?_,(ih _ _ _ HB _ _ h2).1⟩
  clear h1 h2 h4
  match ifs,h3 with
  |[],h3 =>
   cases h3
   intro pins s σ H Q I ⟨ρ,σ',h,re,hr,q⟩
   rw[Qc2]at q
   exact Qmb pins s σ H Q I (RQ.here hr q)
  |[c],h3 =>
   have h3':(cE (C.blk sc (Qes tg)) n c).map (fun c'=>[c'])=some ifs':=h3
   cases h5:cE (C.blk sc (Qes tg)) n c with
   |none=>rw[h5]at h3';cases h3'
   |some c' =>
    rw[h5]at h3'
    cases h3'
    have:=QlU (ih _ _ _ HB _ _ h5).2
    intro pins s σ H Q I ⟨ρ,σ',h,re,hr,q⟩
    rw[Qk1]at q
    exact this pins s σ H Q I ⟨ρ,σ',h,re,hr,q⟩
  |_::_::_,h3=>cases h3
 ·cases h
theorem cO_ok {f:Expr→Option E} (ihE:∀ e e',f e=some e'→PE X e (tI X.K EX (evE cf e'))) {o:Option Expr}{o':Option E} (h:cO f o=some o'):PO X o (tIO X.K EX (evO cf o')):=by
 cases o with
 |none=>cases h;exact o_none
 |some l =>
  have h':(f l).map some=some o':=h
  cases h5:f l with
  |none=>rw[h5]at h';cases h'
  |some l'=>rw[h5]at h';cases h';exact o_some (ihE _ _ h5)
theorem QhS {x:Str} (h:QeR x=true):(x == ("__debug__":Str))=false∧(x == ("__classdict__":Str))=false:=by
 unfold QeR at h
 rw[Bool.and_eq_true,Bool.not_eq_true',Bool.not_eq_true']at h
 exact h
section
variable {f:Expr→Option E}
theorem Qnx (H:COk cl X EX cf C) (ihE:∀ e e',f e=some e'→PE X e (tI X.K EX (evE cf e'))) {x:Str}{b:Bl}{e:Expr}{es:List Expr}{e':E}{p pos:Pos} (hx:x=Qc7 b) (h:cBlt f C x b (e::es)=some e'):PE X (.Call (.Name x p) (e::es) [] pos) (tI X.K EX (evE cf e')):=by
 unfold cBlt at h
 obtain⟨es',h1,h⟩:=obs h
 split at h
 ·rename_i hc
  cases h
  subst hx
  rw[Bool.and_eq_true]at hc
  obtain⟨q1,q2,q3⟩:=QhN ihE h1
  exact r_blt H.calm (H.gl hc.1) (H.nob _ (QfT _) (Option.isNone_iff_eq_none.mp hc.2)) q1 q2
 ·cases h
theorem QjJ (H:COk cl X EX cf C) (ihE:∀ e e',f e=some e'→PE X e (tI X.K EX (evE cf e'))) {x:Str}{e:Expr}{es:List Expr}{e':E}{p pos:Pos} (h:Qil f C x (e::es)=some e'):PE X (.Call (.Name x p) (e::es) [] pos) (tI X.K EX (evE cf e')):=by
 unfold Qil at h
 split at h
 ·rename_i g np hg
  obtain⟨es',h1,h⟩:=obs h
  split at h
  ·rename_i hc
   cases h
   simp only[Bool.and_eq_true]at hc
   obtain⟨q1,q2,q3⟩:=QhN ihE h1
   have hl:=of_decide_eq_true hc.2
   exact H.call X EX ⟨rfl,rfl,rfl,rfl,rfl,rfl⟩ H.xl x g np hg (H.gl hc.1.1) (QhS hc.1.2).1 _ _ _ _ _ q2 hl (q3.trans hl) q1
  ·cases h
 ·cases h
theorem cL_one {e:Expr}{es':List E} (h:cL f [e]=some es'):∃ a,f e=some a∧es'=[a]∧Qa1 e=true:=by
 unfold cL at h
 obtain⟨a,h1,h⟩:=obs h
 obtain⟨as,h2,h⟩:=obs h
 split at h
 ·rename_i hs
  cases h
  cases h2
  exact⟨a,h1,rfl,hs⟩
 ·cases h
theorem Qkp (H:COk cl X EX cf C) (ihE:∀ e e',f e=some e'→PE X e (tI X.K EX (evE cf e'))) {a:Expr}{m:Str}{ap pos:Pos}{es:List Expr}{e':E} (h:QmK f C a m ap pos es=some e'):PE X (.Call (.Attribute a m ap) es [] pos) (tI X.K EX (evE cf e')):=by
 unfold QmK at h
 split at h
 ·rename_i hln
  split at h
  ·rename_i mt hmt
   unfold Ql4 at h
   obtain⟨a',h1,h⟩:=obs h
   obtain⟨es',h2,h⟩:=obs h
   split at h
   ·rename_i hc
    cases h
    unfold mtOf at hmt
    split at hmt
    ·rename_i hl
     match es,hl with
     |[e0],_ =>
      obtain⟨b',h3,rfl,hs⟩:=cL_one h2
      split at hmt
      ·rename_i hm;subst hm;cases hmt;exact Qk6 (ihE _ _ h1) (ihE _ _ h3) hs hc hln
      ·cases hmt
    ·cases hmt
   ·cases h
  ·cases h
 ·cases h
end
theorem cE_gen {cf:CF}{cl:Nat→Addr}:∀ (n:Nat) (X:Cx) (EX:EXT) (C:Cc),COk cl X EX cf C→∀ (e:Expr) (e':E),cE C n e=some e'→PE X e (tI X.K EX (evE cf e'))∧PT X e (tIT X.K EX (evT cf e'))∧∀ op vs p,e=.BoolOp op vs p→PW X e (tIT X.K EX (evT cf e')):=by
 intro n
 induction n with
 |zero=>intro X EX C H e e' h;cases h
 |succ n ih0 =>
  intro X EX C H
  have ih:=ih0 X EX C H
  have plain:∀ (e:Expr) (e':E),QhP e=true→PE X e (tI X.K EX (evE cf e'))→PE X e (tI X.K EX (evE cf e'))∧PT X e (tIT X.K EX (evT cf e'))∧∀ op vs p,e=.BoolOp op vs p→PW X e (tIT X.K EX (evT cf e')) :=
   fun e e' hp h=>⟨h,QmY h hp,fun op vs p z=>by subst z;cases hp⟩
  have ihE:∀ e e',cE C n e=some e'→PE X e (tI X.K EX (evE cf e')):=fun e e' h=>(ih e e' h).1
  have ihT:∀ e e',cE C n e=some e'→PT X e (tIT X.K EX (evT cf e')):=fun e e' h=>(ih e e' h).2.1
  intro e e' h
  unfold cE at h
  split at h
  ·unfold cCon at h
   split at h
   ·cases h;exact plain _ _ rfl Qjl
   ·cases h;exact plain _ _ rfl QkZ
   ·cases h;exact plain _ _ rfl QiZ
   ·cases h;exact plain _ _ rfl Qjd
   ·cases h
  ·-- a name
   rename_i x p
   unfold cNm at h
   split at h
   ·rename_i ho
    unfold QeR at ho
    simp only[Bool.and_eq_true,Bool.not_eq_true']at ho
    split at h
    ·rename_i i hi
     split at h
     ·rename_i hl
      cases h
      exact plain _ _ rfl (r_var (by rw[H.N];exact QdD hi) (vis_of H hl) ho.1 ho.2)
     ·cases h
    ·split at h
     ·rename_i w hw
      split at h
      ·rename_i hg
       cases h
       obtain⟨u,v,h1,h2,h3⟩:=H.con x w hw
       exact plain _ _ rfl (r_glob (H.gl hg) h1 h2 h3 ho.1)
      ·cases h
     ·cases h
   ·cases h
  ·obtain⟨a',h1,h⟩:=obs h
   obtain⟨b',h2,h⟩:=obs h
   cases h
   exact plain _ _ rfl (r_bin (opW_ok _) (ihE _ _ h1) (ihE _ _ h2))
  ·obtain⟨a',h1,h⟩:=obs h
   unfold cUn at h
   split at h
   ·cases h
    exact⟨r_not (ihE _ _ h1),t_not (ihT _ _ h1),fun op vs p z=>by cases z⟩
   ·cases h
    exact plain _ _ rfl (r_neg (ihE _ _ h1))
   ·cases h
  ·unfold cCmp at h
   split at h
   ·obtain⟨a',h1,h⟩:=obs h
    obtain⟨b',h2,h⟩:=obs h
    split at h
    ·rename_i hp
     cases h
     exact⟨r_cmp H.room (ihE _ _ h1) (ihE _ _ h2) hp,t_cmp H.room (ihE _ _ h1) (ihE _ _ h2) hp,fun op vs p z=>by cases z⟩
    ·cases h
   ·cases h
  ·rename_i op0 vs0 p0
   unfold cBool at h
   split at h
   ·cases h
   ·have hw:=t_and1 (op:=op0) (pos:=p0) (ihT _ _ h)
    exact⟨pe_one (ihE _ _ h),hw.pt,fun op vs p z=>by cases z;exact hw⟩
   ·obtain⟨a',h1,h⟩:=obs h
    obtain⟨b',h2,h⟩:=obs h
    cases op0 with
    |And =>
     cases h
     have hw:=t_and (ihT _ _ h1) ((ih _ _ h2).2.2 _ _ _ rfl)
     exact⟨r_and (ihE _ _ h1) (ihE _ _ h2),hw.pt,fun op vs p z=>by cases z;exact hw⟩
    |Or =>
     cases h
     have hw:=t_or (ihT _ _ h1) ((ih _ _ h2).2.2 _ _ _ rfl)
     exact⟨r_or (ihE _ _ h1) (ihE _ _ h2),hw.pt,fun op vs p z=>by cases z;exact hw⟩
  ·obtain⟨c',h0,h⟩:=obs h
   obtain⟨a',h1,h⟩:=obs h
   obtain⟨b',h2,h⟩:=obs h
   cases h
   exact⟨r_ite (ihT _ _ h0) (ihE _ _ h1) (ihE _ _ h2),t_ite (ihT _ _ h0) (ihT _ _ h1) (ihT _ _ h2),fun op vs p z=>by cases z⟩
  ·obtain⟨es',h1,h⟩:=obs h
   cases h
   exact plain _ _ rfl (r_tup (QhN ihE h1).1)
  ·obtain⟨es',h1,h⟩:=obs h
   cases h
   exact plain _ _ rfl (r_lst (QhN ihE h1).1)
  ·unfold cSub at h
   split at h
   ·split at h
    ·rename_i hs
     rw[Option.isNone_iff_eq_none]at hs
     subst hs
     obtain⟨a',h1,h⟩:=obs h
     obtain⟨lo',h2,h⟩:=obs h
     obtain⟨hi',h3,h⟩:=obs h
     cases h
     exact plain _ _ rfl (r_sl (ihE _ _ h1) (cO_ok ihE h2) (cO_ok ihE h3))
    ·cases h
   ·obtain⟨a',h1,h⟩:=obs h
    obtain⟨b',h2,h⟩:=obs h
    split at h
    ·rename_i hp
     cases h
     exact plain _ _ rfl (r_ix H.room (ihE _ _ h1) (ihE _ _ h2) hp)
    ·cases h
  ·rename_i elt gs sc ps
   have hg:∃ tg it ifs,gs=[⟨tg,it,ifs,0⟩]:=by
    unfold cGen at h
    split at h
    ·rename_i tg it ifs k
     split at h
     ·rename_i hk
      subst hk
      exact⟨tg,it,ifs,rfl⟩
     ·cases h
    ·cases h
   obtain⟨tg,it,ifs,rfl⟩:=hg
   have h':cE C (n+1) (.ListComp elt [⟨tg,it,ifs,0⟩] sc ps)=some e':=by unfold cE;exact h
   obtain⟨wi,N',own,is,m,ifs',elt',q1,q2,q3,q4,q5,q6,q7⟩:=QgV H (fun X EX C H e e' h=>⟨(ih0 X EX C H e e' h).1,(ih0 X EX C H e e' h).2.1⟩) h'
   exact plain _ _ rfl (Ql9 H.calm q1 q2 q3 q4 q5 q6 q7)
  ·split at h
   ·rename_i hkw
    rw[List.isEmpty_iff]at hkw
    subst hkw
    unfold cCall at h
    split at h
    ·-- a call
     rename_i x p
     split at h
     ·rename_i e0 es
      unfold Qlk at h
      split at h
      ·rename_i hx
       subst hx
       split at h
       ·unfold cIsi at h
        split at h
        ·rename_i t pt
         obtain⟨ty,h1,h⟩:=obs h
         obtain⟨a',h2,h⟩:=obs h
         split at h
         ·rename_i hc
          cases h
          simp only[Bool.and_eq_true]at hc
          have ht:=Qng h1
          subst ht
          exact plain _ _ rfl (r_isi (H.gl hc.1.1.1.2) (H.nob _ (by decide +kernel) (Option.isNone_iff_eq_none.mp hc.1.2)) (H.gl hc.1.1.2) (H.nob _ (QdG _) (Option.isNone_iff_eq_none.mp hc.2)) (ihE _ _ h2) hc.1.1.1.1)
         ·cases h
        ·rename_i ts kt pt
         obtain⟨tys,h1,h⟩:=obs h
         obtain⟨a',h2,h⟩:=obs h
         split at h
         ·rename_i hc
          cases h
          simp only[Bool.and_eq_true,List.all_eq_true,decide_eq_true_eq]at hc
          obtain⟨⟨⟨⟨⟨c1,c2⟩,c3⟩,c4⟩,c5⟩,c6⟩:=hc
          have ht:∀ t:Ty,Gl X (Str.ofString (Qau t))∧X.mg (Str.ofString (Qau t))=none:=fun t=>by
           have hm:Str.ofString (Qau t)∈[("int":Str),"bool","str","tuple","list"]:=by cases t<;>decide +kernel
           have z:=c6 _ hm
           exact⟨H.gl z.1,H.nob _ (QdG t) (Option.isNone_iff_eq_none.mp z.2)⟩
          exact plain _ _ rfl (r_isiT (H.gl c2) (H.nob _ (by decide +kernel) (Option.isNone_iff_eq_none.mp c3)) ht (ihE _ _ h2) c1 h1 (by intro z;subst z;cases c4) c5)
         ·cases h
        ·cases h
       ·cases h
      ·split at h
       ·rename_i b hb
        exact plain _ _ rfl (Qnx H ihE (Qkq hb) h)
       ·exact plain _ _ rfl (QjJ H ihE h)
     ·cases h
    ·rename_i a m ap
     exact plain _ _ rfl (Qkp H ihE h)
    ·cases h
   ·cases h
  ·cases h
theorem Qf1 (H:COk cl X EX cf C) (n:Nat) (e:Expr) (e':E) (h:cE C n e=some e'):PE X e (tI X.K EX (evE cf e'))∧PT X e (tIT X.K EX (evT cf e'))∧∀ op vs p,e=.BoolOp op vs p→PW X e (tIT X.K EX (evT cf e')):=cE_gen n X EX C H e e' h
end
noncomputable def cF (C:Cc) (n:Nat) (e:Expr):Option E:=match e with
 |.List es _=>(cL (cE C n) es).bind fun es'=>some (.lst es')
 |.BinOp a op b _=>(match op with
  |.Mult=>(cE C n a).bind fun a'=>(cE C n b).bind fun b'=>some (.bin .Mult a' b')
  |.Add=>(cE C n a).bind fun a'=>(cE C n b).bind fun b'=>some (.bin .Add a' b')
  |_=>none)
 |.Call (.Name x _) [a] [] _=>if x="list"&&C.glo x&&(C.G.lookup x).isNone&&Qa1 a then (cE C n a).bind fun a'=>some (.blt .list [a']) else none
 |_=>none
noncomputable def QiJ (e:Expr):Bool:=match e with
 |.List ..=>true
 |.BinOp ..=>true
 |.Call (.Name x _) _ _ _=>decide (x="list")
 |_=>false
noncomputable def cB (f:Stmt→Option S):List Stmt→Option (List S)
 |[]=>some []
 |s::ss=>(f s).bind fun a=>(cB f ss).bind fun as=>some (a::as)
noncomputable def cStr (e:Expr):Option Str:=match e with
 |.Constant k _ _=>(match k with
  |.str z=>some z
  |_=>none)
 |_=>none
theorem QmA {e:Expr}{z:Str} (h:cStr e=some z):∃ j p,e=.Constant (.str z) j p:=by
 unfold cStr at h
 split at h
 ·split at h
  ·cases h;exact⟨_,_,rfl⟩
  ·cases h
 ·cases h
noncomputable def cAsgD (C:Cc) (n:Nat) (x:Str) (ks:List (Option Expr)) (vs:List Expr):Option S:=match ks,vs with
 |[],[]=>(idx C.N x).bind fun i=>if C.sto x then (if C.mu.contains x then some (.freshD i) else none) else none
 |[some a],[b]=>(idx C.N x).bind fun i=>if C.sto x&&C.mu.contains x then (cE C n a).bind fun a'=>(cE C n b).bind fun b'=>some (.freshD1 i a' b') else none
 |_,_=>none
noncomputable def cAsgC (C:Cc) (n:Nat) (x:Str) (elt:Expr) (gs:List Comprehension) (sc:Scope) (p:Pos):Option S:=match gs with
 |[⟨tg,it,ifs,0⟩]=>(idx C.N x).bind fun i=>if C.sto x then (cE C (n+1) (.ListComp elt [⟨tg,it,ifs,0⟩] sc p)).bind fun e'=>some (.asg i e') else none
 |_=>none
noncomputable def QmB (C:Cc) (n:Nat) (x:Str) (e:Expr):Option S:=match e with
 |.Dict ks vs _=>cAsgD C n x ks vs
 |.ListComp elt gs sc p=>cAsgC C n x elt gs sc p
 |e=>(idx C.N x).bind fun i=>if C.sto x&&QbZ e then (if C.mu.contains x&&QiJ e then (cF C n e).bind fun e'=>some (.fresh i e') else (cE C n e).bind fun e'=>some (.asg i e')) else none
noncomputable def cAsgT (C:Cc) (n:Nat) (es:List Expr) (k:Nat) (p:Pos) (e:Expr):Option S:=match es,e with
 |[.Name x px,.Name y py],.Tuple [a,b] _ _=>(idx C.N x).bind fun i=>(idx C.N y).bind fun j=>(cE C n a).bind fun a'=>(cE C n b).bind fun b' =>
  if C.loc x&&C.loc y&&decide (i≠j)&&decide (py.line=px.line)&&Qa1 a&&Qa1 b&&!(foldedForSure 8 a&&foldedForSure 8 b)&&!(constantsAlone 8 a&&constantsAlone 8 b) then some (.par i j a' b') else none
 |es,e=>(cTg C (.Tuple es k p)).bind fun is=>(cE C n e).bind fun e'=>if QbZ e&&Qma e&&decide (is.length≠1) then some (.unp is e') else none
noncomputable def cAsg (C:Cc) (n:Nat) (tg e:Expr):Option S:=match tg with
 |.Name x _=>QmB C n x e
 |.Tuple es k p=>cAsgT C n es k p e
 |.Subscript a b _=>(cE C n a).bind fun a'=>(cE C n b).bind fun b'=>(cE C n e).bind fun e'=>if QbZ e&&QcC b then some (.setix a' b' e') else none
 |_=>none
noncomputable def isDoc (e:Expr):Bool:=(cStr e).isSome
noncomputable def cRet (C:Cc) (n:Nat) (o:Option Expr):Option S:=match o with
 |some e=>(cE C n e).bind fun e'=>some (.ret e')
 |none=>some (.ret (.con .non))
noncomputable def cIt0 (C:Cc) (n:Nat) (a:Expr):Option It:=match a with
 |.Call (.Name x p) es [] p2 =>
  if x="range" then (if C.glo x&&(C.G.lookup x).isNone then (match es with
   |[e1]=>(cE C n e1).bind fun e1'=>if Qa1 e1 then some (.rng [e1']) else none
   |[e1,e2]=>(cE C n e1).bind fun e1'=>(cE C n e2).bind fun e2'=>if Qa1 e1&&Qa1 e2 then some (.rng [e1',e2']) else none
   |_=>none) else none)
  else (cE C n (.Call (.Name x p) es [] p2)).bind fun a'=>some (.seq a')
 |a=>(cE C n a).bind fun a'=>if Qbn a then some (.seq a') else none
noncomputable def cIt (C:Cc) (n:Nat) (tg a:Expr):Option It:=cIt0 C n a
noncomputable def cS (C:Cc):Nat→Stmt→Option S
 |0,_=>none
 |n+1,s=>match s with
  |.Assign ts e _=>(match ts with
   |[tg]=>cAsg C n tg e
   |_=>none)
  |.Expr e _=>if isDoc e then some .pass_ else (cE C n e).bind fun e'=>if QbZ e then some (.exp e') else none
  |.Return o _=>cRet C n o
  |.If c a b _=>(cE C n c).bind fun c'=>(cB (cS C n) a).bind fun a'=>(cB (cS C n) b).bind fun b'=>some (.if_ c' a' b')
  |.While c b r _=>if r.isEmpty then (cE C n c).bind fun c'=>(cB (cS C n) b).bind fun b'=>some (.while_ c' b') else none
  |.For tg a b r _=>if r.isEmpty then (cTg C tg).bind fun is=>(cB (cS C n) b).bind fun b'=>(cIt C n tg a).bind fun it=>some (.for_ is it b') else none
  |.Pass _=>some .pass_
  |.Break _=>some .brk
  |.Continue _=>some .cnt
  |_=>none
section
variable {X:Cx}{EX:EXT}{cf:CF}{fw:Nat}{C:Cc}{cl:Nat→Addr}
theorem COk.loc (H:COk cl X EX cf C) {x:Str} (h:C.loc x=true):X.env.scope.names.lookup x=some .local:=by
 rw[H.sc]
 exact of_decide_eq_true h
theorem cF_ok (H:COk cl X EX cf C) {n:Nat}{e:Expr}{e':E} (h:cF C n e=some e'):PE X e (tIF X.K EX (evF cf e')):=by
 have ihE:∀ e e',cE C n e=some e'→PE X e (tI X.K EX (evE cf e')):=fun e e' h=>(Qf1 H n e e' h).1
 unfold cF at h
 split at h
 ·obtain⟨es',h1,h⟩:=obs h
  cases h
  exact f_lst (QhN ihE h1).1
 ·split at h
  ·obtain⟨a',h1,h⟩:=obs h
   obtain⟨b',h2,h⟩:=obs h
   cases h
   exact f_mul (ihE _ _ h1) (ihE _ _ h2)
  ·obtain⟨a',h1,h⟩:=obs h
   obtain⟨b',h2,h⟩:=obs h
   cases h
   exact f_add (ihE _ _ h1) (ihE _ _ h2)
  ·cases h
 ·split at h
  ·rename_i hc
   simp only[Bool.and_eq_true,decide_eq_true_eq]at hc
   obtain⟨⟨⟨rfl,c2⟩,c3⟩,c4⟩:=hc
   obtain⟨a',h1,h⟩:=obs h
   cases h
   exact f_list (H.gl c2) (H.nob _ (by decide +kernel) (Option.isNone_iff_eq_none.mp c3)) (ihE _ _ h1) c4
  ·cases h
 ·cases h
theorem Qn5 {f:Stmt→Option S} (hf:∀ s s',f s=some s'→PS X s (tIS X.K EX (exS cf fw s'))):∀ {ss:List Stmt}{ss':List S},cB f ss=some ss'→PSs X ss (tIS X.K EX (exB cf fw ss'))
 |[],_,h=>by cases h;exact b_nil
 |s::ss,_,h=>by
  unfold cB at h
  obtain⟨a,h1,h⟩:=obs h
  obtain⟨as,h2,h⟩:=obs h
  cases h
  exact b_cons (hf _ _ h1) (Qn5 hf h2)
theorem s_retN {pos:Pos}:PS X (.Return none pos) (tIS X.K EX (exS cf fw (.ret (.con .non)))):=ps_retN.sub fun D τ H zq=>by
 obtain⟨ρ,σ,h,re,hr,q⟩:=zq
 rw[exS,evE]at q
 exact RQ.here hr q _ Qiw
theorem Qkr (H:COk cl X EX cf C) {n:Nat}{x:Str}{p pos:Pos}{e:Expr}{s':S} (h:QmB C n x e=some s'):PS X (.Assign [.Name x p] e pos) (tIS X.K EX (exS cf fw s')):=by
 have ihE:∀ e e',cE C n e=some e'→PE X e (tI X.K EX (evE cf e')):=fun e e' h=>(Qf1 H n e e' h).1
 have hN:X.N.Nodup:=by rw[H.N];exact H.nd
 have hI:∀ {x:Str}{i:Nat},idx C.N x=some i→X.N[i]?=some x:=fun h=>by rw[H.N];exact QdD h
 unfold QmB at h
 split at h
 ·unfold cAsgD at h
  split at h
  ·obtain⟨i,h1,h⟩:=obs h
   split at h
   ·rename_i hc
    split at h
    ·cases h
     exact QkX hN (hI h1) (Qbw H hc).1 (Qbw H hc).2
    ·cases h
   ·cases h
  ·obtain⟨i,h1,h⟩:=obs h
   split at h
   ·rename_i hc
    simp only[Bool.and_eq_true]at hc
    obtain⟨a',h2,h⟩:=obs h
    obtain⟨b',h3,h⟩:=obs h
    cases h
    exact QiF hN (hI h1) (Qbw H hc.1).1 (Qbw H hc.1).2 (ihE _ _ h2) (ihE _ _ h3)
   ·cases h
  ·cases h
 ·unfold cAsgC at h
  split at h
  ·obtain⟨i,h1,h⟩:=obs h
   split at h
   ·rename_i hc
    obtain⟨ce,h2,h⟩:=obs h
    cases h
    obtain⟨wi,N',own,is,m,ifs',elt',q1,q2,q3,q4,q5,q6,q7⟩:=QgV H (fun X EX C H e e' h=>⟨(Qf1 H n e e' h).1,(Qf1 H n e e' h).2.1⟩) h2
    exact s_comp hN (hI h1) (Qbw H hc).1 (Qbw H hc).2 H.calm q1 q2 q3 q4 q5 q6 q7
   ·cases h
  ·cases h
 ·obtain⟨i,h1,h⟩:=obs h
  split at h
  ·rename_i hc
   simp only[Bool.and_eq_true]at hc
   split at h
   ·obtain⟨e',h2,h⟩:=obs h
    cases h
    exact QmN hN (hI h1) (Qbw H hc.1).1 (Qbw H hc.1).2 (cF_ok H h2) hc.2
   ·obtain⟨e',h2,h⟩:=obs h
    cases h
    exact s_asg hN (hI h1) (Qbw H hc.1).1 (Qbw H hc.1).2 (ihE _ _ h2) hc.2
  ·cases h
theorem Qm8 (H:COk cl X EX cf C) {n:Nat}{tg e:Expr}{pos:Pos}{s':S} (h:cAsg C n tg e=some s'):PS X (.Assign [tg] e pos) (tIS X.K EX (exS cf fw s')):=by
 have ihE:∀ e e',cE C n e=some e'→PE X e (tI X.K EX (evE cf e')):=fun e e' h=>(Qf1 H n e e' h).1
 have hN:X.N.Nodup:=by rw[H.N];exact H.nd
 have hI:∀ {x:Str}{i:Nat},idx C.N x=some i→X.N[i]?=some x:=fun h=>by rw[H.N];exact QdD h
 unfold cAsg at h
 split at h
 ·exact Qkr H h
 ·unfold cAsgT at h
  split at h
  ·obtain⟨i,h1,h⟩:=obs h
   obtain⟨j,h2,h⟩:=obs h
   obtain⟨a',h3,h⟩:=obs h
   obtain⟨b',h4,h⟩:=obs h
   split at h
   ·rename_i hc
    simp only[Bool.and_eq_true,decide_eq_true_eq,Bool.not_eq_true']at hc
    cases h
    obtain⟨⟨⟨⟨⟨⟨⟨c1,c2⟩,c3⟩,c4⟩,c5⟩,c6⟩,c7⟩,c8⟩:=hc
    exact s_par H.calm hN (hI h1) (hI h2) c3 (by rw[H.sc];exact H.kind) (H.loc c1) (H.loc c2) c4 c5 c6 c7 c8 (ihE _ _ h3) (ihE _ _ h4)
   ·cases h
  ·obtain⟨is,h1,h⟩:=obs h
   obtain⟨e',h2,h⟩:=obs h
   split at h
   ·rename_i hc
    simp only[Bool.and_eq_true,decide_eq_true_eq]at hc
    cases h
    exact s_unp (QdR H h1) hc.2 (ihE _ _ h2) hc.1.1 hc.1.2
   ·cases h
 ·obtain⟨a',h1,h⟩:=obs h
  obtain⟨b',h2,h⟩:=obs h
  obtain⟨e',h3,h⟩:=obs h
  split at h
  ·rename_i hc
   simp only[Bool.and_eq_true]at hc
   cases h
   exact Qnm H.room (ihE _ _ h1) (ihE _ _ h2) (ihE _ _ h3) hc.1 hc.2
  ·cases h
 ·cases h
theorem doc_ok {e:Expr}{pos:Pos} (h:isDoc e=true):PS X (.Expr e pos) (tIS X.K EX (exS cf fw .pass_)):=by
 obtain⟨z,hz⟩:=Option.isSome_iff_exists.mp h
 obtain⟨j,p,rfl⟩:=QmA hz
 exact s_doc
theorem Qnw (H:COk cl X EX cf C) {n:Nat}{tg a:Expr}{b:List Stmt}{b':List S}{is:List Nat}{it:It}{pos:Pos} (h:cIt0 C n a=some it) (ht:cTg C tg=some is) (hb:PSs X b (tIS X.K EX (exB cf fw b'))):PS X (.For tg a b [] pos) (tIS X.K EX (exS cf fw (.for_ is it b'))):=by
 have ihE:∀ e e',cE C n e=some e'→PE X e (tI X.K EX (evE cf e')):=fun e e' h=>(Qf1 H n e e' h).1
 unfold cIt0 at h
 split at h
 ·split at h
  ·rename_i hx
   subst hx
   split at h
   ·rename_i hc
    simp only[Bool.and_eq_true]at hc
    have hm:=H.nob "range" (by decide +kernel) (Option.isNone_iff_eq_none.mp hc.2)
    split at h
    ·obtain⟨e1',h2,h⟩:=obs h
     split at h
     ·rename_i hs
      cases h
      exact s_rng1 H.own H.calm (H.gl hc.1) hm (ihE _ _ h2) hs (QdR H ht) hb
     ·cases h
    ·obtain⟨e1',h2,h⟩:=obs h
     obtain⟨e2',h3,h⟩:=obs h
     split at h
     ·rename_i hs
      simp only[Bool.and_eq_true]at hs
      cases h
      exact s_rng2 H.own H.calm (H.gl hc.1) hm (ihE _ _ h2) (ihE _ _ h3) hs.1 hs.2 (QdR H ht) hb
     ·cases h
    ·cases h
   ·cases h
  ·obtain⟨a',h2,h⟩:=obs h
   cases h
   exact s_for H.own H.calm (ihE _ _ h2) (QdR H ht) hb rfl
 ·obtain⟨a',h2,h⟩:=obs h
  split at h
  ·rename_i hp
   cases h
   exact s_for H.own H.calm (ihE _ _ h2) (QdR H ht) hb hp
  ·cases h
theorem cIt_ok (H:COk cl X EX cf C) {n:Nat}{tg a:Expr}{b:List Stmt}{b':List S}{is:List Nat}{it:It}{pos:Pos} (h:cIt C n tg a=some it) (ht:cTg C tg=some is) (hb:PSs X b (tIS X.K EX (exB cf fw b'))):PS X (.For tg a b [] pos) (tIS X.K EX (exS cf fw (.for_ is it b'))):=by
 unfold cIt at h
 exact Qnw H h ht hb
theorem cS_ok (H:COk cl X EX cf C) (HM:XM cl X EX) (stk:X.stack=X.env::X.outer∧X.env.frame=some X.env.locals):∀ (n:Nat) (s:Stmt) (s':S),cS C n s=some s'→PS X s (tIS X.K EX (exS cf fw s')):=by
 intro n
 induction n with
 |zero=>intro s s' h;cases h
 |succ n ih =>
  have ihE:∀ e e',cE C n e=some e'→PE X e (tI X.K EX (evE cf e')):=fun e e' h=>(Qf1 H n e e' h).1
  have ihT:∀ e e',cE C n e=some e'→PT X e (tIT X.K EX (evT cf e')):=fun e e' h=>(Qf1 H n e e' h).2.1
  have ihB:∀ ss ss',cB (cS C n) ss=some ss'→PSs X ss (tIS X.K EX (exB cf fw ss')):=fun ss ss' h=>Qn5 ih h
  intro s s' h
  unfold cS at h
  split at h
  ·split at h
   ·exact Qm8 H h
   ·cases h
  ·split at h
   ·rename_i hd
    cases h
    exact doc_ok hd
   ·obtain⟨e',h1,h⟩:=obs h
    split at h
    ·rename_i hc
     cases h
     exact s_exp (ihE _ _ h1) hc
    ·cases h
  ·unfold cRet at h
   split at h
   ·obtain⟨e',h1,h⟩:=obs h
    cases h
    exact s_ret (ihE _ _ h1)
   ·cases h;exact s_retN
  ·obtain⟨c',h0,h⟩:=obs h
   obtain⟨a',h1,h⟩:=obs h
   obtain⟨b',h2,h⟩:=obs h
   cases h
   exact s_if (ihT _ _ h0) (ihB _ _ h1) (ihB _ _ h2)
  ·split at h
   ·rename_i hr
    rw[List.isEmpty_iff]at hr
    subst hr
    obtain⟨c',h0,h⟩:=obs h
    obtain⟨b',h2,h⟩:=obs h
    cases h
    exact Qnd H.own (ihT _ _ h0) (ihB _ _ h2)
   ·cases h
  ·split at h
   ·rename_i hr
    rw[List.isEmpty_iff]at hr
    subst hr
    obtain⟨is,h0,h⟩:=obs h
    obtain⟨b',h1,h⟩:=obs h
    obtain⟨it,h2,h⟩:=obs h
    cases h
    exact cIt_ok H h2 h0 (ihB _ _ h1)
   ·cases h
  ·cases h;exact s_pass
  ·cases h;exact s_brk
  ·cases h;exact s_cnt
  ·cases h
end
structure Df where
 x:Str
 st:Stmt
 N:List Str
 ps:List Str
 mu:List Str
 q:Str
 k:Nat
noncomputable def Df.cc (d:Df) (G:List (Str×Gk)):Cc:=⟨d.N,Qas d.st,G,d.mu,true⟩
noncomputable def Df.fn (d:Df) (G:List (Str×Gk)):Option Fn:=if d.k≤1 then (cB (cS (d.cc G) 60) (Qbb d.st)).bind fun b=>some ⟨d.ps.length,d.N.length,b,none⟩
 else none
structure Made (ds:List Df) (G:List (Str×Gk)) (tb:List Fn):Prop where
 fn:∀ (i:Nat) (d:Df),ds[i]?=some d→∃ g,tb[i]?=some g∧d.fn G=some g
 len:tb.length=ds.length∧tb.length≤1000
 gk:∀ x f np,G.lookup x=some (.fn f np)→∃ d,ds[f]?=some d∧d.k=0∧d.x=x∧d.ps.length=np
 sc:∀ (i:Nat) (d:Df),ds[i]?=some d→FnScope d.N d.ps (Qas d.st)
noncomputable def KindOk (K:PySem.W.Frag) (mg:Str→Option Value) (d:Df) (f:Addr):Prop:=d.k=0→mg d.x=some (.ref f)
noncomputable def Qa3 (K:PySem.W.Frag) (mg:Str→Option Value) (d:Df):Prop:=∃ f fd,Fun K d.x d.q d.st f fd∧KindOk K mg d f∧∀ us:List Value,us.length=d.ps.length→bindArgs fd ⟨us,[]⟩=pure (d.ps.zip us)
structure Laid (K:PySem.W.Frag) (mg:Str→Option Value) (cl:Nat→Addr) (ds:List Df) (G:List (Str×Gk)):Prop where
 df:∀ (i:Nat) (d:Df),ds[i]?=some d→Qa3 K mg d
 con:∀ x w,G.lookup x=some (.con w)→∃ u v,mg x=some u∧RelV v u∧∀ ρ H,Rel K ρ H w v
 nob:∀ x,x∈Qcu→G.lookup x=none→mg x=none
 cls:∀ x c,G.lookup x=some (.cls c)→mg x=some (.ref (cl c))∧∃ bm,(∀ h:Heap,K.In h→Eo h (cl c) bm)∧∀ y d,G.lookup y=some (.cls d)→(Value.ref (cl c)::bm).contains (.ref (cl d))=decide (c=d)
noncomputable def AllD (P:Program) (w:World) (K:PySem.W.Frag) (mg:Str→Option Value) (base:Heap) (ds:List Df) (tb:List Fn) (fw:Nat) (cl:Nat→Addr) (k:Nat):Prop :=
 ∀ (i o:Nat) (d:Df) (f:Addr) (fd:FuncData),o=i→ds[i]?=some d→d.k≤1→Fun K d.x d.q d.st f fd→Binds K fd d.ps []→FnOk P w K mg base (CXJ P w) (2*k) f fd d.ps (spI K cl (Qae fw tb k) o d.ps.length)
section
variable {P:Program}{w:World}{K:PySem.W.Frag}{mg:Str→Option Value}{base:Heap}{ds:List Df}{G:List (Str×Gk)}{tb:List Fn}{fw:Nat}{cl:Nat→Addr}
theorem cok_of (M:Made ds G tb) (L:Laid K mg cl ds G) (kb:K.In base) {k:Nat} (hD:AllD P w K mg base ds tb fw cl k) {i:Nat}{d:Df} (hi:ds[i]?=some d) (X:Cx) (EX:EXT)
  (e1:X.prog=P) (e2:X.w=w) (e3:X.K=K) (e4:X.mg=mg) (e5:X.base=base) (e6:X.N=d.N) (e7:X.env.scope=Qas d.st) (e8:X.calm=true) (e9:X.fn=fun _=>true) (e10:PassesOwn (model X.prog X.w) X.A X.env X.xe) (hX:XL cl X EX) (hr:Room (2*k+1) X.A) :
  COk cl X EX (Qae fw tb k) (d.cc G):=by
 subst e1 e2 e3 e4 e5
 have hr0:Room (2*k) X.A:=hr.mono (by omega)
 refine⟨e6,(M.sc i d hi).nd,e7,(M.sc i d hi).kind,e8,hr.units,e10,fun _ x=>by rw[e9],L.con,?_,L.nob,hX,fun x c hx=>?_⟩
 ·rintro Y EY ⟨z1,z2,z3,z4,z5,z6⟩ hE x fn np hx hgl hdb p pos e es es' hs hl hl' ha
  obtain⟨P',w',K',mg',base',A',N',s0',H0',env',outer',stack',ex',fn',calm',pn',xe'⟩:=Y
  dsimp only at z1 z2 z3 z4 z5 z6
  subst z1 z2 z3 z4 z5 z6
  obtain⟨d2,hd2,hk,rfl,rfl⟩:=M.gk x fn np hx
  obtain⟨f2,fd2,F2,hm2,hb2⟩:=L.df fn d2 hd2
  have hk1:d2.k≤1:=by omega
  exact r_call (hD fn fn d2 f2 fd2 rfl hd2 hk1 F2 (.all hb2)) hr0 hgl (hm2 hk) F2.kp (.all hb2) hE hdb hs hl hl' ha fun σ h ws h' e=>by rw[Qem e,hl']
 ·obtain⟨h1,bm,h2,h3⟩:=L.cls x c hx
  exact⟨h1,bm,h2 _ kb,h3⟩
theorem Qnt (M:Made ds G tb) (L:Laid K mg cl ds G) (kb:K.In base):∀ k:Nat,AllD P w K mg base ds tb fw cl k:=by
 intro k
 induction k with
 |zero =>
  intro i o d f fd ho hi hk F hb
  ·refine⟨fun vs H Q E h=>h.1,fun A outer s H args us vs Q E hr e0 hbi hv zq=>?_⟩
   obtain⟨_,ρ,h,ws,_,_,q⟩:=zq
   exact(show False from q).elim
 |succ k ih =>
  intro i o d f fd ho hi hk F hb
  ·obtain⟨g,hg,hd⟩:=M.fn i d hi
   unfold Df.fn at hd
   rw[if_pos hk]at hd
   obtain⟨bd,hbd,hd⟩:=obs hd
   cases hd
   have run:∀ (X:Cx) (EX:EXT),X.prog=P→X.w=w→X.K=K→X.mg=mg→X.base=base→X.N=d.N→X.env.scope=Qas d.st→X.calm=true→(X.fn=fun _=>true)→PassesOwn (model X.prog X.w) X.A X.env X.xe→(X.stack=X.env::X.outer∧X.env.frame=some X.env.locals)→XL cl X EX→XM cl X EX→Room (2*k+1) X.A→PSs X (Qbb d.st) (tIS K EX (exB (Qae fw tb k) fw bd)):=by
    intro X EX e1 e2 e3 e4 e5 e6 e7 e8 e9 e10 e11 hX hM hr
    have H:=cok_of M L kb ih hi X EX e1 e2 e3 e4 e5 e6 e7 e8 e9 e10 hX hr
    subst e3
    exact Qn5 (cS_ok H hM e11 60) hbd
   subst ho
   exact fn_ok F (M.sc _ d hi) hg rfl rfl run
end
noncomputable def spLaw (K:PySem.W.Frag):Sp:=fun vs H Q _=>∃ (a:Addr) (ns:List Int),vs=[.ref a]∧SqL K H a (ns.map V.int)∧ns.length≤63∧∀ H',Q (.bl true) H'
theorem Qej {K:PySem.W.Frag}{ρ:List Addr}{H:Hp}:∀ ns:List Int,RelL K ρ H (ns.map W.int) (ns.map V.int)
 |[]=>.nil
 |n::ns=>.cons Qbc (Qej ns)
theorem law_ok {P:Program}{w:World}{K:PySem.W.Frag}{mg:Str→Option Value}{base:Heap}{tb:List Fn}{fw k k2 i:Nat}{f:Addr}{fd:FuncData}{ps:List Str}{cl:Nat→Addr}
  (F:FnOk P w K mg base (CXJ P w) k2 f fd ps (spI K cl (Qae fw tb k) i 1)) (run:∀ ns:List Int,ns.length≤63→Qae fw tb k i [.scr (ns.map W.int)] []=.ok (.bl true) []):FnOk P w K mg base (CXJ P w) k2 f fd ps (spLaw K):=by
 refine F.imp fun vs H Q E zq=>?_
 obtain⟨a,ns,e,hq,hl,q⟩:=zq
 subst e
 refine⟨rfl,[],[],[.scr (ns.map W.int)],⟨rfl,List.nodup_nil,fun n a o e=>by simp at e⟩,.cons ?_ .nil,?_⟩
 ·rw[Rel]
  refine⟨a,ns.map V.int,rfl,?_,Qej ns⟩
  rcases hq with hq | hq
  ·exact .inl ⟨by simp,hq⟩
  ·exact .inr (.inr hq)
 ·rw[run ns hl]
  intro ρ' H' x hr v r
  cases Qbr r
  exact q H'
theorem walk {l:PySem.W.OpenLaw}{q:Program}{loose:List Str}{XP:(Str→Option Value)→Heap→Prop}{YP:World→Heap→Prop}{d:DefRec}{K:Params→PySem.W.Frag}{ds:List Df}{G:List (Str×Gk)}{tb:List Fn}{fw i:Nat}{df:Df}{x:Str}
  (hn:l.most=some 63) (hdf:d.params.defaults=[]) (hY:∀ (w:World) (h:Heap),YP w h→(K w.params).In h)
  (M:Made ds G tb) (hi:ds[i]?=some df) (hx:df.x=d.name) (hk:df.k=0) (hp:df.ps=[x])
  (L:∀ (w:World) (mg:Str→Option Value) (fa:Addr) (h:Heap),(K w.params).In h→h.Ns mainGlobals mg→mg d.name=some (.ref fa)→∃ cl,Laid (K w.params) mg cl ds G)
  (run:∀ ns:List Int,ns.length≤63→Qae fw tb 40 i [.scr (ns.map W.int)] []=.ok (.bl true) []) :
  PySem.W.WalkO q loose XP YP l.row.toRowW d [] (fun f vs=>PySem.call f vs) :=
 L2.walk_of (n:=63) (k:=80) (x:=x) (CX:=fun w=>CXJ l.prog w) (sp:=fun w=>spLaw (K w.params)) hn (by decide) hdf ⟨rfl,by decide,by decide⟩ hY
  (fun w mg fa h KX G hm=>by
   obtain⟨cl,LL⟩:=L w mg fa h KX G hm
   obtain⟨f,fd,F,hm3,hb⟩:=LL.df i df hi
   have hm2:=hm3 hk
   rw[hx,hm]at hm2
   cases hm2
   refine⟨fd,fun s u=>?_,fun base kb nb=>?_⟩
   ·have z:=hb [u] (by rw[hp];rfl)
    rw[hp]at z
    exact .of_eq z
   ·have:=(Qnt (P:=l.prog) (w:=w) (base:=base) (fw:=fw) M LL kb 40) i i df fa fd rfl hi (by omega) F (.all hb)
    rw[hp]at this
    exact law_ok this run)
  (fun _ _ a ns hl _ hS=>⟨a,ns,rfl,hS,hl,fun _=>rfl⟩) fun _ _ _ _ _ z=>by
   obtain⟨_,_,_,_,_,_,_,_,_,_,z⟩:=z
   exact z
theorem len1 {α:Type}{us:List α} (h:us.length=1):∃ a0,us=[a0]:=by
 exact List.length_eq_one_iff.mp h
theorem len2 {α:Type}{us:List α} (h:us.length=2):∃ a0 a1,us=[a0,a1]:=by
 obtain⟨a0,r,rfl⟩:=List.exists_cons_of_length_eq_add_one h
 obtain⟨a1,rfl⟩:=len1 (us:=r) (by simpa using h)
 exact⟨a0,a1,rfl⟩
theorem len3 {α:Type}{us:List α} (h:us.length=3):∃ a0 a1 a2,us=[a0,a1,a2]:=by
 obtain⟨a0,r,rfl⟩:=List.exists_cons_of_length_eq_add_one h
 obtain⟨a1,a2,rfl⟩:=len2 (us:=r) (by simpa using h)
 exact⟨a0,a1,a2,rfl⟩
theorem len4 {α:Type}{us:List α} (h:us.length=4):∃ a0 a1 a2 a3,us=[a0,a1,a2,a3]:=by
 obtain⟨a0,r,rfl⟩:=List.exists_cons_of_length_eq_add_one h
 obtain⟨a1,a2,a3,rfl⟩:=len3 (us:=r) (by simpa using h)
 exact⟨a0,a1,a2,a3,rfl⟩
theorem len5 {α:Type}{us:List α} (h:us.length=5):∃ a0 a1 a2 a3 a4,us=[a0,a1,a2,a3,a4]:=by
 obtain⟨a0,r,rfl⟩:=List.exists_cons_of_length_eq_add_one h
 obtain⟨a1,a2,a3,a4,rfl⟩:=len4 (us:=r) (by simpa using h)
 exact⟨a0,a1,a2,a3,a4,rfl⟩
noncomputable def scOk (d:Df):Bool:=decide ((Qas d.st).kind=.function)&&!(Qas d.st).isCoroutine&&!(Qas d.st).isGenerator&&decide d.N.Nodup&&decide (d.N.take d.ps.length=d.ps)
 && d.ps.all (fun x=>decide ((Qas d.st).names.lookup x=some .local∨(Qas d.st).names.lookup x=some .cell))&&(Qas d.st).names.all fun y=>decide (y.2≠.free)
theorem Qna {d:Df} (h:scOk d=true):FnScope d.N d.ps (Qas d.st):=by
 unfold scOk at h
 simp only[Bool.and_eq_true,decide_eq_true_eq,Bool.not_eq_true',List.all_eq_true]at h
 obtain⟨⟨⟨⟨⟨⟨h1,h2⟩,h3⟩,h4⟩,h5⟩,h6⟩,h7⟩:=h
 exact⟨h1,h2,h3,h4,h5,fun x hx=>h6 x hx,h7⟩
noncomputable def tbOf (ds:List Df) (G:List (Str×Gk)):List Fn:=ds.map fun d=>(d.fn G).getD ⟨0,0,[],none⟩
noncomputable def gkOk (ds:List Df) (p:Str×Gk):Bool:=match p.2 with
 |.fn f np=>match ds[f]? with
  |some d=>decide (d.k=0)&&decide (d.x=p.1)&&decide (d.ps.length=np)
  |none=>false
 |.mth _ _=>false
 |.ctor _ _=>false
 |.con _=>true
 |.cls _=>true
noncomputable def Qij (ds:List Df) (G:List (Str×Gk)):Bool:=ds.all (fun d=>(d.fn G).isSome&&scOk d)&&G.all (gkOk ds)&&decide (ds.length≤1000)
theorem lookup_mem {β:Type}{x:Str}{b:β}:∀ {l:List (Str×β)},l.lookup x=some b→(x,b)∈l
 |[],h=>by cases h
 |(y,c)::l,h=>by
  rw[List.lookup_cons]at h
  split at h
  ·rename_i e
   cases h
   rw[beq_iff_eq]at e
   subst e
   exact List.mem_cons_self
  ·exact List.mem_cons_of_mem _ (lookup_mem h)
theorem made_ok {ds:List Df}{G:List (Str×Gk)} (h:Qij ds G=true):Made ds G (tbOf ds G):=by
 unfold Qij at h
 simp only[Bool.and_eq_true,List.all_eq_true,decide_eq_true_eq]at h
 obtain⟨h,hz⟩:=h
 refine⟨fun i d hi=>?_,⟨by simp[tbOf],by simpa [tbOf] using hz⟩,fun x f np hx=>?_,fun i d hi=>Qna (h.1 d (List.mem_of_getElem? hi)).2⟩
 ·obtain⟨g,hg⟩:=Option.isSome_iff_exists.mp (h.1 d (List.mem_of_getElem? hi)).1
  exact⟨g,by unfold tbOf;rw[List.getElem?_map,hi];simp[hg],hg⟩
 ·have q:=h.2 _ (lookup_mem hx)
  unfold gkOk at q
  dsimp only at q
  split at q
  ·rename_i d hd
   simp only[Bool.and_eq_true,decide_eq_true_eq]at q
   exact⟨d,hd,q.1.1,q.1.2,q.2⟩
  ·cases q
section
variable {K:PySem.W.Frag}{mg:Str→Option Value}{h:Heap}{d:Df}{f C:Addr}{oc:Value}{od an:Option Addr}{sl:Array (Option Value)}{kV doc pm cd ct:Value}
noncomputable def QdO (d:Df):Prop:=∀ (kV doc pm:Value) (an:Option Addr) (cdv ct:Value) (us:List Value),us.length=d.ps.length→bindArgs (PySem.W.fnOf d.x d.q (Qbx d.st) (Qbb d.st) (Qas d.st) .none kV doc pm an cdv ct) ⟨us,[]⟩=pure (d.ps.zip us)
theorem bo1 (h:∀ (kV doc pm:Value) (an:Option Addr) (cdv ct a0:Value),bindArgs (PySem.W.fnOf d.x d.q (Qbx d.st) (Qbb d.st) (Qas d.st) .none kV doc pm an cdv ct) ⟨[a0],[]⟩=pure (d.ps.zip [a0])) (hp:d.ps.length=1):QdO d:=fun _ _ _ _ _ _ us hl=>by
 obtain⟨a0,rfl⟩:=len1 (hl.trans hp)
 exact h _ _ _ _ _ _ _
theorem bo2 (h:∀ (kV doc pm:Value) (an:Option Addr) (cdv ct a0 a1:Value),bindArgs (PySem.W.fnOf d.x d.q (Qbx d.st) (Qbb d.st) (Qas d.st) .none kV doc pm an cdv ct) ⟨[a0,a1],[]⟩=pure (d.ps.zip [a0,a1])) (hp:d.ps.length=2):QdO d:=fun _ _ _ _ _ _ us hl=>by
 obtain⟨a0,a1,rfl⟩:=len2 (hl.trans hp)
 exact h _ _ _ _ _ _ _ _
theorem bo3 (h:∀ (kV doc pm:Value) (an:Option Addr) (cdv ct a0 a1 a2:Value),bindArgs (PySem.W.fnOf d.x d.q (Qbx d.st) (Qbb d.st) (Qas d.st) .none kV doc pm an cdv ct) ⟨[a0,a1,a2],[]⟩=pure (d.ps.zip [a0,a1,a2])) (hp:d.ps.length=3):QdO d:=fun _ _ _ _ _ _ us hl=>by
 obtain⟨a0,a1,a2,rfl⟩:=len3 (hl.trans hp)
 exact h _ _ _ _ _ _ _ _ _
theorem bo4 (h:∀ (kV doc pm:Value) (an:Option Addr) (cdv ct a0 a1 a2 a3:Value),bindArgs (PySem.W.fnOf d.x d.q (Qbx d.st) (Qbb d.st) (Qas d.st) .none kV doc pm an cdv ct) ⟨[a0,a1,a2,a3],[]⟩=pure (d.ps.zip [a0,a1,a2,a3])) (hp:d.ps.length=4):QdO d:=fun _ _ _ _ _ _ us hl=>by
 obtain⟨a0,a1,a2,a3,rfl⟩:=len4 (hl.trans hp)
 exact h _ _ _ _ _ _ _ _ _ _
theorem bo5 (h:∀ (kV doc pm:Value) (an:Option Addr) (cdv ct a0 a1 a2 a3 a4:Value),bindArgs (PySem.W.fnOf d.x d.q (Qbx d.st) (Qbb d.st) (Qas d.st) .none kV doc pm an cdv ct) ⟨[a0,a1,a2,a3,a4],[]⟩=pure (d.ps.zip [a0,a1,a2,a3,a4])) (hp:d.ps.length=5):QdO d:=fun _ _ _ _ _ _ us hl=>by
 obtain⟨a0,a1,a2,a3,a4,rfl⟩:=len5 (hl.trans hp)
 exact h _ _ _ _ _ _ _ _ _ _ _
theorem laid_mk (X:K.In h) (G:h.Ns mainGlobals mg) (hk:d.k=0) (hb:QdO d)
  (a:PySem.W.nsIn K mainGlobals d.x=some (some (.ref f))) (l:K.lookup f=some ⟨oc,od,.func (PySem.W.fnOf d.x d.q (Qbx d.st) (Qbb d.st) (Qas d.st) .none kV doc pm an cd ct),sl⟩)
  (c:PySem.W.codeIn K cd d.q=true) (k:PySem.W.keepIn K (.ref f)=true):Qa3 K mg d :=
 ⟨f,_,fun_mk l c k,fun _=>PySem.W.mg_of X G a,fun us hl=>hb _ _ _ _ _ _ us hl⟩
end
theorem Qms {K:PySem.W.Frag}{mg:Str→Option Value}{x:Str}{i:Int}{t:Tok} (h:mg x=some (.int i t)):∃ u v,mg x=some u∧RelV v u∧∀ ρ H,Rel K ρ H (.int i) v:=⟨_,.int i,h,⟨t,rfl⟩,fun _ _=>Qbc⟩
theorem QlT {K:PySem.W.Frag}{mg:Str→Option Value}{x i:Str}{t:Tok} (h:mg x=some (.str i t)):∃ u v,mg x=some u∧RelV v u∧∀ ρ H,Rel K ρ H (.str i) v:=⟨_,.str i,h,⟨t,rfl⟩,fun _ _=>QcM⟩
theorem QmV {K:PySem.W.Frag}{mg:Str→Option Value}{x:Str}{a:Addr}{od:Option Addr}{us:Array Value}{n:Nat}{sl:Array (Option Value)}{is:List Int} (h:mg x=some (.ref a)) (l:K.lookup a=some ⟨.type "tuple",od,.seq us n,sl⟩) (hv:Vals (is.map V.int) us.toList) (hz:us.size≤1000:=by simp) :
  ∃ u v,mg x=some u∧RelV v u∧∀ ρ H,Rel K ρ H (.tup (is.map W.int)) v :=
 ⟨_,.ref a,h,rfl,fun ρ H=>by
  rw[Rel]
  exact⟨a,is.map V.int,rfl,.inr (.inr ⟨_,us,n,l,rfl,rfl,Nat.le_trans hz (by decide),hv⟩),Qej is⟩⟩
theorem Qnp {α:Type}{P:α→Prop}{l:List α} (h:∀ d∈l,P d) (i:Nat) (d:α) (e:l[i]?=some d):P d:=h d (List.mem_of_getElem? e)
theorem Qak {fw:Nat}{tb:List Fn}{d f:Nat}{g:Fn}{ws:List W}{h:Qac} (hg:tb[f]?=some g) (hl:ws.length=g.np) :
  Qae fw tb (d+1) f ws h=fin h.length (exB (Qae fw tb d) fw g.body (ws.map some++List.replicate (g.ns-g.np) none) h):=by
 show (match tb[f]? with | some g=>_ | none=>_)=_
 rw[hg]
 show (if ws.length=g.np then _ else _)=_
 rw[if_pos hl]
@[simp] theorem bnd_ok {α β:Type} (a:α) (h:Qac) (f:α→Qac→Res β):bnd (.ok a h) f=f a h:=rfl
@[simp] theorem bnd_stuck {α β:Type} (f:α→Qac→Res β):bnd (.stuck:Res α) f=.stuck:=rfl
@[simp] theorem bnd_exc {α β:Type} (c:Nat) (h:Qac) (f:α→Qac→Res β):bnd (.exc c h:Res α) f=.exc c h:=rfl
theorem QjP {x y:Int}{m n:Nat} (hx:x.natAbs<2 ^ m) (hy:y.natAbs<2 ^ n) (h:m+n≤134217728):Qc4 x y=true:=by
 unfold Qc4
 rw[Bool.or_eq_true]
 refine .inr (decide_eq_true ?_)
 have a:=PySem.intBits_le_iff.mpr hx
 have b:=PySem.intBits_le_iff.mpr hy
 omega
theorem QbE {α:Type} (xs:List α) (k:Nat):atI xs (k:Int)=xs[k]?:=by
 unfold atI ixN
 by_cases h:(k:Int)<xs.length
 ·rw[if_pos (by omega),if_pos h]
  simp
 ·rw[if_pos (by omega),if_neg h]
  rw[List.getElem?_eq_none (by omega)]
  rfl
theorem op_Mul {i j:Int} (h:Qac) (m:Qc4 i j=true):opW .Mult (.int i) (.int j) h=.ok (.int (i*j)) h:=by
 unfold opW QfQ okI
 simp only[m,if_true]
theorem QlH (i j:Int) (h:Qac):opW .Add (.int i) (.int j) h=.ok (.int (i+j)) h:=rfl
theorem op_Sub (i j:Int) (h:Qac):opW .Sub (.int i) (.int j) h=.ok (.int (i-j)) h:=rfl
theorem QlE {i j:Int} (h:Qac) (m:j≠0):opW .Mod (.int i) (.int j) h=.ok (.int (i.fmod j)) h:=by
 unfold opW QfQ okI
 dsimp only
 rw[if_pos m]
theorem QlF {i j:Int} (h:Qac) (m:j≠0) (l:j.natAbs.log2<9000):opW .FloorDiv (.int i) (.int j) h=.ok (.int (i.fdiv j)) h:=by
 unfold opW QfQ okI
 dsimp only
 rw[if_pos ⟨m,l⟩]
theorem cmp_Lt (i j:Int) (h:Qac):Qfl .Lt (.int i) (.int j) h=.ok (.bl (decide (i<j))) h:=rfl
theorem Ql7 (i j:Int) (h:Qac):Qfl .Gt (.int i) (.int j) h=.ok (.bl (decide (j<i))) h:=rfl
theorem Qlx (i j:Int) (h:Qac):Qfl .Eq (.int i) (.int j) h=.ok (.bl (decide (i=j))) h:=rfl
theorem QlM (i j:Int) (h:Qac):Qfl .NotEq (.int i) (.int j) h=.ok (.bl (!decide (i=j))) h:=rfl
theorem Qbj {cf:CF}{op:Operator}{a b:E}{σ:Qai}{h h1 h2:Qac}{x y:W}{r:Res W} (ea:evE cf a σ h=.ok x h1) (eb:evE cf b σ h1=.ok y h2) (o:opW op x y h2=r):evE cf (.bin op a b) σ h=r:=by
 rw[evE,ea,bnd_ok,eb,bnd_ok,o]
theorem Qbp {cf:CF}{op:CmpOp}{a b:E}{σ:Qai}{h h1 h2:Qac}{x y:W}{r:Res W} (ea:evE cf a σ h=.ok x h1) (eb:evE cf b σ h1=.ok y h2) (o:Qfl op x y h2=r):evE cf (.cmp op a b) σ h=r:=by
 rw[evE,ea,bnd_ok,eb,bnd_ok,o]
theorem Qaj {cf:CF}{w:W}{σ:Qai}{h:Qac}:evE cf (.con w) σ h=.ok w h:=by rw[evE]
theorem Qaa {cf:CF}{i:Nat}{w:W}{σ:Qai}{h:Qac} (e:σ[i]?=some (some w)):evE cf (.var i) σ h=.ok w h:=by rw[evE,e]
theorem Qab {cf:CF}{fw:Nat}{s:S}{ss:List S}{σ σ':Qai}{h h':Qac} (e:exS cf fw s σ h=.ok (.nx σ') h'):exB cf fw (s::ss) σ h=exB cf fw ss σ' h':=by
 rw[exB,e,bnd_ok]
theorem Qal {cf:CF}{fw:Nat}{s:S}{ss:List S}{σ:Qai}{h h':Qac}{w:W} (e:exS cf fw s σ h=.ok (.ret w) h'):exB cf fw (s::ss) σ h=.ok (.ret w) h':=by
 rw[exB,e,bnd_ok]
theorem Qbf {cf:CF}{fw:Nat}{c:E}{a:List S}{σ:Qai}{h h1:Qac} (e:evT cf c σ h=.ok false h1):exS cf fw (.if_ c a []) σ h=.ok (.nx σ) h1:=by
 rw[exS]
 show bnd (evT cf c σ h) _=_
 rw[e,bnd_ok,if_neg (by decide),exB]
theorem if_f {cf:CF}{fw:Nat}{c:E}{a b:List S}{σ:Qai}{h h1:Qac} (e:evT cf c σ h=.ok false h1):exS cf fw (.if_ c a b) σ h=exB cf fw b σ h1:=by
 rw[exS]
 show bnd (evT cf c σ h) _=_
 rw[e,bnd_ok,if_neg (by decide)]
theorem Qea {cf:CF}{fw:Nat}{c:E}{a b:List S}{σ:Qai}{h h1:Qac} (e:evT cf c σ h=.ok true h1):exS cf fw (.if_ c a b) σ h=exB cf fw a σ h1:=by
 rw[exS]
 show bnd (evT cf c σ h) _=_
 rw[e,bnd_ok,if_pos rfl]
theorem Qa5 {cf:CF}{c:E}{σ:Qai}{h h1:Qac}{b:Bool} (e:evE cf c σ h=.ok (.bl b) h1):evT cf c σ h=.ok b h1:=by
 show tst (evE cf c σ h)=_
 rw[e]
 rfl
theorem Qcr {cf:CF}{a b:E}{σ:Qai}{h h1:Qac}{r:Res Bool} (e:evT cf a σ h=.ok false h1) (e2:evT cf b σ h1=r):evT cf (.or_ a b) σ h=r:=by
 rw[Ql6,e,bnd_ok,if_neg (by decide),e2]
theorem Qdv {cf:CF}{a b:E}{σ:Qai}{h h1:Qac}{r:Res Bool} (e:evT cf a σ h=.ok true h1) (e2:evT cf b σ h1=r):evT cf (.and_ a b) σ h=r:=by
 rw[QfV,e,bnd_ok,if_pos rfl,e2]
theorem Qf3 {cf:CF}{a b:E}{σ:Qai}{h h1:Qac} (e:evT cf a σ h=.ok false h1):evT cf (.and_ a b) σ h=.ok false h1:=by
 rw[QfV,e,bnd_ok,if_neg (by decide)]
theorem QbF {cf:CF}{a:E}{σ:Qai}{h h1:Qac}{b:Bool} (e:evT cf a σ h=.ok b h1):evT cf (.not_ a) σ h=.ok (!b) h1:=by
 show tst (evE cf (.not_ a) σ h)=_
 rw[evE]
 show tst (bnd (evT cf a σ h) _)=_
 rw[e]
 rfl
theorem Qez {test:Qai→Qac→Res Bool}{body:Qai→Qac→Res Fl}{n:Nat}{σ σ':Qai}{h h1 h2:Qac} (ht:test σ h=.ok true h1) (hb:body σ h1=.ok (.nx σ') h2):wh test body (n+1) σ h=wh test body n σ' h2:=by
 rw[wh,ht,bnd_ok,if_pos rfl,hb,bnd_ok]
theorem Qeg {test:Qai→Qac→Res Bool}{body:Qai→Qac→Res Fl}{n:Nat}{σ:Qai}{h h1:Qac} (ht:test σ h=.ok false h1):wh test body (n+1) σ h=.ok (.nx σ) h1:=by
 rw[wh,ht,bnd_ok,if_neg (by decide)]
theorem QaP {is:List Nat}{body:Qai→Qac→Res Fl}{w:W}{ws:List W}{σ σ1 σ':Qai}{h h2:Qac} (hb:QaG is w σ=some σ1) (e:body σ1 h=.ok (.nx σ') h2):fo is body (w::ws) σ h=fo is body ws σ' h2:=by
 rw[fo,hb]
 show bnd (body σ1 h) _=_
 rw[e,bnd_ok]
mutual
theorem Qbu {h:Qac}{n0:Nat}:∀ w:W,Qan w=true→unr h n0 w=some w
 |.non,_=>by simp[unr]
 |.bl _,_=>by simp[unr]
 |.int _,_=>by simp[unr]
 |.str _,_=>by simp[unr]
 |.tup ws,q=>by rw[Qan]at q;rw[unr,Qb1 ws q];rfl
 |.lst ws,q=>by rw[Qan]at q;rw[unr,Qb1 ws q];rfl
 |.scr ws,q=>by rw[Qan]at q;rw[unr,Qb1 ws q];rfl
 |.ins c ws,q=>by rw[Qan]at q;rw[unr,Qb1 ws q];rfl
 |.dic ks ws,q=>by rw[Qan]at q;rw[unr,Qb1 ws q];rfl
 |.ref n,q=>by rw[Qan]at q;cases q
theorem Qb1 {h:Qac}{n0:Nat}:∀ ws:List W,Qam ws=true→QcU h n0 ws=some ws
 |[],_=>by rw[QcU]
 |w::ws,q=>by
  rw[Qam,Bool.and_eq_true]at q
  rw[QcU,Qbu w q.1,Qb1 ws q.2]
end
theorem Qgm {h:Qac}{x:W}{us:List W} (e:seqA h x=some us):seqI h x=some us:=by
 cases x with
 |str z=>cases e
 |_=>exact e
noncomputable def cell (ns:List Int) (k:Nat):Int:=ns.getD k 0
theorem Qlf (ns:List Int) (k:Nat) (h:k<ns.length):atI (ns.map W.int) (k:Int)=some (.int (cell ns k)):=by
 rw[QbE,List.getElem?_map,List.getElem?_eq_getElem h]
 unfold cell
 rw[List.getD_eq_getElem?_getD,List.getElem?_eq_getElem h]
 rfl
theorem Qkf {ns:List Int}{k:Nat} (h:¬ (k<ns.length)):cell ns k=0:=by
 unfold cell
 rw[List.getD_eq_getElem?_getD,List.getElem?_eq_none (by omega)]
 rfl
noncomputable abbrev bAt:List S:=[.if_ (.cmp .Lt (.var 1) (.blt .len [(.var 0)])) [.ret (.ix (.var 0) (.var 1))] [],.ret (.con (.int 0))]
theorem Qff {fw:Nat}{tb:List Fn}{f:Nat} (hg:tb[f]?=some ⟨2,2,bAt,none⟩) (d:Nat) (ns:List Int) (k:Nat) (h:Qac) :
  Qae fw tb (d+1) f [.scr (ns.map W.int),.int (k:Int)] h=.ok (.int (cell ns k)) h:=by
 rw[Qak hg rfl]
 by_cases hk:k<ns.length
 ·have hk':(k:Int)<(ns.length:Int):=by omega
  simp[bAt,exB,exS,evE,evA,Qgv,on1,on2,lenW,Qkz,QgE,Qkm,intW,Qh5,seqA,Qlj,QlN,okI,Qfl,okB,tst,QlL,hk',ixW,Qlf ns k hk,fin,unr,QcU,Qan]
 ·have hk':¬ (k:Int)<(ns.length:Int):=by omega
  simp[bAt,exB,exS,evE,evA,Qgv,on1,on2,lenW,Qkz,QgE,Qkm,intW,Qh5,seqA,Qlj,QlN,okI,Qfl,okB,tst,QlL,hk',ixW,fin,unr,QcU,Qan,Qkf hk]
noncomputable abbrev nat (m:Nat):W:=.int (m:Int)
noncomputable abbrev sh (p q:Nat):W:=.tup [nat p,nat q]
theorem Qhf (m n:Nat):Int.fmod (m:Int) (n:Int)=((m % n:Nat):Int):=by
 rw[Int.fmod_eq_emod_of_nonneg _ (Int.natCast_nonneg n)];rfl
theorem QgR (m n:Nat):Int.fdiv (m:Int) (n:Int)=((m / n:Nat):Int):=by
 rw[Int.fdiv_eq_ediv_of_nonneg _ (Int.natCast_nonneg n)];rfl
theorem Qnf (m n:Nat):(m:Int)*(n:Int)=((m*n:Nat):Int):=(Int.natCast_mul m n).symm
theorem Qmp (m n:Nat):(m:Int)+(n:Int)=((m+n:Nat):Int):=(Int.natCast_add m n).symm
theorem Qee {n k:Nat} (h:n<2 ^ k) (hk:0<k):n.log2<k:=by
 by_cases z:n=0
 ·subst z;simpa using hk
 ·exact(Nat.log2_lt z).mpr h
noncomputable abbrev QjM:List S:=[.while_ (.cmp .Gt (.var 1) (.con (.int 0))) [.asg 2 (.bin .Mod (.var 0) (.var 1)),.asg 0 (.var 1),.asg 1 (.var 2)],.ret (.var 0)]
noncomputable abbrev tGt (cf:CF):Qai→Qac→Res Bool:=fun σ h=>tst (evE cf (.cmp .Gt (.var 1) (.con (.int 0))) σ h)
noncomputable abbrev Qgj:List S:=[.asg 2 (.bin .Mod (.var 0) (.var 1)),.asg 0 (.var 1),.asg 1 (.var 2)]
theorem QgC (cf:CF) (fw:Nat) (h:Qac):∀ (n a b:Nat) (r:Option W),b<n →
  ∃ r',wh (tGt cf) (exB cf fw Qgj) n [some (nat a),some (nat b),r] h=.ok (.nx [some (nat (Nat.gcd a b)),some (nat 0),r']) h
 |0,a,b,r,hb=>absurd hb (Nat.not_lt_zero b)
 |n+1,a,b,r,hb=>by
  by_cases z:b=0
  ·subst z
   refine⟨r,?_⟩
   rw[Qeg (h1:=h) (by simp[tGt,evE,Qfl,okB,tst,QlL])]
   simp
  ·obtain⟨r',e⟩:=QgC cf fw h n b (a % b) (some (nat (a % b))) (Nat.lt_of_lt_of_le (Nat.mod_lt a (Nat.pos_of_ne_zero z)) (by omega))
   refine⟨r',?_⟩
   have g:Nat.gcd a b=Nat.gcd b (a % b):=by rw[Nat.gcd_comm a b,Nat.gcd_rec b a,Nat.gcd_comm]
   rw[Qez (h1:=h) (h2:=h) (σ':=[some (nat b),some (nat (a % b)),some (nat (a % b))]) (by simp[tGt,evE,Qfl,okB,tst,QlL,Nat.pos_of_ne_zero z]) (by simp[Qgj,exB,exS,evE,opW,QfQ,z,okI,Qhf]),e,g]
theorem Qgs {fw:Nat}{tb:List Fn}{f:Nat} (hg:tb[f]?=some ⟨2,3,QjM,none⟩) (d a b:Nat) (h:Qac) (hb:b<fw):Qae fw tb (d+1) f [nat a,nat b] h=.ok (nat (Nat.gcd a b)) h:=by
 rw[Qak hg rfl]
 obtain⟨r',e⟩:=QgC (Qae fw tb d) fw h fw a b none hb
 have e':exB (Qae fw tb d) fw QjM ([nat a,nat b].map some++List.replicate (3-2) none) h=.ok (.ret (nat (Nat.gcd a b))) h:=by
  show exB (Qae fw tb d) fw QjM [some (nat a),some (nat b),none] h=_
  rw[exB,exS]
  show bnd (wh (tGt _) (exB _ fw Qgj) fw _ h) _=_
  rw[e]
  simp[exB,exS,evE]
 rw[e']
 simp[fin,unr,QcU,Qan]
noncomputable abbrev bLow (g:Nat):List S:=[.asg 2 (.call g [(.var 0),(.var 1)]),.ret (.tup [(.bin .FloorDiv (.var 0) (.var 2)),(.bin .FloorDiv (.var 1) (.var 2))])]
noncomputable def low (a b:Nat):Nat×Nat:=(a / Nat.gcd a b,b / Nat.gcd a b)
noncomputable abbrev shp (s:Nat×Nat):W:=sh s.1 s.2
theorem Qiu {fw:Nat}{tb:List Fn}{f g:Nat} (hf:tb[f]?=some ⟨2,3,bLow g,none⟩) (hg:tb[g]?=some ⟨2,3,QjM,none⟩) (d a b:Nat) (h:Qac) (hb:b<fw) (h0:0<b) (hz:b<2 ^ 9000) :
  Qae fw tb (d+2) f [nat a,nat b] h=.ok (shp (low a b)) h:=by
 rw[Qak (d:=d+1) hf rfl]
 have e:=Qgs hg d a b h hb
 have gp:0<Nat.gcd a b:=Nat.gcd_pos_of_pos_right a h0
 have gl:Nat.gcd a b≤b:=Nat.gcd_le_right a h0
 have hl:(Nat.gcd a b).log2<9000:=Qee (Nat.lt_of_le_of_lt gl hz) (by decide)
 clear hz
 have hne:¬ (Nat.gcd a b:Int)=0:=by omega
 have hc:((Nat.gcd a b:Int)≠0∧((Nat.gcd a b:Int)).natAbs.log2<9000):=⟨hne,by simpa using hl⟩
 simp only[List.map_cons,List.map_nil,List.replicate,List.cons_append,List.nil_append,exB,exS,evE,evA,bnd_ok,List.getElem?_cons_zero,List.getElem?_cons_succ,e,List.set_cons_succ,List.set_cons_zero,opW,QfQ,if_pos hc,okI,QgR,bnd_ok]
 simp[sizeLine,fin,unr,QcU,Qan,Qam,low]
theorem QbD (a b:Nat) (hb:0<b):0<(low a b).2∧Nat.gcd (low a b).1 (low a b).2=1∧(low a b).1*b=a*(low a b).2∧(low a b).2≤b∧(low a b).1≤a:=by
 have gp:0<Nat.gcd a b:=Nat.gcd_pos_of_pos_right a hb
 obtain⟨p,hp⟩:=Nat.gcd_dvd_left a b
 obtain⟨q,hq⟩:=Nat.gcd_dvd_right a b
 have ep:a / Nat.gcd a b=p:=Nat.div_eq_of_eq_mul_right gp hp
 have eq:b / Nat.gcd a b=q:=Nat.div_eq_of_eq_mul_right gp hq
 have hc:Nat.gcd (a / Nat.gcd a b) (b / Nat.gcd a b)=1:=Nat.coprime_div_gcd_div_gcd gp
 unfold low
 refine⟨Nat.div_gcd_pos_of_pos_right a hb,hc,?_,Nat.div_le_self _ _,Nat.div_le_self _ _⟩
 show a / Nat.gcd a b*b=a*(b / Nat.gcd a b)
 rw[ep,eq]
 generalize Nat.gcd a b=g at hp hq
 rw[hp,hq,Nat.mul_comm g p,Nat.mul_assoc]
@[irreducible] def FW:Nat:=2 ^ 9000
theorem QfC {n:Nat} (h:n<2 ^ 9000):n<FW:=by unfold FW;exact h
theorem Qbi {n a b:Nat} (h:n<2 ^ a) (hab:a≤b):n<2 ^ b:=Nat.lt_of_lt_of_le h (Nat.pow_le_pow_right (by decide) hab)
theorem Qb0 {m n a b:Nat} (hm:m<2 ^ a) (hn:n<2 ^ b):m*n<2 ^ (a+b):=by
 rw[Nat.pow_add]
 exact Nat.mul_lt_mul'' hm hn
theorem Qbq {m n a b:Nat} (hm:m<2 ^ a) (hn:n<2 ^ b) (h:a+b≤134217728):Qc4 (m:Int) (n:Int)=true:=QjP (m:=a) (n:=b) (by simpa using hm) (by simpa using hn) h
theorem Qmh (x B:Int) (h0:0<B):∃ m:Nat,x.fmod B=(m:Int)∧(m:Int)<B:=by
 have a:=Int.fmod_nonneg_of_pos x h0
 have b:=Int.fmod_lt_of_pos x h0
 exact⟨(x.fmod B).toNat,by omega,by omega⟩
theorem Qg6 {cf:CF}{f:Nat}{a:E}{σ:Qai}{h h1:Qac}{x:W}{r:Res W} (ea:evE cf a σ h=.ok x h1) (o:cf f [x] h1=r):evE cf (.call f [a]) σ h=r:=by
 rw[evE,Qcb,ea,bnd_ok,bnd_ok,o]
theorem Qaq {cf:CF}{f:Nat}{a b:E}{σ:Qai}{h h1 h2:Qac}{x y:W}{r:Res W} (ea:evE cf a σ h=.ok x h1) (eb:evE cf b σ h1=.ok y h2) (o:cf f [x,y] h2=r):evE cf (.call f [a,b]) σ h=r:=by
 rw[evE,Qj7,ea,bnd_ok,eb,bnd_ok,bnd_ok,o]
theorem Qad {cf:CF}{a:E}{as:List E}{σ:Qai}{h h1 h2:Qac}{x:W}{xs:List W} (ea:evE cf a σ h=.ok x h1) (eb:evA cf as σ h1=.ok xs h2):evA cf (a::as) σ h=.ok (x::xs) h2:=by
 rw[evA,ea,bnd_ok,eb,bnd_ok]
theorem Qag {cf:CF}{σ:Qai}{h:Qac}:evA cf [] σ h=.ok [] h:=by rw[evA]
theorem QaF {cf:CF}{f:Nat}{as:List E}{σ:Qai}{h h1:Qac}{xs:List W}{r:Res W} (ea:evA cf as σ h=.ok xs h1) (o:cf f xs h1=r):evE cf (.call f as) σ h=r:=by
 rw[evE,ea,bnd_ok,o]
theorem Qaf {cf:CF}{fw i:Nat}{e:E}{σ:Qai}{h h1:Qac}{w:W} (ee:evE cf e σ h=.ok w h1):exS cf fw (.asg i e) σ h=.ok (.nx (σ.set i (some w))) h1:=by
 rw[exS,ee,bnd_ok]
theorem Qa2 {cf:CF}{fw:Nat}{e:E}{σ:Qai}{h h1:Qac}{w:W} (ee:evE cf e σ h=.ok w h1):exS cf fw (.ret e) σ h=.ok (.ret w) h1:=by
 rw[exS,ee,bnd_ok]
theorem QlP {cf:CF}{at_:Nat}{ns:List Int}{h:Qac}{σ:Qai}{i:Nat} (hc:∀ (k:Nat) (h:Qac),cf at_ [.scr (ns.map W.int),.int (k:Int)] h=.ok (.int (cell ns k)) h) (hs:σ[i]?=some (some (.scr (ns.map W.int)))) (k:Nat) :
 evE cf (.call at_ [.var i,.con (.int (k:Int))]) σ h=.ok (.int (cell ns k)) h:=Qaq (Qaa hs) Qaj (hc k h)
theorem i0 (a b:W):L2.atI [a,b] 0=some a:=rfl
theorem i1 (a b:W):L2.atI [a,b] 1=some b:=rfl
theorem ix_T {ws:List W}{i:Int}{w:W}{h:Qac} (e:L2.atI ws i=some w):ixW (.tup ws) (.int i) h=.ok w h:=by
 unfold ixW seqA Qlj
 simp only[Option.or,e]
theorem ix_L {ws:List W}{i:Int}{w:W}{h:Qac} (e:L2.atI ws i=some w):ixW (.lst ws) (.int i) h=.ok w h:=by
 unfold ixW seqA Qlj QlN
 simp only[Option.or,e]
theorem QaS {cf:CF}{a b:E}{σ:Qai}{h h1 h2:Qac}{x y:W}{r:Res W} (ea:evE cf a σ h=.ok x h1) (eb:evE cf b σ h1=.ok y h2) (o:ixW x y h2=r):evE cf (.ix a b) σ h=r:=by
 rw[evE,ea,bnd_ok,eb,bnd_ok,o]
theorem QfK {cf:CF}{i:Nat}{p q:Nat}{σ:Qai}{h:Qac} (e:σ[i]?=some (some (sh p q))):evE cf (.ix (.var i) (.con (.int 0))) σ h=.ok (nat p) h:=QaS (Qaa e) Qaj (ix_T (i0 _ _))
theorem Qcz {cf:CF}{i:Nat}{p q:Nat}{σ:Qai}{h:Qac} (e:σ[i]?=some (some (sh p q))):evE cf (.ix (.var i) (.con (.int 1))) σ h=.ok (nat q) h:=QaS (Qaa e) Qaj (ix_T (i1 _ _))
theorem Qbg {cf:CF}{a b:E}{m n:Nat}{σ:Qai}{h:Qac} (ea:evE cf a σ h=.ok (nat m) h) (eb:evE cf b σ h=.ok (nat n) h) (hm:Qc4 (m:Int) (n:Int)=true):evE cf (.bin .Mult a b) σ h=.ok (nat (m*n)) h :=
 (Qbj ea eb (op_Mul _ hm)).trans (by rw[Qnf])
theorem Qay {cf:CF}{a b:E}{m n:Nat}{σ:Qai}{h:Qac} (ea:evE cf a σ h=.ok (nat m) h) (eb:evE cf b σ h=.ok (nat n) h):evE cf (.bin .Add a b) σ h=.ok (nat (m+n)) h :=
 (Qbj ea eb (QlH _ _ _)).trans (by rw[Qmp])
theorem QaN {cf:CF}{a b:E}{m n:Nat}{σ:Qai}{h:Qac} (ea:evE cf a σ h=.ok (nat m) h) (eb:evE cf b σ h=.ok (nat n) h) (h0:0<n) (hz:n<2 ^ 9000):evE cf (.bin .FloorDiv a b) σ h=.ok (nat (m / n)) h :=
 (Qbj ea eb (QlF _ (Int.natCast_ne_zero.mpr (Nat.ne_of_gt h0)) (by simpa using Qee hz (by decide)))).trans (by rw[QgR])
theorem QaU {cf:CF}{a b:E}{m n:Nat}{σ:Qai}{h:Qac} (ea:evE cf a σ h=.ok (nat m) h) (eb:evE cf b σ h=.ok (nat n) h) (h0:0<n):evE cf (.bin .Mod a b) σ h=.ok (nat (m % n)) h :=
 (Qbj ea eb (QlE _ (Int.natCast_ne_zero.mpr (Nat.ne_of_gt h0)))).trans (by rw[Qhf])
theorem QaI {cf:CF}{as:List E}{σ:Qai}{h h1:Qac}{xs:List W} (ea:evA cf as σ h=.ok xs h1) (hl:xs.length≤1000):evE cf (.tup as) σ h=.ok (.tup xs) h1:=by
 rw[evE,ea,bnd_ok,if_pos (Nat.le_trans hl (by decide))]
theorem Qb3 {cf:CF}{as:List E}{σ:Qai}{h h1:Qac}{xs:List W} (ea:evA cf as σ h=.ok xs h1) (hl:xs.length≤1000):evE cf (.lst as) σ h=.ok (.lst xs) h1:=by
 rw[evE,ea,bnd_ok,if_pos (Nat.le_trans hl (by decide))]
theorem QaL {cf:CF}{a b:E}{σ:Qai}{h:Qac}{x y:W} (ea:evE cf a σ h=.ok x h) (eb:evE cf b σ h=.ok y h):evA cf [a,b] σ h=.ok [x,y] h:=Qad ea (Qad eb Qag)
theorem Qge {n0:Nat}{w:W}{h:Qac} (hp:Qan w=true) (hw:∀ n,w≠.ref n) (hl:h.length=n0):J.fin n0 (.ok (.ret w) h)=.ok w h:=by
 unfold J.fin
 dsimp only
 rw[Qbu w hp]
 dsimp only
 rw[← hl,List.take_length]
theorem Qbz {ws:List W}{h:Qac} (hp:Qam ws=true):J.fin h.length (.ok (.ret (.tup ws)) h)=.ok (.tup ws) h:=Qge (by rw[Qan];exact hp) (fun n z=>nomatch z) rfl
theorem Qjc {i:Int}{h:Qac}:J.fin h.length (.ok (.ret (.int i)) h)=.ok (.int i) h:=Qge rfl (fun n z=>nomatch z) rfl
theorem Qav {b:Bool}{h:Qac}:J.fin h.length (.ok (.ret (.bl b)) h)=.ok (.bl b) h:=Qge rfl (fun n z=>nomatch z) rfl
theorem Qdj (p q:Nat):Qam [nat p,nat q]=true:=rfl
noncomputable abbrev QgI (l:Nat):List S:=[.ret (.call l [(.bin .Mult (.ix (.var 0) (.con (.int 0))) (.var 1)),(.bin .Mult (.ix (.var 0) (.con (.int 1))) (.var 2))])]
theorem Qjy {fw:Nat}{tb:List Fn}{f l g:Nat} (hf:tb[f]?=some ⟨3,3,QgI l,none⟩) (hl:tb[l]?=some ⟨2,3,bLow g,none⟩) (hg:tb[g]?=some ⟨2,3,QjM,none⟩) (d p q m o:Nat) (h:Qac)
  (m1:Qc4 (p:Int) (m:Int)=true) (m2:Qc4 (q:Int) (o:Int)=true) (q0:0<q) (o0:0<o) (hz:q*o<2 ^ 9000) (hw:q*o<fw) :
  Qae fw tb (d+3) f [sh p q,nat m,nat o] h=.ok (shp (low (p*m) (q*o))) h:=by
 rw[Qak (d:=d+2) hf rfl]
 have e:=Qiu hl hg d (p*m) (q*o) h hw (Nat.mul_pos q0 o0) hz
 generalize Qae fw tb (d+2)=cf at *
 show J.fin h.length (exB cf fw (QgI l) [some (sh p q),some (nat m),some (nat o)] h)=_
 rw[Qal (Qa2 (Qaq (Qbg (QfK (i:=0) rfl) (Qaa (i:=1) rfl) m1) (Qbg (Qcz (i:=0) rfl) (Qaa (i:=2) rfl) m2) e))]
 exact Qbz (Qdj _ _)
noncomputable def Qd7 (x y:Nat×Nat):Nat×Nat :=
 let g:=Nat.gcd x.2 y.2
 let t:=x.1*(y.2 / g)+y.1*(x.2 / g)
 let k:=Nat.gcd t g
 (t / k,x.2 / g*(y.2 / k))
theorem Qfz (x y:Nat×Nat) (hx:0<x.2) (hy:0<y.2) (cx:Nat.gcd x.1 x.2=1) (cy:Nat.gcd y.1 y.2=1) :
  0<(Qd7 x y).2∧Nat.gcd (Qd7 x y).1 (Qd7 x y).2=1∧(Qd7 x y).1*(x.2*y.2)=(x.1*y.2+y.1*x.2)*(Qd7 x y).2∧(Qd7 x y).2≤x.2*y.2∧(Qd7 x y).1≤x.1*y.2+y.1*x.2:=by
 obtain⟨a,b⟩:=x
 obtain⟨c,e⟩:=y
 unfold Qd7
 dsimp only at *
 have gp:0<Nat.gcd b e:=Nat.gcd_pos_of_pos_left e hx
 obtain⟨b',hb⟩:=Nat.gcd_dvd_left b e
 obtain⟨e',he⟩:=Nat.gcd_dvd_right b e
 have cbe:Nat.gcd b' e'=1:=by
  have h:=Nat.gcd_mul_left (Nat.gcd b e) b' e'
  rw[← hb,← he]at h
  exact Nat.eq_of_mul_eq_mul_left gp (by rw[← h,Nat.mul_one])
 have eb:b / Nat.gcd b e=b':=Nat.div_eq_of_eq_mul_right gp hb
 have ee:e / Nat.gcd b e=e':=Nat.div_eq_of_eq_mul_right gp he
 rw[eb,ee]
 generalize hg:Nat.gcd b e=g at *
 generalize ht:a*e'+c*b'=t
 have kp:0<Nat.gcd t g:=Nat.gcd_pos_of_pos_right t gp
 obtain⟨t',ht'⟩:=Nat.gcd_dvd_left t g
 obtain⟨g',hg'⟩:=Nat.gcd_dvd_right t g
 have ctg:Nat.gcd t' g'=1:=by
  have h:=Nat.gcd_mul_left (Nat.gcd t g) t' g'
  rw[← ht',← hg']at h
  exact Nat.eq_of_mul_eq_mul_left kp (by rw[← h,Nat.mul_one])
 have et:t / Nat.gcd t g=t':=Nat.div_eq_of_eq_mul_right kp ht'
 have ek:e / Nat.gcd t g=g'*e':=by
  refine Nat.div_eq_of_eq_mul_right kp ?_
  rw[← Nat.mul_assoc,← hg'];exact he
 rw[et,ek]
 have bp:0<b':=Nat.pos_of_ne_zero fun z=>by subst z;omega
 have ep:0<e':=Nat.pos_of_ne_zero fun z=>by subst z;omega
 have g'p:0<g':=Nat.pos_of_ne_zero fun z=>by subst z;omega
 have cab:Nat.Coprime b' a:=Nat.Coprime.symm (Nat.Coprime.coprime_dvd_right ⟨g,by rw[Nat.mul_comm];exact hb⟩ cx)
 have cce:Nat.Coprime e' c:=Nat.Coprime.symm (Nat.Coprime.coprime_dvd_right ⟨g,by rw[Nat.mul_comm];exact he⟩ cy)
 have ctb:Nat.gcd b' t=1:=by
  rw[← ht,Nat.gcd_add_mul_right_right]
  exact Nat.Coprime.mul_right cab cbe
 have cte:Nat.gcd e' t=1:=by
  rw[← ht,Nat.add_comm,Nat.gcd_add_mul_right_right]
  exact Nat.Coprime.mul_right cce (Nat.Coprime.symm cbe)
 have dt:t' ∣ t:=⟨Nat.gcd t g,by rw[Nat.mul_comm];exact ht'⟩
 have c1:Nat.Coprime t' b':=Nat.Coprime.symm (Nat.Coprime.coprime_dvd_right dt ctb)
 have c2:Nat.Coprime t' e':=Nat.Coprime.symm (Nat.Coprime.coprime_dvd_right dt cte)
 have val:t*g=a*e+c*b:=by
  rw[← ht,Nat.add_mul,he,hb,Nat.mul_assoc,Nat.mul_assoc,Nat.mul_comm e' g,Nat.mul_comm b' g]
 refine⟨Nat.mul_pos bp (Nat.mul_pos g'p ep),Nat.Coprime.mul_right c1 (Nat.Coprime.mul_right ctg c2),?_,?_,?_⟩
 ·rw[← val]
  generalize Nat.gcd t g=k at *
  subst ht'
  rw[hb,he,hg']
  simp only[Nat.mul_comm,Nat.mul_left_comm,Nat.mul_assoc]
 ·rw[hb,he]
  exact Nat.mul_le_mul (Nat.le_mul_of_pos_left _ gp) (Nat.mul_le_mul_right _ (Nat.le_trans (Nat.le_mul_of_pos_left g' kp) (Nat.le_of_eq hg'.symm)))
 ·rw[← val]
  exact Nat.le_trans (Nat.le_trans (Nat.le_mul_of_pos_left t' kp) (Nat.le_of_eq ht'.symm)) (Nat.le_mul_of_pos_right _ gp)
noncomputable abbrev QhL (g : Nat) : List S := [.asg 2 (.call g [(.ix (.var 0) (.con (.int 1))), (.ix (.var 1) (.con (.int 1)))]),
 .asg 3 (.bin .Add (.bin .Mult (.ix (.var 0) (.con (.int 0))) (.bin .FloorDiv (.ix (.var 1) (.con (.int 1))) (.var 2))) (.bin .Mult (.ix (.var 1) (.con (.int 0))) (.bin .FloorDiv (.ix (.var 0) (.con (.int 1))) (.var 2)))),
 .asg 4 (.call g [(.var 3),(.var 2)]),
 .ret (.tup [(.bin .FloorDiv (.var 3) (.var 4)), (.bin .Mult (.bin .FloorDiv (.ix (.var 0) (.con (.int 1))) (.var 2)) (.bin .FloorDiv (.ix (.var 1) (.con (.int 1))) (.var 4)))])]
theorem Qld {tb:List Fn}{f g:Nat} (hf:tb[f]?=some ⟨2,5,QhL g,none⟩) (hg:tb[g]?=some ⟨2,3,QjM,none⟩) (d a b c e:Nat) (h:Qac) (ha:a<2 ^ 4000) (hb:b<2 ^ 4000) (hc:c<2 ^ 4000) (he:e<2 ^ 4000) (b0:0<b) (e0:0<e) :
  Qae FW tb (d+2) f [sh a b,sh c e] h=.ok (shp (Qd7 (a,b) (c,e))) h:=by
 rw[Qak (d:=d+1) hf rfl]
 have gp:0<Nat.gcd b e:=Nat.gcd_pos_of_pos_left e b0
 have gl:Nat.gcd b e<2 ^ 4000:=Nat.lt_of_le_of_lt (Nat.gcd_le_right b e0) he
 have kp:0<Nat.gcd (a*(e / Nat.gcd b e)+c*(b / Nat.gcd b e)) (Nat.gcd b e):=Nat.gcd_pos_of_pos_right _ gp
 have kl:Nat.gcd (a*(e / Nat.gcd b e)+c*(b / Nat.gcd b e)) (Nat.gcd b e)<2 ^ 4000:=Nat.lt_of_le_of_lt (Nat.gcd_le_right _ gp) gl
 have r1:=Qgs (fw:=FW) hg d b e h (QfC (Qbi he (by decide)))
 have r2:=Qgs (fw:=FW) hg d (a*(e / Nat.gcd b e)+c*(b / Nat.gcd b e)) (Nat.gcd b e) h (QfC (Qbi gl (by decide)))
 have l1:e / Nat.gcd b e<2 ^ 4000:=Nat.lt_of_le_of_lt (Nat.div_le_self _ _) he
 have l2:b / Nat.gcd b e<2 ^ 4000:=Nat.lt_of_le_of_lt (Nat.div_le_self _ _) hb
 have l3:e / Nat.gcd (a*(e / Nat.gcd b e)+c*(b / Nat.gcd b e)) (Nat.gcd b e)<2 ^ 4000:=Nat.lt_of_le_of_lt (Nat.div_le_self _ _) he
 have m1:=Qbq ha l1 (by decide)
 have m2:=Qbq hc l2 (by decide)
 have m3:=Qbq l2 l3 (by decide)
 have z1:=Qbi gl (show 4000≤9000 by decide)
 have z2:=Qbi kl (show 4000≤9000 by decide)
 unfold Qd7
 dsimp only
 generalize Nat.gcd (a*(e / Nat.gcd b e)+c*(b / Nat.gcd b e)) (Nat.gcd b e)=k at *
 generalize Nat.gcd b e=gg at *
 generalize Qae FW tb (d+1)=cf at *
 show J.fin h.length (exB cf FW (QhL g) [some (sh a b),some (sh c e),none,none,none] h)=_
 rw[Qab (Qaf (Qaq (Qcz (i:=0) rfl) (Qcz (i:=1) rfl) r1)),
  Qab (Qaf (Qay (Qbg (QfK (i:=0) rfl) (QaN (Qcz (i:=1) rfl) (Qaa (i:=2) rfl) gp z1) m1) (Qbg (QfK (i:=1) rfl) (QaN (Qcz (i:=0) rfl) (Qaa (i:=2) rfl) gp z1) m2))),
  Qab (Qaf (Qaq (Qaa (i:=3) rfl) (Qaa (i:=2) rfl) r2)),
  Qal (Qa2 (QaI (QaL (QaN (Qaa (i:=3) rfl) (Qaa (i:=4) rfl) kp z2) (Qbg (QaN (Qcz (i:=0) rfl) (Qaa (i:=2) rfl) gp z1) (QaN (Qcz (i:=1) rfl) (Qaa (i:=4) rfl) kp z2) m3)) (show 2≤1000 by decide)))]
 exact Qbz (Qdj _ _)
theorem QaB (x:Int) {C:Nat} (h0:0<C):∃ m:Nat,x.fmod (C:Int)=(m:Int)∧m<C:=by
 obtain⟨m,e,h⟩:=Qmh x (C:Int) (by omega)
 exact⟨m,e,by omega⟩
theorem Qax {cf:CF}{a b:E}{x:Int}{C m:Nat}{σ:Qai}{h:Qac} (ea:evE cf a σ h=.ok (.int x) h) (eb:evE cf b σ h=.ok (nat C) h) (h0:0<C) (e:x.fmod (C:Int)=(m:Int)):evE cf (.bin .Mod a b) σ h=.ok (nat m) h :=
 (Qbj ea eb (QlE _ (Int.natCast_ne_zero.mpr (Nat.ne_of_gt h0)))).trans (by rw[e])
theorem Qah {cf:CF}{n:Nat}{σ:Qai}{h:Qac}:evE cf (.con (nat n)) σ h=.ok (nat n) h:=Qaj
theorem QlC {cf:CF}{fw i:Nat}{e:E}{σ:Qai}{h:Qac}{w:W} (ee:evE cf e σ h=.ok w h):exB cf fw [.asg i e] σ h=.ok (.nx (σ.set i (some w))) h:=by
 rw[Qab (Qaf ee),exB]
theorem QcF {cf:CF}{a b:E}{m n:Nat}{σ:Qai}{h:Qac} (ea:evE cf a σ h=.ok (nat m) h) (eb:evE cf b σ h=.ok (nat n) h):evT cf (.cmp .Eq a b) σ h=.ok (decide (m=n)) h :=
 Qa5 ((Qbp ea eb (Qlx _ _ _)).trans (by congr 2;exact decide_eq_decide.mpr Int.natCast_inj))
theorem Qb5 {x y:Int} (h:-(2 ^ 64)<x∧x<2 ^ 64):Qc4 x y=true:=by
 unfold Qc4
 rw[Bool.or_eq_true]
 exact .inl (decide_eq_true (.inl h))
theorem QbR {cf:CF}{i n:Nat}{e:E}{σ:Qai}{h:Qac}{us:List W}{w:W} (hs:σ[i]?=some (some (.ref n))) (hn:h[n]?=some (.lst us)) (ee:evE cf e σ h=.ok w h) (hp:Qan w=true) (hz:us.length≤1000000) :
  evE cf (.meth .append (.var i) [e]) σ h=.ok .non (h.set n (.lst (us++[w]))):=by
 have z:Qc5 h (.ref n)=some us:=by
  show (match h[n]? with | some (.lst ws)=>some ws | _=>none)=some us
  rw[hn]
 rw[evE,Qaa hs,bnd_ok,if_pos (show Qg3 .append h (.ref n)=true by show (Qc5 h (.ref n)).isSome=true;rw[z];rfl),Qcb,ee,bnd_ok,bnd_ok]
 show (match h[n]? with | some (.lst us)=>if Qan w=true∧us.length<sizeLine then Res.ok W.non (h.set n (.lst (us++[w]))) else .stuck | _=>.stuck)=_
 rw[hn]
 dsimp only
 rw[if_pos ⟨hp,Nat.lt_of_le_of_lt hz (by decide)⟩]
theorem Qdy {cf:CF}{fw:Nat}{e:E}{σ:Qai}{h h1:Qac}{w:W} (ee:evE cf e σ h=.ok w h1):exS cf fw (.exp e) σ h=.ok (.nx σ) h1:=by
 rw[exS,ee,bnd_ok]
theorem QcK {cf:CF}{fw:Nat}{is:List Nat}{e:E}{b:List S}{σ:Qai}{h:Qac}{n:Nat} (ee:evE cf e σ h=.ok (nat n) h) (hz:n<2 ^ 62):exS cf fw (.for_ is (.rng [e]) b) σ h=fo is (exB cf fw b) ((List.range n).map fun (k:Nat)=>W.int (0+(k:Int))) σ h:=by
 rw[exS,Qcb,ee,bnd_ok,bnd_ok]
 have c:-(2 ^ 62)≤(n:Int)∧(n:Int)<2 ^ 62:=by omega
 have z:Qh9 [nat n]=some ((List.range n).map fun (k:Nat)=>W.int (0+(k:Int))):=by
  unfold Qh9
  dsimp only
  rw[if_pos c,Int.toNat_natCast]
 rw[z]
theorem Qdg (i:Nat) (w:W) (σ:Qai):QaG [i] w σ=some (σ.set i (some w)):=rfl
noncomputable abbrev Qfh (l p:Nat):List S:=[.asg 1 (.con (.tup [(.int 0),(.int 1)])),.for_ [2] (.seq (.var 0)) [.asg 1 (.call p [(.var 1),(.call l [(.ix (.var 2) (.con (.int 0))),(.ix (.var 2) (.con (.int 1)))])])],.ret (.var 1)]
noncomputable def QaR (l:List (Nat×Nat)) (t:Nat×Nat):Nat×Nat:=l.foldl (fun t s=>Qd7 t (low s.1 s.2)) t
theorem Qni {N:Nat}{t s:Nat×Nat} (ht:0<t.2) (ct:Nat.gcd t.1 t.2=1) (hs:0<s.2) (b1:t.1<2 ^ N) (b2:t.2<2 ^ N) (s1:s.1<2 ^ 10) (s2:s.2<2 ^ 10) :
  0<(Qd7 t (low s.1 s.2)).2∧Nat.gcd (Qd7 t (low s.1 s.2)).1 (Qd7 t (low s.1 s.2)).2=1∧(Qd7 t (low s.1 s.2)).1<2 ^ (N+11)∧(Qd7 t (low s.1 s.2)).2<2 ^ (N+11):=by
 obtain⟨q0,q1,q2,q3,q4⟩:=QbD s.1 s.2 hs
 obtain⟨u0,u1,u2,u3,u4⟩:=Qfz t (low s.1 s.2) ht q0 ct q1
 have x1:=Qb0 b1 (Nat.lt_of_le_of_lt q3 s2)
 have x2:=Qb0 (Nat.lt_of_le_of_lt q4 s1) b2
 have x3:=Qb0 b2 (Nat.lt_of_le_of_lt q3 s2)
 have e1:(2:Nat) ^ (N+11)=2 ^ (N+10)*2:=by rw[show N+11=N+10+1 from rfl,Nat.pow_succ]
 rw[Nat.add_comm 10 N]at x2
 exact⟨u0,u1,by omega,by omega⟩
theorem QdF {tb:List Fn}{l p g d:Nat} (hl:tb[l]?=some ⟨2,3,bLow g,none⟩) (hp:tb[p]?=some ⟨2,5,QhL g,none⟩) (hg:tb[g]?=some ⟨2,3,QjM,none⟩) (h:Qac) (s0:Option W) :
  ∀ (ss:List (Nat×Nat)) (t:Nat×Nat) (r:Option W) (N:Nat),(∀ s∈ss,0<s.2∧s.1<2 ^ 10∧s.2<2 ^ 10)→0<t.2→Nat.gcd t.1 t.2=1→t.1<2 ^ N→t.2<2 ^ N→N+11*ss.length≤4000 →
   ∃ r',fo [2] (exB (Qae FW tb (d+2)) FW [.asg 1 (.call p [(.var 1),(.call l [(.ix (.var 2) (.con (.int 0))),(.ix (.var 2) (.con (.int 1)))])])]) (ss.map shp) [s0,some (shp t),r] h=.ok (.nx [s0,some (shp (QaR ss t)),r']) h
 |[],t,r,N,_,_,_,_,_,_=>⟨r,by rw[List.map_nil,fo];rfl⟩
 |s::ss,t,r,N,hs,t0,ct,b1,b2,hN=>by
  obtain⟨h0,h1,h2⟩:=hs s List.mem_cons_self
  obtain⟨p0,p1,p2,p3⟩:=Qni t0 ct h0 b1 b2 h1 h2
  rw[List.length_cons]at hN
  obtain⟨q0,q1,q2,q3,q4⟩:=QbD s.1 s.2 h0
  have e1:=Qiu (fw:=FW) hl hg d s.1 s.2 h (QfC (Qbi h2 (by decide))) h0 (Qbi h2 (by decide))
  have e2:=Qld hp hg d t.1 t.2 (low s.1 s.2).1 (low s.1 s.2).2 h (Qbi b1 (by omega)) (Qbi b2 (by omega)) (Qbi (Nat.lt_of_le_of_lt q4 h1) (by decide)) (Qbi (Nat.lt_of_le_of_lt q3 h2) (by decide)) t0 q0
  obtain⟨r',e⟩:=QdF hl hp hg h s0 ss (Qd7 t (low s.1 s.2)) (some (shp s)) (N+11) (fun x hx=>hs x (List.mem_cons_of_mem _ hx)) p0 p1 p2 p3 (by omega)
  refine⟨r',?_⟩
  rw[List.map_cons]
  refine(QaP (Qdg _ _ _) (σ':=[s0,some (shp (Qd7 t (low s.1 s.2))),some (shp s)]) (QlC (Qaq (Qaa (i:=1) rfl) (Qaq (QfK (i:=2) rfl) (Qcz (i:=2) rfl) e1) e2))).trans ?_
  exact e
theorem Qid {tb:List Fn}{f l p g:Nat} (hf:tb[f]?=some ⟨1,3,Qfh l p,none⟩) (hl:tb[l]?=some ⟨2,3,bLow g,none⟩) (hp:tb[p]?=some ⟨2,5,QhL g,none⟩) (hg:tb[g]?=some ⟨2,3,QjM,none⟩) (d:Nat) (ss:List (Nat×Nat)) (h:Qac)
  (w:W) (hw:w=.lst (ss.map shp)∨w=.tup (ss.map shp)) (hs:∀ s∈ss,0<s.2∧s.1<2 ^ 10∧s.2<2 ^ 10) (hn:ss.length≤300) :
  Qae FW tb (d+3) f [w] h=.ok (shp (QaR ss (0,1))) h:=by
 rw[Qak (d:=d+2) hf rfl]
 obtain⟨r',e⟩:=QdF (d:=d) hl hp hg h (some w) ss (0,1) none 1 hs (by decide) (by decide) (by decide) (by decide) (by omega)
 generalize Qae FW tb (d+2)=cf at *
 show J.fin h.length (exB cf FW (Qfh l p) [some w,none,none] h)=_
 have lp:exS cf FW (.for_ [2] (.seq (.var 0)) [.asg 1 (.call p [(.var 1),(.call l [(.ix (.var 2) (.con (.int 0))),(.ix (.var 2) (.con (.int 1)))])])]) [some w,some (shp (0,1)),none] h=.ok (.nx [some w,some (shp (QaR ss (0,1))),r']) h:=by
  rw[exS,Qaa (i:=0) (w:=w) rfl,bnd_ok]
  rcases hw with z | z
  ·subst z;exact e
  ·subst z;exact e
 have rr:exB cf FW (Qfh l p) [some w,none,none] h=.ok (.ret (shp (QaR ss (0,1)))) h:=by
  refine(Qab (Qaf Qaj)).trans ?_
  refine(Qab lp).trans ?_
  exact Qal (Qa2 (Qaa (i:=1) rfl))
 rw[rr]
 exact Qbz (Qdj _ _)
noncomputable def Qkj (l:List (Nat×Nat)) (t:Nat×Nat):Nat×Nat:=l.foldl (fun t s=>(t.1*s.2+s.1*t.2,t.2*s.2)) t
theorem QeZ:∀ (ss:List (Nat×Nat)) (t u:Nat×Nat),(∀ s∈ss,0<s.2)→0<t.2→Nat.gcd t.1 t.2=1→0<u.2→t.1*u.2=u.1*t.2→t.2≤u.2→t.1≤u.1 →
  0<(QaR ss t).2∧Nat.gcd (QaR ss t).1 (QaR ss t).2=1∧(QaR ss t).1*(Qkj ss u).2=(Qkj ss u).1*(QaR ss t).2∧(QaR ss t).2≤(Qkj ss u).2∧(QaR ss t).1≤(Qkj ss u).1
 |[],t,u,_,t0,ct,u0,e,l1,l2=>⟨t0,ct,e,l1,l2⟩
 |s::ss,t,u,hs,t0,ct,u0,e,l1,l2=>by
  have h0:=hs s List.mem_cons_self
  obtain⟨q0,q1,q2,q3,q4⟩:=QbD s.1 s.2 h0
  obtain⟨v0,v1,v2,v3,v4⟩:=Qfz t (low s.1 s.2) t0 q0 ct q1
  refine QeZ ss (Qd7 t (low s.1 s.2)) (u.1*s.2+s.1*u.2,u.2*s.2) (fun x hx=>hs x (List.mem_cons_of_mem _ hx)) v0 v1 (Nat.mul_pos u0 h0) ?_ ?_ ?_
  ·show (Qd7 t (low s.1 s.2)).1*(u.2*s.2)=(u.1*s.2+s.1*u.2)*(Qd7 t (low s.1 s.2)).2
   generalize Qd7 t (low s.1 s.2)=R at *
   generalize (low s.1 s.2).1=r at *
   generalize (low s.1 s.2).2=q at *
   have qs:0<t.2*q:=Nat.mul_pos t0 q0
   refine Nat.eq_of_mul_eq_mul_left qs ?_
   calc t.2*q*(R.1*(u.2*s.2))=R.1*(t.2*q)*(u.2*s.2):=by simp only[Nat.mul_comm,Nat.mul_left_comm,Nat.mul_assoc]
    _=(t.1*q+r*t.2)*R.2*(u.2*s.2):=by rw[v2]
    _=((t.1*u.2)*(q*s.2)+(r*s.2)*(t.2*u.2))*R.2:=by simp only[Nat.add_mul,Nat.mul_add,Nat.mul_comm,Nat.mul_left_comm,Nat.mul_assoc]
    _=((u.1*t.2)*(q*s.2)+(s.1*q)*(t.2*u.2))*R.2:=by rw[e,q2]
    _=t.2*q*((u.1*s.2+s.1*u.2)*R.2):=by simp only[Nat.add_mul,Nat.mul_add,Nat.mul_comm,Nat.mul_left_comm,Nat.mul_assoc]
  ·exact Nat.le_trans v3 (Nat.mul_le_mul l1 q3)
  ·exact Nat.le_trans v4 (Nat.add_le_add (Nat.mul_le_mul l2 q3) (Nat.mul_le_mul q4 l1))
mutual
noncomputable def okQ:W→Bool
 |.int _=>true
 |.str _=>true
 |.tup ws=>Qdh ws&&decide (ws.length≤100000)
 |.lst ws=>Qdh ws&&decide (ws.length≤100000)
 |_=>false
noncomputable def Qdh:List W→Bool
 |[]=>true
 |w::ws=>okQ w&&Qdh ws
end
mutual
noncomputable def dep:W→Nat
 |.tup ws=>QcX ws+1
 |.lst ws=>QcX ws+1
 |_=>0
noncomputable def QcX:List W→Nat
 |[]=>0
 |w::ws=>Nat.max (dep w) (QcX ws)
end
theorem QgZ:∀ {ws:List W}{w:W},Qdh ws=true→w∈ws→okQ w=true
 |[],_,_,h=>nomatch h
 |u::ws,w,h,m=>by
  rw[Qdh,Bool.and_eq_true]at h
  rcases List.mem_cons.mp m with e | m
  ·subst e;exact h.1
  ·exact QgZ h.2 m
theorem Qhk:∀ {ws:List W}{w:W},w∈ws→dep w≤QcX ws
 |[],_,h=>nomatch h
 |u::ws,w,m=>by
  rw[QcX]
  rcases List.mem_cons.mp m with e | m
  ·subst e;exact Nat.le_max_left _ _
  ·exact Nat.le_trans (Qhk m) (Nat.le_max_right _ _)
noncomputable abbrev tSame (f:Nat):List S:=[.if_ (.not_ (.call f [(.ix (.var 0) (.var 3)),(.ix (.var 1) (.var 3))])) [.ret (.con (.bl false))] []]
noncomputable abbrev Qh1 (f : Nat) : List S := [.if_ (.isi (.var 1) [.list, .tuple]) [.asg 2 (.ite (.isi (.var 1) [.list]) (.isi (.var 0) [.list]) (.isi (.var 0) [.tuple])),
 .if_ (.or_ (.not_ (.var 2)) (.cmp .NotEq (.blt .len [(.var 0)]) (.blt .len [(.var 1)]))) [.ret (.con (.bl false))] [],
 .for_ [3] (.rng [(.blt .len [(.var 1)])]) (tSame f),
 .ret (.con (.bl true))] [],
 .if_ (.isi (.var 1) [.str]) [.ret (.and_ (.isi (.var 0) [.str]) (.cmp .Eq (.var 0) (.var 1)))] [],
 .ret (.and_ (.isi (.var 0) [.int]) (.and_ (.not_ (.isi (.var 0) [.bool])) (.cmp .Eq (.var 0) (.var 1))))]
theorem Qig {cf:CF}{a:E}{ts:List Ty}{σ:Qai}{h h1:Qac}{x:W}{bs:List Bool} (ea:evE cf a σ h=.ok x h1) (e:ts.mapM (QaY h1 x)=some bs):evE cf (.isi a ts) σ h=.ok (.bl (bs.any id)) h1:=by
 rw[evE,ea,bnd_ok,e];rfl
theorem Qbs {cf:CF}{a:E}{σ:Qai}{h h1:Qac}{x:W}{us:List W} (ea:evE cf a σ h=.ok x h1) (e:seqA h1 x=some us):evE cf (.blt .len [a]) σ h=.ok (nat us.length) h1:=by
 rw[evE,Qad ea Qag,bnd_ok]
 show lenW x h1=_
 unfold lenW
 rw[e];rfl
theorem Qfi {cf:CF}{fw f:Nat}{x:W}{ws:List W}{h:Qac} (hx:∀ k:Nat,k<ws.length→∃ w,ixW x (nat k) h=.ok w h∧cf f [w,w] h=.ok (.bl true) h):∀ (ks:List Nat) (r:Option W),(∀ k∈ks,k<ws.length) →
  ∃ r',fo [3] (exB cf fw (tSame f)) (ks.map fun (k:Nat)=>W.int (0+(k:Int))) [some x,some x,some (.bl true),r] h=.ok (.nx [some x,some x,some (.bl true),r']) h
 |[],r,_=>⟨r,by rw[List.map_nil,fo]⟩
 |k::ks,r,hk=>by
  obtain⟨r',e⟩:=Qfi (cf:=cf) (fw:=fw) hx ks (some (nat k)) fun j hj=>hk j (List.mem_cons_of_mem _ hj)
  obtain⟨w,e1,e2⟩:=hx k (hk k List.mem_cons_self)
  refine⟨r',?_⟩
  rw[List.map_cons,show (0+(k:Int))=(k:Int) from Int.zero_add _]
  refine(QaP (Qdg _ _ _) (σ':=[some x,some x,some (.bl true),some (nat k)]) (h2:=h) ?_).trans e
  refine(Qab (Qbf (QbF (b:=true) (Qa5 (Qaq (QaS (Qaa (i:=0) rfl) (Qaa (i:=3) rfl) e1) (QaS (Qaa (i:=1) rfl) (Qaa (i:=3) rfl) e1) e2))))).trans ?_
  rw[exB]
  rfl
theorem Qg2 {fw:Nat}{tb:List Fn}{f:Nat} (hg:tb[f]?=some ⟨2,4,Qh1 f,none⟩):∀ (d:Nat) (w:W) (h:Qac),dep w<d→okQ w=true→Qae fw tb d f [w,w] h=.ok (.bl true) h
 |0,w,h,hd,_=>absurd hd (Nat.not_lt_zero _)
 |d+1,w,h,hd,ho=>by
  rw[Qak hg rfl]
  have take:h.take h.length=h:=List.take_length
  have seqs:∀ (ws:List W) (b1:Bool),seqA h w=some ws→QaY h w .list=some b1→QaY h w .tuple=some (!b1)→Qan w=Qan w→Qdh ws=true→ws.length≤100000→QcX ws<d →
    (∀ (k:Nat) (u:W),ws[k]?=some u→ixW w (nat k) h=.ok u h)→J.fin h.length (exB (Qae fw tb d) fw (Qh1 f) ([w,w].map some++List.replicate (4-2) none) h)=.ok (.bl true) h:=by
   intro ws b1 es k1 k2 _ oq hl hdp hix
   have ev0:∀ (i:Nat) (σ:Qai),σ[i]?=some (some w)→∀ t b,QaY h w t=some b→evE (Qae fw tb d) (.isi (.var i) [t]) σ h=.ok (.bl b) h:=fun i σ e t b k=>by
    have z:=Qig (cf:=Qae fw tb d) (ts:=[t]) (bs:=[b]) (Qaa (h:=h) e) (by simp[k])
    simpa using z
   have first:evT (Qae fw tb d) (.isi (.var 1) [.list,.tuple]) [some w,some w,none,none] h=.ok true h:=by
    have z:=Qig (cf:=Qae fw tb d) (σ:=[some w,some w,none,none]) (ts:=[.list,.tuple]) (bs:=[b1,!b1]) (Qaa (i:=1) (h:=h) rfl) (by simp[k1,k2])
    refine Qa5 (z.trans ?_)
    cases b1<;>rfl
   have alike:evE (Qae fw tb d) (.ite (.isi (.var 1) [.list]) (.isi (.var 0) [.list]) (.isi (.var 0) [.tuple])) [some w,some w,none,none] h=.ok (.bl true) h:=by
    rw[evE]
    have c:tst (evE (Qae fw tb d) (.isi (.var 1) [.list]) [some w,some w,none,none] h)=.ok b1 h:=Qa5 (ev0 1 _ rfl .list b1 k1)
    rw[c,bnd_ok]
    cases b1 with
    |true=>rw[if_pos rfl];exact ev0 0 _ rfl .list true k1
    |false=>rw[if_neg (by decide)];exact ev0 0 _ rfl .tuple true k2
   obtain⟨r',lp⟩:=Qfi (cf:=Qae fw tb d) (fw:=fw) (f:=f) (x:=w) (ws:=ws) (h:=h) (fun k hk=>by
    refine⟨ws[k],hix k _ (List.getElem?_eq_getElem hk),?_⟩
    have hm:ws[k]∈ws:=List.getElem_mem hk
    exact Qg2 hg d ws[k] h (Nat.lt_of_le_of_lt (Qhk hm) hdp) (QgZ oq hm)) (List.range ws.length) none (fun k hk=>List.mem_range.mp hk)
   have body:exB (Qae fw tb d) fw (Qh1 f) [some w,some w,none,none] h=.ok (.ret (.bl true)) h:=by
    refine Qal ((Qea first).trans ?_)
    refine(Qab (Qaf alike)).trans ?_
    have ne:Qfl .NotEq (nat ws.length) (nat ws.length) h=.ok (.bl false) h:=(QlM _ _ _).trans (by simp)
    refine(Qab (Qbf (Qcr (QbF (b:=true) (Qa5 (Qaa (i:=2) rfl))) (Qa5 (Qbp (Qbs (Qaa (i:=0) rfl) es) (Qbs (Qaa (i:=1) rfl) es) ne))))).trans ?_
    refine(Qab ((QcK (Qbs (Qaa (i:=1) rfl) es) (by omega)).trans lp)).trans ?_
    exact Qal (Qa2 Qaj)
   show J.fin h.length (exB (Qae fw tb d) fw (Qh1 f) [some w,some w,none,none] h)=_
   rw[body]
   show (if Qan (.bl true)=true then Res.ok (W.bl true) (h.take h.length) else .stuck)=_
   rw[take];rfl
  cases w with
  |int i =>
   show J.fin h.length (exB (Qae fw tb d) fw (Qh1 f) [some (.int i),some (.int i),none,none] h)=_
   simp[exB,exS,evE,evA,tst,QlL,bnd,QaY,okB,Qfl,eqW,J.fin,unr,QcU,Qan]
  |str i =>
   show J.fin h.length (exB (Qae fw tb d) fw (Qh1 f) [some (.str i),some (.str i),none,none] h)=_
   simp[exB,exS,evE,evA,tst,QlL,bnd,QaY,okB,Qfl,eqW,J.fin,unr,QcU,Qan]
  |tup ws =>
   rw[okQ,Bool.and_eq_true]at ho
   rw[dep]at hd
   exact seqs ws false rfl rfl rfl rfl ho.1 (of_decide_eq_true ho.2) (by omega) fun k u e=>by
    show (match atI ws ((k:Nat):Int) with | some w=>Res.ok w h | none=>.stuck)=_
    rw[QbE,e]
  |lst ws =>
   rw[okQ,Bool.and_eq_true]at ho
   rw[dep]at hd
   exact seqs ws true rfl rfl rfl rfl ho.1 (of_decide_eq_true ho.2) (by omega) fun k u e=>by
    show (match atI ws ((k:Nat):Int) with | some w=>Res.ok w h | none=>.stuck)=_
    rw[QbE,e]
  |_=>cases ho
noncomputable abbrev abc:Str:="abcdefghijklmnopqrstuvwxyz"
noncomputable def ltr (n:Nat):Str:=⟨#[abc.cps.toList.getD n 0]⟩
theorem Qha {n:Nat} (h:n<26) (c:Qac):ixW (.str abc) (nat n) c=.ok (.str (ltr n)) c:=by
 show ixS abc ((n:Nat):Int) c=_
 unfold ixS
 have hl:abc.cps.toList.length=26:=by decide +kernel
 rw[if_pos (by decide +kernel),QbE,List.getElem?_eq_getElem (by omega)]
 show Res.ok (W.str ⟨#[abc.cps.toList[n]]⟩) c=_
 unfold ltr
 rw[List.getD_eq_getElem?_getD,List.getElem?_eq_getElem (by omega)]
 rfl
theorem QaW (n:Nat):(ltr n).length=1:=rfl
noncomputable def QbP (how shift:Nat):Str:=Txt.mul (ltr (shift / 26 % 26)) ((how / 3 % 11:Nat):Int)
noncomputable def QaQ (how shift k:Nat):Str:=if how % 3<2 then
  Txt.slice (QbP how shift) none (some ((how / 33 % 11:Nat):Int))++ltr ((5*k+shift) % 26)++ltr ((k / 26+shift) % 26)++Txt.slice (QbP how shift) (some ((how / 33 % 11:Nat):Int)) none
 else Txt.mul (ltr ((k / 12+shift) % 26)) ((1+k % 12:Nat):Int)
theorem QfU {x:Str}{n m:Nat} (hx:x.length=1) (hn:n≤m):(Txt.mul x (n:Int)).length≤m:=by
 have:=len_mul_leN (x:=x) (n:=(n:Int)) (L:=1) (N:=m) (by omega) (by omega)
 omega
theorem QgG (how shift:Nat):(QbP how shift).length≤11:=QfU (QaW _) (by omega)
theorem QaD (a b:Str):(a++b).length=a.length+b.length:=by
 show (a.cps++b.cps).size=_
 rw[Array.size_append];rfl
theorem QkP (how shift k:Nat):(QaQ how shift k).length≤24:=by
 unfold QaQ
 split
 ·rw[QaD,QaD,QaD,QaW,QaW]
  have h1:=Txt.slice_le (QbP how shift) none (some ((how / 33 % 11:Nat):Int))
  have h2:=Txt.slice_le (QbP how shift) (some ((how / 33 % 11:Nat):Int)) none
  have h3:=QgG how shift
  omega
 ·exact Nat.le_trans (QfU (m:=12) (QaW _) (by omega)) (by decide)
theorem QiR {x:Str}{n:Nat} (h:Qac) (hx:x.length≤1000) (hn:n≤1000):opW .Mult (.str x) (nat n) h=.ok (.str (Txt.mul x (n:Int))) h:=by
 show (if x.length≤1000∧-1000≤((n:Nat):Int)∧((n:Nat):Int)≤1000 then Res.ok (W.str (Txt.mul x n)) h else .stuck)=_
 rw[if_pos ⟨hx,by omega,by omega⟩]
theorem QfX {x y:Str} (h:Qac) (hx:x.length≤1000) (hy:y.length≤1000):opW .Add (.str x) (.str y) h=.ok (.str (x++y)) h:=by
 show (if x.length+y.length≤sizeLine then Res.ok (W.str (x++y)) h else .stuck)=_
 rw[if_pos (by rw[sizeLine_eq];omega)]
theorem QlD {cf:CF}{a:E}{lo hi:Option E}{l u:Option Int}{σ:Qai}{h:Qac}{x:Str} (ea:evE cf a σ h=.ok (.str x) h) (el:evO cf lo σ h=.ok l h) (eu:evO cf hi σ h=.ok u h) (hx:x.length≤1000):evE cf (.sl a lo hi) σ h=.ok (.str (Txt.slice x l u)) h:=by
 rw[evE,ea,bnd_ok,el,bnd_ok,eu,bnd_ok]
 show (if x.length≤1000 then Res.ok (W.str (Txt.slice x l u)) h else .stuck)=_
 rw[if_pos hx]
theorem QgW {cf:CF}{σ:Qai}{h:Qac}:evO cf none σ h=.ok none h:=by rw[evO]
theorem QgA {cf:CF}{a:E}{i:Int}{σ:Qai}{h:Qac} (ea:evE cf a σ h=.ok (.int i) h):evO cf (some a) σ h=.ok (some i) h:=by rw[evO,ea,bnd_ok]
noncomputable abbrev Qi9 : List S := [.asg 8 (.ix (.var 3) (.bin .Mod (.bin .Add (.bin .Mult (.con (.int 5)) (.var 7)) (.var 2)) (.con (.int 26)))),
 .asg 9 (.ix (.var 3) (.bin .Mod (.bin .Add (.bin .FloorDiv (.var 7) (.con (.int 26))) (.var 2)) (.con (.int 26)))),
 .if_ (.cmp .Lt (.bin .Mod (.var 1) (.con (.int 3))) (.con (.int 2))) [.exp (.meth .append (.var 6) [(.bin .Add (.bin .Add (.bin .Add (.sl (.var 4) none (some (.var 5))) (.var 8)) (.var 9)) (.sl (.var 4) (some (.var 5)) none))])] [.exp (.meth .append (.var 6) [(.bin .Mult (.ix (.var 3) (.bin .Mod (.bin .Add (.bin .FloorDiv (.var 7) (.con (.int 12))) (.var 2)) (.con (.int 26)))) (.bin .Add (.con (.int 1)) (.bin .Mod (.var 7) (.con (.int 12)))))])]]
noncomputable abbrev Qgd : List S := [.asg 3 (.con (.str "abcdefghijklmnopqrstuvwxyz")),
 .asg 4 (.bin .Mult (.ix (.var 3) (.bin .Mod (.bin .FloorDiv (.var 2) (.con (.int 26))) (.con (.int 26)))) (.bin .Mod (.bin .FloorDiv (.var 1) (.con (.int 3))) (.con (.int 11)))),
 .asg 5 (.bin .Mod (.bin .FloorDiv (.var 1) (.con (.int 33))) (.con (.int 11))),
 .fresh 6 (.lst []),
 .for_ [7] (.rng [(.var 0)]) Qi9,
 .ret (.var 6)]
theorem QdE {cf:CF}{a b:E}{m n:Nat}{σ:Qai}{h:Qac} (ea:evE cf a σ h=.ok (nat m) h) (eb:evE cf b σ h=.ok (nat n) h):evT cf (.cmp .Lt a b) σ h=.ok (decide (m<n)) h:=by
 refine Qa5 ((Qbp ea eb (cmp_Lt _ _ _)).trans ?_)
 congr 2
 exact decide_eq_decide.mpr (by omega)
theorem lt9 {n:Nat} (h:n<2 ^ 10):n<2 ^ 9000:=Nat.lt_of_lt_of_le h (Nat.pow_le_pow_right (by decide) (by decide))
theorem Qdu (cf:CF) (fw:Nat) (m how shift:Nat) (h:Qac):∀ (ks:List Nat) (us:List Str) (r8 r9 r7:Option W),us.length+ks.length≤100000→(∀ k∈ks,k<100000)→shift<100000→∃ r7' r8' r9',
  fo [7] (exB cf fw Qi9) (ks.map fun (k:Nat)=>W.int (0+(k:Int))) [some (nat m),some (nat how),some (nat shift),some (.str abc),some (.str (QbP how shift)),some (nat (how / 33 % 11)),some (.ref h.length),r7,r8,r9] (h++[.lst (us.map W.str)])
   = .ok (.nx [some (nat m),some (nat how),some (nat shift),some (.str abc),some (.str (QbP how shift)),some (nat (how / 33 % 11)),some (.ref h.length),r7',r8',r9']) (h++[.lst ((us++ks.map (QaQ how shift)).map W.str)])
 |[],us,r8,r9,r7,_,_,_=>⟨r7,r8,r9,by rw[List.map_nil,fo];simp⟩
 |k::ks,us,r8,r9,r7,hn,hk,hs=>by
  rw[List.length_cons]at hn
  obtain⟨r7',r8',r9',e⟩:=Qdu cf fw m how shift h ks (us++[QaQ how shift k]) (some (.str (ltr ((5*k+shift) % 26)))) (some (.str (ltr ((k / 26+shift) % 26)))) (some (nat k)) (by rw[List.length_append,List.length_singleton];omega) (fun j hj=>hk j (List.mem_cons_of_mem _ hj)) hs
  refine⟨r7',r8',r9',?_⟩
  have hkk:=hk k List.mem_cons_self
  rw[List.map_cons,show (0+(k:Int))=(k:Int) from Int.zero_add _]
  have el:us++List.map (QaQ how shift) (k::ks)=(us++[QaQ how shift k])++List.map (QaQ how shift) ks:=by simp
  rw[el]
  refine(QaP (Qdg _ _ _) (σ':=[some (nat m),some (nat how),some (nat shift),some (.str abc),some (.str (QbP how shift)),some (nat (how / 33 % 11)),some (.ref h.length),some (nat k),some (.str (ltr ((5*k+shift) % 26))),some (.str (ltr ((k / 26+shift) % 26)))]) (h2:=h++[.lst ((us++[QaQ how shift k]).map W.str)]) ?_).trans e
  have hcell:(h++[Ob.lst (us.map W.str)])[h.length]?=some (.lst (us.map W.str)):=by rw[List.getElem?_append_right (Nat.le_refl _),Nat.sub_self];rfl
  have hset:(h++[Ob.lst (us.map W.str)]).set h.length (.lst (us.map W.str++[W.str (QaQ how shift k)]))=h++[.lst ((us++[QaQ how shift k]).map W.str)]:=by
   rw[List.set_append_right _ _ (Nat.le_refl _),Nat.sub_self,List.map_append];rfl
  refine(Qab (Qaf (QaS (Qaa (i:=3) rfl) (QaU (n:=26) (Qay (Qbg (m:=5) Qah (Qaa (i:=7) rfl) (Qb5 (by decide))) (Qaa (i:=2) rfl)) Qah (by decide)) (Qha (Nat.mod_lt _ (by decide)) _)))).trans ?_
  refine(Qab (Qaf (QaS (Qaa (i:=3) rfl) (QaU (n:=26) (Qay (QaN (n:=26) (Qaa (i:=7) rfl) Qah (by decide) (lt9 (by decide))) (Qaa (i:=2) rfl)) Qah (by decide)) (Qha (Nat.mod_lt _ (by decide)) _)))).trans ?_
  have hul:(us.map W.str).length≤1000000:=by rw[List.length_map];omega
  by_cases hw:how % 3<2
  ·have en:QaQ how shift k=Txt.slice (QbP how shift) none (some ((how / 33 % 11:Nat):Int))++ltr ((5*k+shift) % 26)++ltr ((k / 26+shift) % 26)++Txt.slice (QbP how shift) (some ((how / 33 % 11:Nat):Int)) none:=by unfold QaQ;rw[if_pos hw]
   have h3:=QgG how shift
   have h1:=Txt.slice_le (QbP how shift) none (some ((how / 33 % 11:Nat):Int))
   have h2:=Txt.slice_le (QbP how shift) (some ((how / 33 % 11:Nat):Int)) none
   refine(Qab ((Qea ((QdE (m:=how % 3) (n:=2) (QaU (n:=3) (Qaa (i:=1) rfl) Qah (by decide)) Qah).trans (by rw[decide_eq_true hw]))).trans ((Qab (Qdy (QbR (i:=6) (n:=h.length) (us:=us.map W.str) (w:=.str (QaQ how shift k)) rfl hcell ?_ rfl hul))).trans (by rw[exB])))).trans ?_
   ·rw[en]
    exact Qbj (Qbj (Qbj (QlD (Qaa (i:=4) rfl) QgW (QgA (Qaa (i:=5) rfl)) (by omega)) (Qaa (i:=8) rfl) (QfX _ (by omega) (by rw[QaW];decide))) (Qaa (i:=9) rfl) (QfX _ (by rw[QaD,QaW];omega) (by rw[QaW];decide)))
     (QlD (Qaa (i:=4) rfl) (QgA (Qaa (i:=5) rfl)) QgW (by omega)) (QfX _ (by rw[QaD,QaD,QaW,QaW];omega) (by omega))
   ·rw[exB,hset]
    rfl
  ·have en:QaQ how shift k=Txt.mul (ltr ((k / 12+shift) % 26)) ((1+k % 12:Nat):Int):=by unfold QaQ;rw[if_neg hw]
   refine(Qab ((if_f ((QdE (m:=how % 3) (n:=2) (QaU (n:=3) (Qaa (i:=1) rfl) Qah (by decide)) Qah).trans (by rw[decide_eq_false hw]))).trans ((Qab (Qdy (QbR (i:=6) (n:=h.length) (us:=us.map W.str) (w:=.str (QaQ how shift k)) rfl hcell ?_ rfl hul))).trans (by rw[exB])))).trans ?_
   ·rw[en]
    exact Qbj (QaS (Qaa (i:=3) rfl) (QaU (n:=26) (Qay (QaN (n:=12) (Qaa (i:=7) rfl) Qah (by decide) (lt9 (by decide))) (Qaa (i:=2) rfl)) Qah (by decide)) (Qha (Nat.mod_lt _ (by decide)) _))
     (Qay (m:=1) Qah (QaU (n:=12) (Qaa (i:=7) rfl) Qah (by decide))) (QiR _ (by rw[QaW];decide) (by omega))
   ·rw[exB,hset]
    rfl
theorem Qaz:∀ ss:List Str,Qam (ss.map W.str)=true
 |[]=>rfl
 |s::ss=>by rw[List.map_cons,Qam,Qaz ss];rfl
theorem Qgq {cf:CF}{fw:Nat} (m how shift:Nat) (h:Qac) (hm:m≤1000) (hs:shift<100000):exB cf fw Qgd [some (nat m),some (nat how),some (nat shift),none,none,none,none,none,none,none] h=.ok (.ret (.ref h.length)) (h++[.lst (((List.range m).map (QaQ how shift)).map W.str)]):=by
 obtain⟨r7,r8,r9,lp⟩:=Qdu cf fw m how shift h (List.range m) [] none none none (by simp;omega) (fun k hk=>by have:=List.mem_range.mp hk;omega) hs
 refine(Qab (Qaf Qaj)).trans ?_
 refine(Qab (Qaf (Qbj (QaS (Qaa (i:=3) rfl) (QaU (n:=26) (QaN (n:=26) (Qaa (i:=2) rfl) Qah (by decide) (lt9 (by decide))) Qah (by decide)) (Qha (Nat.mod_lt _ (by decide)) _)) (QaU (n:=11) (QaN (n:=3) (Qaa (i:=1) rfl) Qah (by decide) (lt9 (by decide))) Qah (by decide)) (QiR _ (by rw[QaW];decide) (by omega))))).trans ?_
 refine(Qab (Qaf (QaU (n:=11) (QaN (n:=33) (Qaa (i:=1) rfl) Qah (by decide) (lt9 (by decide))) Qah (by decide)))).trans ?_
 refine(Qab (σ':=[some (nat m),some (nat how),some (nat shift),some (.str abc),some (.str (QbP how shift)),some (nat (how / 33 % 11)),some (.ref h.length),none,none,none]) (h':=h++[.lst []]) ?_).trans ?_
 ·rw[exS,evF,evA,bnd_ok,if_pos (by decide),bnd_ok,if_pos (by rw[Qam])]
  rfl
 refine(Qab ((QcK (Qaa (i:=0) rfl) (by omega)).trans lp)).trans ?_
 exact Qal (Qa2 (Qaa (i:=6) rfl))
theorem Qhx {fw:Nat}{tb:List Fn}{f:Nat} (hg:tb[f]?=some ⟨3,10,Qgd,none⟩) (d m how shift:Nat) (h:Qac) (hm:m≤1000) (hs:shift<100000):Qae fw tb (d+1) f [nat m,nat how,nat shift] h=.ok (.lst (((List.range m).map (QaQ how shift)).map W.str)) h:=by
 rw[Qak hg rfl]
 show J.fin h.length (exB (Qae fw tb d) fw Qgd [some (nat m),some (nat how),some (nat shift),none,none,none,none,none,none,none] h)=_
 rw[Qgq m how shift h hm hs]
 unfold J.fin
 dsimp only
 rw[unr,if_neg (Nat.lt_irrefl _),List.getElem?_append_right (Nat.le_refl _),Nat.sub_self]
 show Res.ok _ (List.take h.length (h++_))=_
 rw[List.take_left]
theorem QiH {n:Nat}{src:Option Nat}{f:W→Qac→Res (Option W)}{F:W→W}{h:Qac} (hn:h.length=n) (hs:∀ k,src=some k→k<n):∀ (ws us:List W),(∀ w∈ws,∀ us,f w (h++[.lst us])=.ok (some (F w)) (h++[.lst us])∧Qan (F w)=true)→us.length+ws.length≤100000 →
  lc n src f ws (h++[.lst us])=.ok () (h++[.lst (us++ws.map F)])
 |[],us,_,_=>by rw[lc];simp
 |w::ws,us,hf,hl=>by
  rw[List.length_cons]at hl
  obtain⟨e,hp⟩:=hf w List.mem_cons_self us
  rw[lc,e,bnd_ok,if_pos (fun k _=>rfl)]
  dsimp only
  have hcell:(h++[Ob.lst us])[n]?=some (.lst us):=by rw[← hn,List.getElem?_append_right (Nat.le_refl _),Nat.sub_self];rfl
  rw[hcell]
  dsimp only
  rw[if_pos ⟨hp,by rw[sizeLine_eq];omega⟩]
  have hset:(h++[Ob.lst us]).set n (.lst (us++[F w]))=h++[.lst (us++[F w])]:=by
   rw[← hn,List.set_append_right _ _ (Nat.le_refl _),Nat.sub_self];rfl
  rw[hset,QiH hn hs ws (us++[F w]) (fun w' hw'=>hf w' (List.mem_cons_of_mem _ hw')) (by rw[List.length_append,List.length_singleton];omega)]
  simp
theorem QcT {n:Nat}{h:Qac}{us:List W} (hn:h.length=n):Qh2 n (.ok () (h++[.lst us]))=.ok (.lst us) h:=by
 unfold Qh2
 dsimp only
 rw[← hn,List.getElem?_append_right (Nat.le_refl _),Nat.sub_self]
 show Res.ok _ (List.take h.length (h++_))=_
 rw[List.take_left]
theorem Qb4:∀ ss:List Str,Qb2 (ss.map W.str)=some ss
 |[]=>rfl
 |s::ss=>by
  rw[List.map_cons]
  show (Qb2 (ss.map W.str)).map (s::·)=_
  rw[Qb4 ss];rfl
theorem QcY {cf:CF}{a:E}{σ:Qai}{h:Qac}{x:W}{ss:List Str} (ea:evE cf a σ h=.ok x h) (hx:seqA h x=some (ss.map W.str)) (hl:ss.length<64):evE cf (.blt .sorted [a]) σ h=.ok (.lst ((QhO ltS ss).map W.str)) h:=by
 rw[evE,Qad ea Qag,bnd_ok]
 show QjR x h=_
 unfold QjR
 rw[hx]
 show (match Qb2 (ss.map W.str) with | some ss=>if ss.length<64 then Res.ok (W.lst ((QhO ltS ss).map W.str)) h else .stuck | none=>.stuck)=_
 rw[Qb4]
 dsimp only
 rw[if_pos hl]
theorem Qi2 {cf:CF}{a:E}{σ:Qai}{h:Qac}{ss:List Str} (ea:evE cf a σ h=.ok (.lst (ss.map W.str)) h) (hl:ss.length<64):evE cf (.blt .sorted [a]) σ h=.ok (.lst ((QhO ltS ss).map W.str)) h:=QcY ea rfl hl
theorem Qb6 {cf:CF}{a:E}{σ:Qai}{h:Qac}{us:List W} (ea:evE cf a σ h=.ok (.lst us) h):evE cf (.blt .tuple [a]) σ h=.ok (.tup us) h:=by
 rw[evE,Qad ea Qag,bnd_ok];rfl
theorem QgU {cf:CF}{is:List Nat}{n m:Nat}{a elt:E}{σ:Qai}{h:Qac}{F:Nat→W} (ea:evE cf a σ h=.ok (nat m) h) (hm:m≤1000)
  (hF:∀ k,k<m→Qan (F k)=true∧∀ hh,QbJ (QaG is (nat k) (clr is σ++List.replicate n none)) (Qc2 cf []) (evE cf elt) hh=.ok (some (F k)) hh):evE cf (.compR is n [a] [] elt) σ h=.ok (.lst ((List.range m).map F)) h:=by
 rw[evE,Qad ea Qag,bnd_ok]
 have hr:Qh9 [nat m]=some ((List.range m).map fun (k:Nat)=>W.int (0+(k:Int))):=by
  have cc:-(2 ^ 62)≤((m:Nat):Int)∧((m:Nat):Int)<2 ^ 62:=by omega
  unfold Qh9
  dsimp only
  rw[if_pos cc,Int.toNat_natCast]
 rw[hr]
 dsimp only
 rw[QiH (F:=fun w=>match w with | .int i=>F i.toNat | _=>.non) rfl (fun k e=>by cases e) _ [] ?_ (by simp;omega),QcT rfl]
 ·have el:∀ k:Nat,(0+(k:Int)).toNat=k:=fun k=>by omega
  rw[List.nil_append,List.map_map]
  have em:List.map ((fun w=>match w with | W.int i=>F i.toNat | _=>W.non) ∘ fun (k:Nat)=>W.int (0+(k:Int))) (List.range m)=List.map F (List.range m):=List.map_congr_left fun k _=>congrArg F (el k)
  rw[em]
 ·intro w hw us
  obtain⟨k,hk,rfl⟩:=List.mem_map.mp hw
  have hk':=List.mem_range.mp hk
  obtain⟨h1,h2⟩:=hF k hk'
  have e:(0+(k:Int)).toNat=k:=by omega
  show QbJ (QaG is (W.int (0+(k:Int))) _) _ _ _=.ok (some (F (0+(k:Int)).toNat)) _∧Qan (F (0+(k:Int)).toNat)=true
  rw[e,Int.zero_add]
  exact⟨h2 _,h1⟩
theorem QeD {cf:CF}{bd:Option Qai}{σ:Qai}{elt:E}{h:Qac}{w:W} (e:bd=some σ) (ee:evE cf elt σ h=.ok w h):QbJ bd (Qc2 cf []) (evE cf elt) h=.ok (some w) h:=by
 subst e
 unfold QbJ
 dsimp only
 rw[Qc2,bnd_ok,if_pos rfl,ee,bnd_ok]
theorem Qcn:∀ ss:List Str,Qdh (ss.map W.str)=true
 |[]=>rfl
 |s::ss=>by rw[List.map_cons,Qdh,Qcn ss];rfl
theorem Qcw:∀ ss:List Str,QcX (ss.map W.str)=0
 |[]=>rfl
 |s::ss=>by rw[List.map_cons,QcX,Qcw ss];rfl
theorem Qi4 {is:List Nat}{body:Qai→Qac→Res Fl}{Iv:Nat→Qai→Qac→Prop}:∀ (ws:List W) (i:Nat) (σ:Qai) (h:Qac),
  (∀ j w σ h,ws[j]?=some w→Iv (i+j) σ h→∃ σ1 σ2 h2,QaG is w σ=some σ1∧body σ1 h=.ok (.nx σ2) h2∧Iv (i+j+1) σ2 h2)→Iv i σ h→∃ σ2 h2,fo is body ws σ h=.ok (.nx σ2) h2∧Iv (i+ws.length) σ2 h2
 |[],i,σ,h,_,q=>⟨σ,h,by rw[fo],q⟩
 |w::ws,i,σ,h,st,q=>by
  obtain⟨σ1,σ2,h2,e1,e2,q2⟩:=st 0 w σ h rfl q
  obtain⟨σ3,h3,e3,q3⟩:=Qi4 ws (i+1) σ2 h2 (fun j w σ h e q=>by
   have:=st (j+1) w σ h (by simpa using e) (by rw[show i+(j+1)=i+1+j by omega];exact q)
   rw[show i+(j+1)+1=i+1+j+1 by omega]at this
   exact this) q2
  exact⟨σ3,h3,(QaP e1 e2).trans e3,by rw[List.length_cons,show i+(ws.length+1)=i+1+ws.length by omega];exact q3⟩
theorem Qfv {i n:Nat}{body:Qai→Qac→Res Fl}{Iv:Nat→Qai→Qac→Prop}{σ:Qai}{h:Qac} (st:∀ k σ h,k<n→Iv k σ h→∃ σ2 h2,body (σ.set i (some (nat k))) h=.ok (.nx σ2) h2∧Iv (k+1) σ2 h2) (q:Iv 0 σ h) :
  ∃ σ2 h2,fo [i] body ((List.range n).map fun (k:Nat)=>W.int (0+(k:Int))) σ h=.ok (.nx σ2) h2∧Iv n σ2 h2:=by
 have:=Qi4 (is:=[i]) (body:=body) (Iv:=Iv) ((List.range n).map fun (k:Nat)=>W.int (0+(k:Int))) 0 σ h (fun j w σ h e q=>by
  have hj:j<n:=by
   have:=(List.getElem?_eq_some_iff.mp e).1
   simpa using this
  have ew:w=nat j:=by
   rw[List.getElem?_map,List.getElem?_range hj]at e
   have:=Option.some.inj e
   rw[← this]
   show W.int (0+(j:Int))=_
   rw[Int.zero_add]
  subst ew
  rw[Nat.zero_add]at q ⊢
  obtain⟨σ2,h2,e2,q2⟩:=st j σ h hj q
  exact⟨_,σ2,h2,rfl,e2,q2⟩) q
 simpa using this
theorem Qif {i:Nat}{body:Qai→Qac→Res Fl}{σ:Qai}{h:Qac}:∀ (ws:List W) (r:Option W),(∀ w∈ws,body (σ.set i (some w)) h=.ok (.nx (σ.set i (some w))) h)→∃ r',fo [i] body ws (σ.set i r) h=.ok (.nx (σ.set i r')) h
 |[],r,_=>⟨r,by rw[fo]⟩
 |w::ws,r,st=>by
  obtain⟨r',e⟩:=Qif ws (some w) (fun w' h'=>st w' (List.mem_cons_of_mem _ h'))
  refine⟨r',(QaP (σ1:=σ.set i (some w)) ?_ (st w List.mem_cons_self)).trans e⟩
  show some ((σ.set i r).set i (some w))=_
  rw[List.set_set]
noncomputable def nxS:List Str→List Str→Str→Option Str
 |k::ks,v::vs,x=>if k=x then some v else nxS ks vs x
 |_,_,_=>none
theorem QbG:∀ (ks vs:List Str) (x:Str),Qc8 ks (vs.map W.str) x=(nxS ks vs x).map W.str
 |[],_,_=>by unfold Qc8 nxS;rfl
 |_::_,[],_=>by rw[List.map_nil];unfold Qc8 nxS;rfl
 |k::ks,v::vs,x=>by
  rw[List.map_cons]
  unfold Qc8 nxS
  by_cases h:k=x
  ·rw[if_pos h,if_pos h];rfl
  ·rw[if_neg h,if_neg h];exact QbG ks vs x
theorem Qep:∀ {ks vs:List Str}{x y:Str},nxS ks vs x=some y→y∈vs
 |[],_,_,_,h=>by unfold nxS at h;cases h
 |_::_,[],_,_,h=>by unfold nxS at h;cases h
 |k::ks,v::vs,x,y,h=>by
  unfold nxS at h
  split at h
  ·cases h;exact List.mem_cons_self
  ·exact List.mem_cons_of_mem _ (Qep h)
theorem QcS:∀ {ks:List Str}{ws:List W}{x:Str},ks.length=ws.length→((Qc8 ks ws x).isSome=true↔x∈ks)
 |[],_,_,_=>by unfold Qc8;simp
 |_::_,[],_,h=>by cases h
 |k::ks,w::ws,x,h=>by
  unfold Qc8
  by_cases e:k=x
  ·rw[if_pos e];simp[e]
  ·rw[if_neg e,QcS (by simpa using h),List.mem_cons]
   exact⟨.inr,fun q=>q.resolve_left fun z=>e z.symm⟩
theorem Qho:∀ (ks vs:List Str) (x v:Str),∃ us:List Str,QhG ks (vs.map W.str) x (.str v)=us.map W.str∧us.length=vs.length∧∀ u∈us,u=v∨u∈vs
 |[],vs,_,_=>⟨vs,by unfold QhG;rfl,rfl,fun u h=>.inr h⟩
 |_::_,[],_,_=>⟨[],by rw[List.map_nil];unfold QhG;rfl,rfl,fun u h=>.inr h⟩
 |k::ks,w::vs,x,v=>by
  obtain⟨us,e1,e2,e3⟩:=Qho ks vs x v
  refine⟨(if k=x then v else w)::us,?_,by simp[e2],fun u hu=>?_⟩
  ·rw[List.map_cons]
   unfold QhG
   rw[e1,List.map_cons]
   split<;>rfl
  ·rcases List.mem_cons.mp hu with rfl | hu
   ·split
    ·exact .inl rfl
    ·exact .inr List.mem_cons_self
   ·exact(e3 u hu).imp id (List.mem_cons_of_mem _)
theorem Qg5 (ks vs:List Str) (x v:Str) (hl:ks.length=vs.length):∃ ks' us:List Str,QfL ks (vs.map W.str) x (.str v)=(ks',us.map W.str)∧ks'.length=us.length∧ks'.length≤ks.length+1∧(∀ u∈us,u=v∨u∈vs)∧(∀ k∈ks',k=x∨k∈ks):=by
 unfold QfL
 split
 ·obtain⟨us,e1,e2,e3⟩:=Qho ks vs x v
  exact⟨ks,us,by rw[e1],by rw[e2];exact hl,by omega,e3,fun k hk=>.inr hk⟩
 ·refine⟨ks++[x],vs++[v],by rw[List.map_append];rfl,by simp[hl],by simp,fun u hu=>?_,fun k hk=>?_⟩
  ·rcases List.mem_append.mp hu with hu | hu
   ·exact .inr hu
   ·exact .inl (List.mem_singleton.mp hu)
  ·rcases List.mem_append.mp hk with hk | hk
   ·exact .inr hk
   ·exact .inl (List.mem_singleton.mp hk)
theorem Qlz {cf:CF}{a b:E}{σ:Qai}{h:Qac}{x:Str}{y:W}{ks:List Str}{ws:List W} (ea:evE cf a σ h=.ok (.str x) h) (eb:evE cf b σ h=.ok y h) (ed:Qbt h y=some (ks,ws)):evT cf (.cmp .In a b) σ h=.ok (Qc8 ks ws x).isSome h:=by
 refine Qa5 (Qbp ea eb ?_)
 show inW false (.str x) y h=_
 unfold inW
 rw[ed]
 rfl
theorem Ql0 {cf:CF}{a b:E}{σ:Qai}{h:Qac}{x:Str}{y:W}{ks:List Str}{ws:List W} (ea:evE cf a σ h=.ok (.str x) h) (eb:evE cf b σ h=.ok y h) (ed:Qbt h y=some (ks,ws)):evT cf (.cmp .NotIn a b) σ h=.ok (!(Qc8 ks ws x).isSome) h:=by
 refine Qa5 (Qbp ea eb ?_)
 show inW true (.str x) y h=_
 unfold inW
 rw[ed]
 rfl
noncomputable def Qa6 (x:Str) (ss:List Str):Bool:=inV (toV (.str x)) ((ss.map W.str).map toV)
theorem Qde:∀ ss:List Str,(ss.map W.str).all Qgi=true
 |[]=>rfl
 |s::ss=>by rw[List.map_cons,List.all_cons,Qde ss];rfl
theorem QcI {cf:CF}{a b:E}{σ:Qai}{h:Qac}{x:Str}{y:W}{ss:List Str} (ea:evE cf a σ h=.ok (.str x) h) (eb:evE cf b σ h=.ok y h) (ed:Qbt h y=none) (el:seqA h y=some (ss.map W.str)):evT cf (.cmp .NotIn a b) σ h=.ok (!Qa6 x ss) h:=by
 refine Qa5 (Qbp ea eb ?_)
 show inW true (.str x) y h=_
 unfold inW
 rw[ed]
 dsimp only
 rw[el]
 dsimp only
 rw[if_pos (by rw[Qde];rfl)]
 rfl
theorem QdT {cf:CF}{a b:E}{σ:Qai}{h:Qac}{x:Str}{y:W}{ss:List Str} (ea:evE cf a σ h=.ok (.str x) h) (eb:evE cf b σ h=.ok y h) (ed:Qbt h y=none) (el:seqA h y=some (ss.map W.str)):evT cf (.cmp .In a b) σ h=.ok (Qa6 x ss) h:=by
 refine Qa5 (Qbp ea eb ?_)
 show inW false (.str x) y h=_
 unfold inW
 rw[ed]
 dsimp only
 rw[el]
 dsimp only
 rw[if_pos (by rw[Qde];rfl)]
 rfl
theorem QgD {cf:CF}{a b:E}{σ:Qai}{h:Qac}{x:Str}{y w:W}{ks:List Str}{ws:List W} (ea:evE cf a σ h=.ok y h) (eb:evE cf b σ h=.ok (.str x) h) (ed:Qbt h y=some (ks,ws)) (eg:Qc8 ks ws x=some w):evE cf (.ix a b) σ h=.ok w h:=by
 refine QaS ea eb ?_
 unfold ixW
 dsimp only
 rw[ed]
 dsimp only
 rw[eg]
theorem QlK {cf:CF}{a b:E}{σ:Qai}{h:Qac}{x y:Str} (ea:evE cf a σ h=.ok (.str x) h) (eb:evE cf b σ h=.ok (.str y) h):evT cf (.cmp .NotEq a b) σ h=.ok (!decide (x=y)) h:=Qa5 (Qbp ea eb rfl)
theorem Qll {cf:CF}{a b:E}{σ:Qai}{h:Qac}{x y:Str} (ea:evE cf a σ h=.ok (.str x) h) (eb:evE cf b σ h=.ok (.str y) h):evE cf (.cmp .Eq a b) σ h=.ok (.bl (decide (x=y))) h:=Qbp ea eb rfl
theorem QgH {cf:CF}{a b:E}{m n:Nat}{σ:Qai}{h:Qac} (ea:evE cf a σ h=.ok (nat m) h) (eb:evE cf b σ h=.ok (nat n) h):evT cf (.cmp .NotEq a b) σ h=.ok (!decide (m=n)) h:=by
 refine Qa5 ((Qbp ea eb (QlM _ _ _)).trans ?_)
 congr 3
 exact decide_eq_decide.mpr (by omega)
theorem QeB {cf:CF}{fw i n:Nat}{k e:E}{σ:Qai}{h:Qac}{ks:List Str}{ws:List W}{x:Str}{w:W} (hs:σ[i]?=some (some (.ref n))) (hn:h[n]?=some (.dic ks ws)) (ek:evE cf k σ h=.ok (.str x) h) (ee:evE cf e σ h=.ok w h) (hp:Qan w=true) (hz:ks.length≤1000000) :
  exS cf fw (.setix (.var i) k e) σ h=.ok (.nx σ) (h.set n (.dic (QfL ks ws x w).1 (QfL ks ws x w).2)):=by
 rw[exS,ee,bnd_ok,Qaa hs,bnd_ok,ek,bnd_ok]
 dsimp only
 rw[hn]
 dsimp only
 rw[if_pos ⟨hp,Nat.lt_of_le_of_lt hz (by decide)⟩]
theorem Qa8 {h:Qac}{o:Ob}:(h++[o])[h.length]?=some o:=by rw[List.getElem?_append_right (Nat.le_refl _),Nat.sub_self];rfl
theorem Qbl {h:Qac}{o o':Ob}:(h++[o]).set h.length o'=h++[o']:=by rw[List.set_append_right _ _ (Nat.le_refl _),Nat.sub_self];rfl
theorem Qml {h:Qac}{ks:List Str}{ws:List W}:J.fin h.length (.ok (.ret (.ref h.length)) (h++[.dic ks ws]))=.ok (.dic ks ws) h:=by
 unfold J.fin
 dsimp only
 rw[unr,if_neg (Nat.lt_irrefl _),Qa8]
 show Res.ok _ (List.take h.length (h++_))=_
 rw[List.take_left]
theorem Qmz {h:Qac}{ws:List W}:J.fin h.length (.ok (.ret (.ref h.length)) (h++[.lst ws]))=.ok (.lst ws) h:=by
 unfold J.fin
 dsimp only
 rw[unr,if_neg (Nat.lt_irrefl _),Qa8]
 show Res.ok _ (List.take h.length (h++_))=_
 rw[List.take_left]
theorem QiL {h:Qac}{o:Qac}{s:Str}:J.fin h.length (.ok (.ret (.str s)) (h++o))=.ok (.str s) h:=by
 unfold J.fin
 dsimp only
 rw[Qbu (.str s) rfl]
 dsimp only
 rw[List.take_left]
noncomputable abbrev Qbm:Str:="CROWN"
noncomputable def QeH (nx:Str→Option Str) (dead:Str→Bool):Nat→List Str→Str→Str
 |0,_,_=>Qbm
 |n+1,qs,x=>match nx x with
  |none=>Qbm
  |some y=>if y∈qs then Qbm else if dead y=false then y else QeH nx dead n (qs++[y]) y
noncomputable def Qbe (nx:Str→Option Str) (dead:Str→Bool) (name:Str):Nat→Str→Str
 |0,_=>Qbm
 |n+1,x=>match nx x with
  |none=>Qbm
  |some y=>if y≠name∧dead y=false then y else Qbe nx dead name n y
theorem QdN {nx:Str→Option Str}{dead:Str→Bool}{name:Str}{qs:List Str} (hn:∀ q∈qs,∃ y,nx q=some y∧y∈qs) (hd:∀ q∈qs,q=name∨dead q=true):∀ (n:Nat) (x:Str),x∈qs→Qbe nx dead name n x=Qbm
 |0,_,_=>rfl
 |n+1,x,hx=>by
  obtain⟨y,e,hy⟩:=hn x hx
  unfold Qbe
  rw[e]
  dsimp only
  rw[if_neg]
  ·exact QdN hn hd n y hy
  ·rintro ⟨h1,h2⟩
   rcases hd y hy with h | h
   ·exact h1 h
   ·rw[h]at h2;cases h2
theorem Qcv:∀ {qs P:List Str},qs.Nodup→(∀ q∈qs,q∈P)→qs.length≤P.length
 |[],_,_,_=>Nat.zero_le _
 |q::qs,P,nd,hs=>by
  rw[List.nodup_cons]at nd
  have h1:=List.length_erase_of_mem (hs q List.mem_cons_self)
  have h2:=Qcv (P:=P.erase q) nd.2 (fun r hr=>(List.mem_erase_of_ne (by rintro rfl;exact nd.1 hr)).mpr (hs r (List.mem_cons_of_mem _ hr)))
  have h3:0<P.length:=List.length_pos_of_mem (hs q List.mem_cons_self)
  rw[List.length_cons]
  omega
theorem QfZ {nx:Str→Option Str}{dead:Str→Bool}{name:Str}{P:List Str}{m:Nat} (hP:P.length≤m) (hv:∀ x y,nx x=some y→y∈P):∀ (n k:Nat) (qs:List Str) (x:Str),qs.Nodup→(∀ q∈qs,q∈P)→x∈qs→name∈qs→(∀ q∈qs,q=name∨dead q=true)→(∀ q∈qs,q≠x→∃ y,nx q=some y∧y∈qs)→m+1≤n+qs.length→m+1≤k+qs.length→QeH nx dead n qs x=Qbe nx dead name k x
 |0,k,qs,x,nd,hs,hx,hnm,hd,hc,hn,hk=>by
  have:=Qcv nd hs
  omega
 |n+1,0,qs,x,nd,hs,hx,hnm,hd,hc,hn,hk=>by
  have:=Qcv nd hs
  omega
 |n+1,k+1,qs,x,nd,hs,hx,hnm,hd,hc,hn,hk=>by
  unfold QeH
  cases e:nx x with
  |none=>unfold Qbe;rw[e]
  |some y =>
   dsimp only
   by_cases hy:y∈qs
   ·rw[if_pos hy]
    refine(QdN (qs:=qs) (fun q hq=>?_) hd (k+1) x hx).symm
    by_cases hq2:q=x
    ·subst hq2;exact⟨y,e,hy⟩
    ·exact hc q hq hq2
   ·rw[if_neg hy]
    unfold Qbe
    rw[e]
    dsimp only
    have yn:y≠name:=by rintro rfl;exact hy hnm
    by_cases dy:dead y=false
    ·rw[if_pos dy,if_pos ⟨yn,dy⟩]
    ·rw[if_neg dy,if_neg (fun z=>dy z.2)]
     have dy':dead y=true:=by cases h:dead y<;>simp_all
     refine QfZ hP hv n k (qs++[y]) y ?_ ?_ (by simp) (by simp[hnm]) ?_ ?_ (by simp;omega) (by simp;omega)
     ·rw[List.nodup_append]
      exact⟨nd,by simp,fun a ha b hb=>by rw[List.mem_singleton.mp hb];rintro rfl;exact hy ha⟩
     ·intro q hq
      rcases List.mem_append.mp hq with hq | hq
      ·exact hs q hq
      ·rw[List.mem_singleton.mp hq];exact hv x y e
     ·intro q hq
      rcases List.mem_append.mp hq with hq | hq
      ·exact hd q hq
      ·rw[List.mem_singleton.mp hq];exact .inr dy'
     ·intro q hq hq2
      rcases List.mem_append.mp hq with hq | hq
      ·by_cases h3:q=x
       ·subst h3;exact⟨y,e,by simp⟩
       ·obtain⟨z,z1,z2⟩:=hc q hq h3
        exact⟨z,z1,List.mem_append_left _ z2⟩
      ·exact absurd (List.mem_singleton.mp hq) hq2
noncomputable abbrev Qiv : List S := [.asg 4 (.ix (.var 1) (.var 4)),
 .if_ (.cmp .In (.var 4) (.var 3)) [.ret (.con (.str "CROWN"))] [],
 .if_ (.cmp .NotIn (.var 4) (.var 2)) [.ret (.var 4)] [],
 .setix (.var 3) (.var 4) (.con (.bl true))]
noncomputable abbrev Qfw : List S := [.freshD1 3 (.var 0) (.con (.bl true)),
 .asg 4 (.var 0),
 .while_ (.cmp .In (.var 4) (.var 1)) Qiv,
 .ret (.con (.str "CROWN"))]
noncomputable abbrev QfE : List S := [.if_ (.cmp .NotIn (.var 3) (.var 1)) [.ret (.con (.str "CROWN"))] [],
 .asg 3 (.ix (.var 1) (.var 3)),
 .if_ (.and_ (.cmp .NotEq (.var 3) (.var 0)) (.cmp .NotIn (.var 3) (.var 2))) [.ret (.var 3)] []]
noncomputable abbrev Qhm : List S := [.asg 3 (.var 0),
 .for_ [4] (.rng [(.con (.int 31))]) QfE,
 .ret (.con (.str "CROWN"))]
theorem QlJ {is:List Nat}{body:Qai→Qac→Res Fl}{w:W}{ws:List W}{σ σ1:Qai}{h h2:Qac}{u:W} (hb:QaG is w σ=some σ1) (e:body σ1 h=.ok (.ret u) h2):fo is body (w::ws) σ h=.ok (.ret u) h2:=by
 rw[fo,hb]
 dsimp only
 rw[e]
 rfl
theorem QlO {test:Qai→Qac→Res Bool}{body:Qai→Qac→Res Fl}{n:Nat}{σ:Qai}{h h1 h2:Qac}{u:W} (ht:test σ h=.ok true h1) (hb:body σ h1=.ok (.ret u) h2):wh test body (n+1) σ h=.ok (.ret u) h2:=by
 rw[wh,ht,bnd_ok,if_pos rfl,hb]
 rfl
theorem Qfk {cf:CF}{fw:Nat}{name:Str}{ks vs dead:List Str}{h:Qac}:∀ (js:List Nat) (x:Str) (r:Option W),∃ fl,
  fo [4] (exB cf fw QfE) (js.map fun (k:Nat)=>W.int (0+(k:Int))) [some (.str name),some (.dic ks (vs.map W.str)),some (.lst (dead.map W.str)),some (.str x),r] h=.ok fl h
   ∧ (fl=.ret (.str (Qbe (nxS ks vs) (fun y=>Qa6 y dead) name js.length x))∨((∃ σ',fl=.nx σ')∧Qbe (nxS ks vs) (fun y=>Qa6 y dead) name js.length x=Qbm))
 |[],x,r=>⟨_,by rw[List.map_nil,fo],.inr ⟨⟨_,rfl⟩,rfl⟩⟩
 |j::js,x,r=>by
  let σ1:Qai:=[some (.str name),some (.dic ks (vs.map W.str)),some (.lst (dead.map W.str)),some (.str x),some (.int (0+(j:Int)))]
  have t0:=Ql0 (cf:=cf) (σ:=σ1) (h:=h) (a:=.var 3) (b:=.var 1) (x:=x) (ks:=ks) (ws:=vs.map W.str) (Qaa rfl) (Qaa rfl) rfl
  rw[QbG]at t0
  rw[List.map_cons,List.length_cons]
  unfold Qbe
  cases e:nxS ks vs x with
  |none =>
   rw[e]at t0
   refine⟨_,QlJ (σ1:=σ1) rfl (Qal ((Qea t0).trans (Qal (Qa2 Qaj)))),.inl rfl⟩
  |some y =>
   rw[e]at t0
   let σ2:Qai:=[some (.str name),some (.dic ks (vs.map W.str)),some (.lst (dead.map W.str)),some (.str y),some (.int (0+(j:Int)))]
   have d1:Qc8 ks (vs.map W.str) x=some (.str y):=by rw[QbG,e];rfl
   have s1:∀ bd,exB cf fw QfE σ1 h=bd↔exB cf fw [.if_ (.and_ (.cmp .NotEq (.var 3) (.var 0)) (.cmp .NotIn (.var 3) (.var 2))) [.ret (.var 3)] []] σ2 h=bd:=fun bd=>by
    rw[show exB cf fw QfE σ1 h=exB cf fw [.if_ (.and_ (.cmp .NotEq (.var 3) (.var 0)) (.cmp .NotIn (.var 3) (.var 2))) [.ret (.var 3)] []] σ2 h from (Qab (Qbf t0)).trans (Qab (Qaf (QgD (Qaa (i:=1) rfl) (Qaa (i:=3) rfl) rfl d1)))]
   have t1:=QlK (cf:=cf) (σ:=σ2) (h:=h) (a:=.var 3) (b:=.var 0) (x:=y) (y:=name) (Qaa rfl) (Qaa rfl)
   have t2:=QcI (cf:=cf) (σ:=σ2) (h:=h) (a:=.var 3) (b:=.var 2) (x:=y) (ss:=dead) (Qaa rfl) (Qaa rfl) rfl rfl
   dsimp only
   by_cases hy:y≠name∧Qa6 y dead=false
   ·rw[if_pos hy]
    rw[decide_eq_false hy.1]at t1
    rw[hy.2]at t2
    exact⟨_,QlJ (σ1:=σ1) rfl ((s1 _).mpr (Qal ((Qea (Qdv t1 t2)).trans (Qal (Qa2 (Qaa (i:=3) rfl)))))),.inl rfl⟩
   ·rw[if_neg hy]
    obtain⟨fl,e3,q3⟩:=Qfk (cf:=cf) (fw:=fw) (name:=name) (ks:=ks) (vs:=vs) (dead:=dead) (h:=h) js y (some (.int (0+(j:Int))))
    refine⟨fl,(QaP (σ1:=σ1) rfl ((s1 _).mpr ?_)).trans e3,q3⟩
    refine(Qab (Qbf ?_)).trans (by rw[exB])
    by_cases hn:y=name
    ·rw[decide_eq_true hn]at t1
     exact Qf3 t1
    ·rw[decide_eq_false hn]at t1
     have:Qa6 y dead=true:=by
      cases q:Qa6 y dead
      ·exact absurd ⟨hn,q⟩ hy
      ·rfl
     rw[this]at t2
     exact Qdv t1 t2
theorem QkR {fw:Nat}{tb:List Fn}{f:Nat} (hg:tb[f]?=some ⟨3,5,Qhm,none⟩) (d:Nat) (name:Str) (ks vs dead:List Str) (h:Qac) :
  Qae fw tb (d+1) f [.str name,.dic ks (vs.map W.str),.lst (dead.map W.str)] h=.ok (.str (Qbe (nxS ks vs) (fun y=>Qa6 y dead) name 31 name)) h:=by
 rw[Qak hg rfl]
 obtain⟨fl,e,q⟩:=Qfk (cf:=Qae fw tb d) (fw:=fw) (name:=name) (ks:=ks) (vs:=vs) (dead:=dead) (h:=h) (List.range 31) name none
 show J.fin h.length (exB (Qae fw tb d) fw Qhm [some (.str name),some (.dic ks (vs.map W.str)),some (.lst (dead.map W.str)),none,none] h)=_
 have s1:exB (Qae fw tb d) fw Qhm [some (.str name),some (.dic ks (vs.map W.str)),some (.lst (dead.map W.str)),none,none] h=.ok (.ret (.str (Qbe (nxS ks vs) (fun y=>Qa6 y dead) name 31 name))) h:=by
  refine(Qab (Qaf (Qaa (i:=0) rfl))).trans ?_
  have lp:=(QcK (cf:=Qae fw tb d) (fw:=fw) (is:=[4]) (e:=.con (.int 31)) (b:=QfE) (σ:=[some (.str name),some (.dic ks (vs.map W.str)),some (.lst (dead.map W.str)),some (.str name),none]) (h:=h) (n:=31) Qaj (by decide)).trans e
  rcases q with rfl | ⟨⟨σ',rfl⟩,q⟩
  ·exact Qal lp
  ·refine(Qab lp).trans (Qal (Qa2 ?_))
   rw[List.length_range]at q
   rw[q]
   exact Qaj
 rw[s1]
 exact QiL (o:=[]) |> fun z=>by rw[List.append_nil]at z;exact z
theorem Qgy:∀ {qs:List Str}{ws:List W}{x:Str}{w:W},x∉qs→QfL qs ws x w=(qs++[x],ws++[w]):=by
 intro qs ws x w h
 unfold QfL
 rw[if_neg]
 intro z
 obtain⟨k,hk,e⟩:=List.any_eq_true.mp z
 exact h (of_decide_eq_true e ▸ hk)
theorem Qhg {dW:W}{cf:CF}{fw:Nat}{name:Str}{ks vs dead P:List Str}{m:Nat}{h:Qac} (hdW:∀ o,Qbt (h++[o]) dW=none∧seqA (h++[o]) dW=some (dead.map W.str)) (hP:P.length≤m) (hv:∀ y∈vs,y∈P) (hl:ks.length=vs.length):∀ (n:Nat) (qs:List Str) (bs:List W) (x:Str),qs.Nodup→(∀ q∈qs,q∈P)→qs.length=bs.length→m+1≤n+qs.length→qs.length≤1000→m≤1000→∃ fl c,
  wh (evT cf (.cmp .In (.var 4) (.var 1))) (exB cf fw Qiv) n [some (.str name),some (.dic ks (vs.map W.str)),some dW,some (.ref h.length),some (.str x)] (h++[.dic qs bs])=.ok fl (h++[c])
   ∧ (fl=.ret (.str (QeH (nxS ks vs) (fun y=>Qa6 y dead) n qs x))∨((∃ σ',fl=.nx σ')∧QeH (nxS ks vs) (fun y=>Qa6 y dead) n qs x=Qbm))
 |0,qs,bs,x,nd,hs,hb,hn,hz,hm=>by
  have:=Qcv nd hs
  omega
 |n+1,qs,bs,x,nd,hs,hb,hn,hz,hm=>by
  let σ1:Qai:=[some (.str name),some (.dic ks (vs.map W.str)),some dW,some (.ref h.length),some (.str x)]
  let h1:Qac:=h++[.dic qs bs]
  have t0:=Qlz (cf:=cf) (σ:=σ1) (h:=h1) (a:=.var 4) (b:=.var 1) (x:=x) (ks:=ks) (ws:=vs.map W.str) (Qaa rfl) (Qaa rfl) rfl
  rw[QbG]at t0
  unfold QeH
  cases e:nxS ks vs x with
  |none =>
   rw[e]at t0
   exact⟨_,_,Qeg t0,.inr ⟨⟨_,rfl⟩,rfl⟩⟩
  |some y =>
   rw[e]at t0
   have yP:y∈P:=hv y (Qep e)
   let σ2:Qai:=[some (.str name),some (.dic ks (vs.map W.str)),some dW,some (.ref h.length),some (.str y)]
   have d1:Qc8 ks (vs.map W.str) x=some (.str y):=by rw[QbG,e];rfl
   have dc:Qbt h1 (.ref h.length)=some (qs,bs):=by
    show (match h1[h.length]? with | some (.dic ks ws)=>some (ks,ws) | _=>none)=_
    rw[show h1[h.length]?=some (.dic qs bs) from Qa8]
   have a0:exS cf fw (.asg 4 (.ix (.var 1) (.var 4))) σ1 h1=.ok (.nx σ2) h1:=Qaf (QgD (Qaa (i:=1) rfl) (Qaa (i:=4) rfl) rfl d1)
   have t1:=Qlz (cf:=cf) (σ:=σ2) (h:=h1) (a:=.var 4) (b:=.var 3) (x:=y) (Qaa rfl) (Qaa rfl) dc
   have t2:=QcI (cf:=cf) (σ:=σ2) (h:=h1) (a:=.var 4) (b:=.var 2) (x:=y) (ss:=dead) (Qaa rfl) (Qaa rfl) (hdW _).1 (hdW _).2
   dsimp only
   by_cases hy:y∈qs
   ·rw[if_pos hy]
    rw[(QcS hb).mpr hy]at t1
    exact⟨_,_,QlO t0 ((Qab a0).trans (Qal ((Qea t1).trans (Qal (Qa2 Qaj))))),.inl rfl⟩
   ·rw[if_neg hy]
    have d2:(Qc8 qs bs y).isSome=false:=by
     cases q:(Qc8 qs bs y).isSome
     ·rfl
     ·exact absurd ((QcS hb).mp q) hy
    rw[d2]at t1
    by_cases dy:Qa6 y dead=false
    ·rw[if_pos dy]
     rw[dy]at t2
     exact⟨_,_,QlO t0 ((Qab a0).trans ((Qab (Qbf t1)).trans (Qal ((Qea t2).trans (Qal (Qa2 (Qaa (i:=4) rfl))))))),.inl rfl⟩
    ·rw[if_neg dy]
     have dy':Qa6 y dead=true:=by cases q:Qa6 y dead<;>simp_all
     rw[dy']at t2
     have nd':(qs++[y]).Nodup:=by
      rw[List.nodup_append]
      exact⟨nd,by simp,fun a ha b hb=>by rw[List.mem_singleton.mp hb];rintro rfl;exact hy ha⟩
     have hs':∀ q∈qs++[y],q∈P:=fun q hq=>by
      rcases List.mem_append.mp hq with hq | hq
      ·exact hs q hq
      ·rw[List.mem_singleton.mp hq];exact yP
     have lq:=Qcv nd' hs'
     rw[List.length_append,List.length_singleton]at lq
     obtain⟨fl,c,e3,q3⟩:=Qhg (cf:=cf) (fw:=fw) (name:=name) (dead:=dead) (h:=h) hdW hP hv hl n (qs++[y]) (bs++[.bl true]) y nd' hs' (by simp[hb]) (by simp;omega) (by simp;omega) hm
     refine⟨fl,c,(Qez t0 ((Qab a0).trans ((Qab (Qbf t1)).trans ((Qab (Qbf t2)).trans ((Qab (QeB (i:=3) (n:=h.length) rfl Qa8 (Qaa (i:=4) rfl) Qaj rfl (by omega))).trans ?_))))).trans e3,q3⟩
     rw[exB,Qgy hy,Qbl]
theorem QgX {fw:Nat}{tb:List Fn}{f:Nat} (hg:tb[f]?=some ⟨3,5,Qfw,none⟩) (d:Nat) (name:Str) (ks vs dead P:List Str) (h:Qac) (dW:W) (hdW:∀ o,Qbt (h++[o]) dW=none∧seqA (h++[o]) dW=some (dead.map W.str)) (hP:P.length≤30) (hn:name∈P) (hv:∀ y∈vs,y∈P) (hl:ks.length=vs.length) (hw:31≤fw) :
  Qae fw tb (d+1) f [.str name,.dic ks (vs.map W.str),dW] h=.ok (.str (Qbe (nxS ks vs) (fun y=>Qa6 y dead) name 31 name)) h:=by
 rw[Qak hg rfl]
 have nd:([name]:List Str).Nodup:=by simp
 obtain⟨fl,c,e,q⟩:=Qhg (cf:=Qae fw tb d) (fw:=fw) (name:=name) (ks:=ks) (vs:=vs) (dead:=dead) (P:=P) (m:=30) (h:=h) hdW hP hv hl fw [name] [.bl true] name nd (by simp[hn]) rfl (by simp;omega) (by simp) (by omega)
 have hq:QeH (nxS ks vs) (fun y=>Qa6 y dead) fw [name] name=Qbe (nxS ks vs) (fun y=>Qa6 y dead) name 31 name :=
  QfZ hP (fun x y e=>hv y (Qep e)) fw 31 [name] name nd (by simp[hn]) (by simp) (by simp) (by simp) (fun q hq hq2=>absurd (List.mem_singleton.mp hq) hq2) (by simp;omega) (by simp)
 rw[hq]at q
 show J.fin h.length (exB (Qae fw tb d) fw Qfw [some (.str name),some (.dic ks (vs.map W.str)),some dW,none,none] h)=_
 have s1:exB (Qae fw tb d) fw Qfw [some (.str name),some (.dic ks (vs.map W.str)),some dW,none,none] h=.ok (.ret (.str (Qbe (nxS ks vs) (fun y=>Qa6 y dead) name 31 name))) (h++[c]):=by
  refine(Qab (σ':=[some (.str name),some (.dic ks (vs.map W.str)),some dW,some (.ref h.length),none]) (h':=h++[.dic [name] [.bl true]]) ?_).trans ?_
  ·rw[exS,Qaa (i:=0) (w:=.str name) rfl,bnd_ok,Qaj,bnd_ok]
   rw[Qa8]
   dsimp only
   rw[if_pos (show Qan (.bl true)=true from rfl),Qbl]
   rfl
  refine(Qab (Qaf (Qaa (i:=0) rfl))).trans ?_
  have lp:exS (Qae fw tb d) fw (.while_ (.cmp .In (.var 4) (.var 1)) Qiv) [some (.str name),some (.dic ks (vs.map W.str)),some dW,some (.ref h.length),some (.str name)] (h++[.dic [name] [.bl true]])=.ok fl (h++[c]):=by
   rw[exS];exact e
  rcases q with rfl | ⟨⟨σ',rfl⟩,q⟩
  ·exact Qal lp
  ·refine(Qab lp).trans (Qal (Qa2 ?_))
   rw[q]
   exact Qaj
 rw[s1]
 exact QiL
theorem Qck {cf:CF}{a b:E}{σ:Qai}{h:Qac}{x y:Bool} (e:evT cf a σ h=.ok x h) (e2:evT cf b σ h=.ok y h):evT cf (.and_ a b) σ h=.ok (x&&y) h:=by
 cases x with
 |true=>exact Qdv e e2
 |false=>exact Qf3 e
theorem Qds {cf:CF}{a:E}{x:Int}{C:Nat}{σ:Qai}{h:Qac} (ea:evE cf a σ h=.ok (.int x) h) (h0:0<C) (hz:C<2 ^ 10):evE cf (.bin .FloorDiv a (.con (nat C))) σ h=.ok (.int (x.fdiv (C:Int))) h:=by
 refine Qbj ea Qaj (QlF _ (by omega) ?_)
 rw[Int.natAbs_natCast]
 exact Qee (lt9 hz) (by decide)
theorem ev_gtN {cf:CF}{a b:E}{m n:Nat}{σ:Qai}{h:Qac} (ea:evE cf a σ h=.ok (nat m) h) (eb:evE cf b σ h=.ok (nat n) h):evT cf (.cmp .Gt a b) σ h=.ok (decide (n<m)) h:=by
 refine Qa5 ((Qbp ea eb (Ql7 _ _ _)).trans ?_)
 congr 2
 exact decide_eq_decide.mpr (by omega)
theorem ix_P {P:List Str}{j:Nat} (hj:j<P.length) (h:Qac):∃ s∈P,ixW (.lst (P.map W.str)) (nat j) h=.ok (.str s) h:=by
 refine⟨P[j],List.getElem_mem hj,ix_L ?_⟩
 rw[QbE,List.getElem?_map,List.getElem?_eq_getElem hj]
 rfl
theorem Qi3 {cf:CF}{fw i:Nat}{c k e:E}{σ:Qai}{h:Qac}{ks vs P:List Str}{b:Bool} (ec:evT cf c σ (h++[.dic ks (vs.map W.str)])=.ok b (h++[.dic ks (vs.map W.str)])) (hs:σ[i]?=some (some (.ref h.length)))
  (ek:b=true→∃ x y,evE cf k σ (h++[.dic ks (vs.map W.str)])=.ok (.str x) (h++[.dic ks (vs.map W.str)])∧evE cf e σ (h++[.dic ks (vs.map W.str)])=.ok (.str y) (h++[.dic ks (vs.map W.str)])∧y∈P) (hl:ks.length=vs.length) (hP:∀ v∈vs,v∈P) (hz:ks.length≤1000) :
  ∃ ks' vs':List Str,exS cf fw (.if_ c [.setix (.var i) k e] []) σ (h++[.dic ks (vs.map W.str)])=.ok (.nx σ) (h++[.dic ks' (vs'.map W.str)])∧ks'.length=vs'.length∧ks'.length≤ks.length+1∧∀ v∈vs',v∈P:=by
 cases b with
 |false=>exact⟨ks,vs,Qbf ec,hl,by omega,hP⟩
 |true =>
  obtain⟨x,y,e1,e2,hy⟩:=ek rfl
  obtain⟨ks',us,q1,q2,q3,q4,_⟩:=Qg5 ks vs x y hl
  refine⟨ks',us,(Qea ec).trans ((Qab (QeB hs Qa8 e1 e2 rfl (by omega))).trans ?_),q2,q3,fun v hv=>?_⟩
  ·rw[exB,q1,Qbl]
  ·rcases q4 v hv with rfl | h
   ·exact hy
   ·exact hP v h
theorem Qj6 {cf:CF}{a:E}{σ:Qai}{h:Qac}{ks:List Str}{ws:List W} (ea:evE cf a σ h=.ok (.dic ks ws) h):evE cf (.blt .len [a]) σ h=.ok (nat ks.length) h:=by
 rw[evE,Qad ea Qag,bnd_ok];rfl
theorem Qm2 {cf:CF}{a:E}{σ:Qai}{h:Qac}{ks:List Str}{ws:List W} (ea:evE cf a σ h=.ok (.dic ks ws) h):evE cf (.blt .dict [a]) σ h=.ok (.dic ks ws) h:=by
 rw[evE,Qad ea Qag,bnd_ok];rfl
theorem Qdf {cf:CF}{a:E}{σ:Qai}{h:Qac}{us:List W} (ea:evE cf a σ h=.ok (.lst us) h):evE cf (.blt .list [a]) σ h=.ok (.lst us) h:=by
 rw[evE,Qad ea Qag,bnd_ok];rfl
theorem Qmm {cf:CF}{a b:E}{m n:Nat}{σ:Qai}{h:Qac} (ea:evE cf a σ h=.ok (nat m) h) (eb:evE cf b σ h=.ok (nat n) h):evE cf (.cmp .Eq a b) σ h=.ok (.bl (decide (m=n))) h:=by
 refine(Qbp ea eb (Qlx _ _ _)).trans ?_
 congr 2
 exact decide_eq_decide.mpr (by omega)
theorem Qdi {n:Nat}{src:Option Nat}{f:W→Qac→Res (Option W)}{p:Str→Bool}{h:Qac} (hn:h.length=n):∀ (ss us:List Str),(∀ s∈ss,∀ us,f (.str s) (h++[.lst us])=.ok (if p s then some (.str s) else none) (h++[.lst us]))→us.length+ss.length≤100000 →
  lc n src f (ss.map W.str) (h++[.lst (us.map W.str)])=.ok () (h++[.lst ((us++ss.filter p).map W.str)])
 |[],us,_,_=>by rw[List.map_nil,lc];simp
 |s::ss,us,hf,hl=>by
  rw[List.length_cons]at hl
  have e:=hf s List.mem_cons_self (us.map W.str)
  rw[List.map_cons,lc,e,bnd_ok,if_pos (fun k _=>rfl)]
  cases hp:p s with
  |false =>
   rw[if_neg (by decide)]
   dsimp only
   rw[Qdi hn ss us (fun w' hw'=>hf w' (List.mem_cons_of_mem _ hw')) (by omega),List.filter_cons_of_neg (by rw[hp];decide)]
  |true =>
   rw[if_pos rfl]
   dsimp only
   rw[← hn,Qa8]
   dsimp only
   rw[if_pos ⟨rfl,by rw[sizeLine_eq,List.length_map];omega⟩,Qbl]
   have:=Qdi (src:=src) rfl ss (us++[s]) (fun w' hw'=>hf w' (List.mem_cons_of_mem _ hw')) (by rw[List.length_append,List.length_singleton];omega)
   rw[List.map_append,List.map_singleton]at this
   rw[this,List.filter_cons_of_pos hp]
   simp
noncomputable def smC (s:Str):Prop:=∀ c∈s.cps.toList,c<1000
theorem Qgh {a b:Str} (ha:smC a) (hb:smC b):smC (a++b):=fun c hc=>by
 have e:(a++b).cps.toList=a.cps.toList++b.cps.toList:=by
  show (a.cps++b.cps).toList=_
  simp
 rw[e]at hc
 exact(List.mem_append.mp hc).elim (ha c) (hb c)
theorem QfD {a:Str}{l u:Option Int} (ha:smC a):smC (Txt.slice a l u):=fun c hc=>by
 unfold Txt.slice at hc
 split at hc
 ·exact ha c hc
 ·simp only[List.toList_toArray]at hc
  obtain⟨i,_,e⟩:=List.mem_filterMap.mp hc
  exact ha c (Array.mem_toList_iff.mpr (Array.mem_of_getElem? e))
theorem Qgg {a:Str}{n:Int} (ha:smC a):smC (Txt.mul a n):=fun c hc=>by
 unfold Txt.mul at hc
 split at hc
 ·cases hc
 ·split at hc
  ·exact ha c hc
  ·have:∀ (l:List (Array Nat)) (acc:Array Nat),(∀ x∈l,x=a.cps)→(∀ c∈acc.toList,c<1000)→∀ c∈(l.foldl (fun x1 x2=>x1++x2) acc).toList,c<1000:=by
    intro l
    induction l with
    |nil=>intro acc _ h;exact h
    |cons x l ih =>
     intro acc hx h
     refine ih (acc++x) (fun y hy=>hx y (List.mem_cons_of_mem _ hy)) fun c hc=>?_
     rw[Array.toList_append]at hc
     rcases List.mem_append.mp hc with hc | hc
     ·exact h c hc
     ·rw[hx x List.mem_cons_self]at hc;exact ha c hc
   exact this _ #[] (fun x hx=>(List.mem_replicate.mp hx).2) (by simp) c hc
theorem Qd0 (n:Nat):smC (ltr n):=fun c hc=>by
 have e:c=abc.cps.toList.getD n 0:=by simpa [ltr] using hc
 rw[e,List.getD]
 cases h:abc.cps.toList[n]? with
 |none=>decide
 |some x =>
  have:∀ y∈abc.cps.toList,y<1000:=by decide
  exact this x (List.mem_of_getElem? h)
theorem QkA (how shift k:Nat):smC (QaQ how shift k):=by
 unfold QaQ
 split
 ·exact Qgh (Qgh (Qgh (QfD (Qgg (Qd0 _))) (Qd0 _)) (Qd0 _)) (QfD (Qgg (Qd0 _)))
 ·exact Qgg (Qd0 _)
noncomputable def QeF (s:Str):Prop:=s.length≤100∧smC s
theorem Qmr (how shift k:Nat):QeF (QaQ how shift k):=⟨Nat.le_trans (QkP how shift k) (by decide),QkA how shift k⟩
theorem Qkv:QeF Qbm:=⟨by decide,by unfold smC;decide⟩
theorem Qf4 {t:W}{ws:List W}{h:Qac}{k:Nat}{w:W} (hs:seqA h t=some ws) (e:ws[k]?=some w):ixW t (nat k) h=.ok w h:=by
 have z:∀ (t:W),seqA h t=some ws→(match seqA h t with | some ws=>(match L2.atI ws ((k:Nat):Int) with | some w=>Res.ok w h | none=>.stuck) | none=>.stuck)=.ok w h:=fun t ht=>by
  rw[ht]
  dsimp only
  rw[QbE,e]
 cases t with
 |str x=>cases hs
 |_=>exact z _ hs
theorem Qhd {cf:CF}{a b:E}{x y:Int}{σ:Qai}{h:Qac} (ea:evE cf a σ h=.ok (.int x) h) (eb:evE cf b σ h=.ok (.int y) h):evT cf (.cmp .Gt a b) σ h=.ok (decide (y<x)) h:=Qa5 (Qbp ea eb (Ql7 _ _ _))
theorem QbI {cf:CF}{i n:Nat}{a c:E}{σ:Qai}{h:Qac}{x:W}{ss:List Str}{p:Str→Bool} (ea:evE cf a σ h=.ok x h) (hs:seqA h x=some (ss.map W.str)) (hm:ss.length≤1000)
  (hF:∀ s∈ss,∀ hh,evT cf c ((clr [i] σ++List.replicate n none).set i (some (.str s))) hh=.ok (p s) hh) (hi:i<σ.length+n):evE cf (.compS [i] n a [c] (.var i)) σ h=.ok (.lst ((ss.filter p).map W.str)) h:=by
 rw[evE,ea,bnd_ok,Qgm hs]
 dsimp only
 have:=Qdi (n:=h.length) (src:=Qd8 x) (f:=fun w h=>QbJ (QaG [i] w (clr [i] σ++List.replicate n none)) (Qc2 cf [c]) (evE cf (.var i)) h) (p:=p) (h:=h) rfl ss [] (fun s hs us=>by
  have t:=hF s hs (h++[.lst us])
  show bnd (Qc2 cf [c] _ _) _=_
  rw[Qc2]
  have t':tst (evE cf c ((clr [i] σ++List.replicate n none).set i (some (.str s))) (h++[.lst us]))=.ok (p s) (h++[.lst us]):=t
  rw[t',bnd_ok]
  cases hp:p s with
  |false=>rw[if_neg (by decide),bnd_ok,if_neg (by decide),if_neg (by decide)]
  |true =>
   rw[if_pos rfl,Qc2,bnd_ok,if_pos rfl,if_pos rfl,Qaa (w:=.str s),bnd_ok]
   rw[List.getElem?_set_self]
   simp[clr]
   omega) (by simp;omega)
 rw[List.map_nil]at this
 rw[this,QcT rfl,List.nil_append]
structure Pt where
 p:Nat
 q:Nat
 hs:List Str
 tr:List W
noncomputable def bhW (tr:List W) (dd nn:Nat) (s:Nat×Nat) (hs:List Str):W:=.tup [shp s,.tup (hs.map W.str),.tup (tr++[.tup [nat dd,nat nn,shp s,.tup (hs.map W.str)]])]
noncomputable def ptW (x:Pt):W:=.tup [sh x.p x.q,.tup (x.hs.map W.str),.tup x.tr]
structure Pt.Ok (x:Pt):Prop where
 q0:0<x.q
 p1:x.p≤1000
 q1:x.q≤1000
 h0:1≤x.hs.length
 h1:x.hs.length≤6
 nm:∀ s∈x.hs,QeF s
 pu:Qam x.tr=true
 oq:Qdh x.tr=true
 dp:QcX x.tr≤4
 tl:x.tr.length≤100
theorem Qiz {x:Pt} (h:x.Ok):Qan (ptW x)=true:=by
 simp[ptW,Qan,Qam,Qaz,h.pu]
theorem Qei:∀ {a b:List W},Qdh a=true→Qdh b=true→Qdh (a++b)=true
 |[],_,_,h=>h
 |w::a,b,h1,h2=>by
  rw[Qdh,Bool.and_eq_true]at h1
  show Qdh (w::(a++b))=true
  rw[Qdh,h1.1,Qei h1.2 h2];rfl
theorem Qer {a b n:Nat}:Nat.max a b≤n↔a≤n∧b≤n:=Nat.max_le
theorem Qef:∀ {a b:List W}{n:Nat},QcX a≤n→QcX b≤n→QcX (a++b)≤n
 |[],_,_,_,h=>h
 |w::a,b,n,h1,h2=>by
  rw[QcX,Qer]at h1
  show QcX (w::(a++b))≤n
  rw[QcX,Qer]
  exact⟨h1.1,Qef h1.2 h2⟩
theorem Qmg {tr:List W}{dd nn:Nat}{s:Nat×Nat}{hs:List Str} (h:Qam tr=true):Qan (bhW tr dd nn s hs)=true:=by
 have:Qam (tr++[.tup [nat dd,nat nn,shp s,.tup (hs.map W.str)]])=true:=QcW h (by simp[Qan,Qam,Qaz])
 simp[bhW,Qan,Qam,Qaz,this]
theorem pt_ok {x:Pt} (h:x.Ok):okQ (ptW x)=true∧dep (ptW x)≤7:=by
 have h6:=h.h1
 have ht:=h.tl
 have hh':x.hs.length≤100000:=by omega
 have e:x.tr.length≤100000:=by omega
 have hd:=h.dp
 constructor
 ·simp[ptW,okQ,Qdh,Qcn,h.oq,hh',e]
 ·simp only[ptW,dep,QcX,Qcw,Qer,Nat.reduceLeDiff,Nat.zero_le,and_true,true_and]
  omega
theorem Qhj:∀ {ws:List W},(∀ w∈ws,okQ w=true)→Qdh ws=true
 |[],_=>rfl
 |w::ws,h=>by rw[Qdh,h w List.mem_cons_self,Qhj fun u hu=>h u (List.mem_cons_of_mem _ hu)];rfl
theorem Qhh {n:Nat}:∀ {ws:List W},(∀ w∈ws,dep w≤n)→QcX ws≤n
 |[],_=>by rw[QcX];exact Nat.zero_le _
 |w::ws,h=>by
  rw[QcX,Qer]
  exact⟨h w List.mem_cons_self,Qhh (n:=n) fun u hu=>h u (List.mem_cons_of_mem _ hu)⟩
theorem Qfm:∀ {ws:List W},(∀ w∈ws,Qan w=true)→Qam ws=true
 |[],_=>rfl
 |w::ws,h=>by rw[Qam,h w List.mem_cons_self,Qfm fun u hu=>h u (List.mem_cons_of_mem _ hu)];rfl
noncomputable abbrev Qdt:List S:=[.ret (.tup [(.var 3),(.var 4),(.bin .Add (.var 0) (.tup [(.tup [(.var 1),(.var 2),(.var 3),(.var 4)])]))])]
theorem QdJ {fw:Nat}{tb:List Fn}{f:Nat} (hg:tb[f]?=some ⟨5,5,Qdt,none⟩) (d dd nn:Nat) (s:Nat×Nat) (hs:List Str) (tr:List W) (ht:Qam tr=true) (hl:tr.length≤1000) (h:Qac) :
  Qae fw tb (d+1) f [.tup tr,nat dd,nat nn,shp s,.tup (hs.map W.str)] h=.ok (bhW tr dd nn s hs) h:=by
 rw[Qak hg rfl]
 let σ:Qai:=[some (.tup tr),some (nat dd),some (nat nn),some (shp s),some (.tup (hs.map W.str))]
 show J.fin h.length (exB (Qae fw tb d) fw Qdt σ h)=_
 have e:exB (Qae fw tb d) fw Qdt σ h=.ok (.ret (bhW tr dd nn s hs)) h:=by
  refine Qal (Qa2 (QaI (Qad (Qaa (i:=3) rfl) (Qad (Qaa (i:=4) rfl) (Qad (Qbj (Qaa (i:=0) rfl) (QaI (Qad (QaI (Qad (Qaa (i:=1) rfl) (Qad (Qaa (i:=2) rfl) (Qad (Qaa (i:=3) rfl) (Qad (Qaa (i:=4) rfl) Qag)))) (by show 4≤1000;decide)) Qag) (by show 1≤1000;decide)) ?_) Qag))) (by show 3≤1000;decide)))
  show okT (QfO (some tr) (some [_]) h)=_
  unfold QfO
  dsimp only
  rw[if_pos (by rw[sizeLine_eq];show tr.length+1≤_;omega)]
  rfl
 rw[e]
 have hp:Qan (bhW tr dd nn s hs)=true:=Qmg ht
 unfold bhW at hp ⊢
 rw[Qan]at hp
 exact Qbz hp
noncomputable abbrev Qj2:List S:=[.par 2 3 (.var 3) (.bin .Mod (.var 2) (.var 3))]
noncomputable abbrev QmL:List S:=[.par 2 3 (.var 0) (.var 1),.while_ (.cmp .NotEq (.var 3) (.con (.int 0))) Qj2,.ret (.tup [(.bin .FloorDiv (.var 0) (.var 2)),(.bin .FloorDiv (.var 1) (.var 2))])]
theorem QeL (cf:CF) (fw:Nat) (h:Qac) (u v:Option W):∀ (n a b:Nat),b<n →
  wh (evT cf (.cmp .NotEq (.var 3) (.con (.int 0)))) (exB cf fw Qj2) n [u,v,some (nat a),some (nat b)] h=.ok (.nx [u,v,some (nat (Nat.gcd a b)),some (nat 0)]) h
 |0,a,b,hb=>absurd hb (Nat.not_lt_zero b)
 |n+1,a,b,hb=>by
  have t:=QgH (cf:=cf) (σ:=[u,v,some (nat a),some (nat b)]) (h:=h) (a:=.var 3) (b:=.con (.int 0)) (m:=b) (n:=0) (Qaa rfl) Qah
  by_cases z:b=0
  ·subst z
   rw[decide_eq_true rfl]at t
   rw[Qeg t,Nat.gcd_zero_right]
  ·rw[decide_eq_false z]at t
   have e:=QeL cf fw h u v n b (a % b) (Nat.lt_of_lt_of_le (Nat.mod_lt a (Nat.pos_of_ne_zero z)) (by omega))
   have g:Nat.gcd a b=Nat.gcd b (a % b):=by rw[Nat.gcd_comm a b,Nat.gcd_rec b a,Nat.gcd_comm]
   rw[Qez (h2:=h) (σ':=[u,v,some (nat b),some (nat (a % b))]) t,e,g]
   refine(Qab (σ':=[u,v,some (nat b),some (nat (a % b))]) (h':=h) ?_).trans (by rw[exB])
   rw[exS,Qaa (i:=3) (w:=nat b) rfl,bnd_ok,QaU (m:=a) (n:=b) (Qaa (i:=2) rfl) (Qaa (i:=3) rfl) (Nat.pos_of_ne_zero z),bnd_ok]
   rfl
noncomputable abbrev QfI (a : Nat) : List S := [.asg 2 (.call a [(.var 0), (.con (.int 0))]),
 .if_ (.var 1) [.ret (.bin .Sub (.con (.int 60)) (.bin .Mult (.bin .Mod (.var 2) (.con (.int 2))) (.bin .Mod (.bin .FloorDiv (.var 2) (.con (.int 2))) (.con (.int 6)))))] [],
 .ret (.bin .Add (.con (.int 1)) (.bin .Mod (.var 2) (.con (.int 8))))]
theorem QiE {fw:Nat}{tb:List Fn}{f a:Nat} (hf:tb[f]?=some ⟨2,3,QfI a,none⟩) (ha:tb[a]?=some ⟨2,2,bAt,none⟩) (d:Nat) (ns:List Int) (b:Bool) (h:Qac):∃ m:Nat,Qae fw tb (d+2) f [.scr (ns.map W.int),.bl b] h=.ok (nat m) h∧1≤m∧m≤60:=by
 rw[Qak hf rfl]
 have c:∀ (k:Nat) (h:Qac),Qae fw tb (d+1) a [.scr (ns.map W.int),.int (k:Int)] h=.ok (.int (cell ns k)) h:=fun k h=>Qff ha d ns k h
 generalize Qae fw tb (d+1)=cf at *
 obtain⟨x,e1,h1⟩:=QaB (cell ns 0) (show 0<2 by decide)
 obtain⟨y,e2,h2⟩:=QaB ((cell ns 0).fdiv ((2:Nat):Int)) (show 0<6 by decide)
 obtain⟨v,e3,h3⟩:=QaB (cell ns 0) (show 0<8 by decide)
 let z:Option W:=some (.scr (ns.map W.int))
 have s0:exS cf fw (.asg 2 (.call a [(.var 0),(.con (.int 0))])) [z,some (.bl b),none] h=.ok (.nx [z,some (.bl b),some (.int (cell ns 0))]) h:=Qaf (QlP (i:=0) c rfl 0)
 have hxy:x*y≤60:=Nat.le_trans (Nat.mul_le_mul (show x≤1 by omega) (show y≤5 by omega)) (by decide)
 cases b with
 |true =>
  refine⟨60-x*y,?_,?_,by omega⟩
  ·show J.fin h.length (exB cf fw (QfI a) [z,some (.bl true),none] h)=_
   have e:exB cf fw (QfI a) [z,some (.bl true),none] h=.ok (.ret (nat (60-x*y))) h:=by
    refine(Qab s0).trans (Qal ((Qea (Qa5 (Qaa (i:=1) rfl))).trans (Qal (Qa2 ?_))))
    refine(Qbj Qaj (Qbg (m:=x) (n:=y) (Qax (C:=2) (Qaa (i:=2) rfl) Qah (by decide) e1) (Qax (C:=6) (Qds (C:=2) (Qaa (i:=2) rfl) (by decide) (by decide)) Qah (by decide) e2) (Qb5 ⟨by omega,by omega⟩)) (op_Sub _ _ _)).trans ?_
    have ee:(60:Int)-((x*y:Nat):Int)=((60-x*y:Nat):Int):=by omega
    rw[ee]
   rw[e]
   exact Qjc
  ·have:x*y≤5:=Nat.le_trans (Nat.mul_le_mul (show x≤1 by omega) (show y≤5 by omega)) (by decide)
   omega
 |false =>
  refine⟨1+v,?_,by omega,by omega⟩
  show J.fin h.length (exB cf fw (QfI a) [z,some (.bl false),none] h)=_
  have e:exB cf fw (QfI a) [z,some (.bl false),none] h=.ok (.ret (nat (1+v))) h:=(Qab s0).trans ((Qab (Qbf (Qa5 (Qaa (i:=1) rfl)))).trans (Qal (Qa2 (Qay (m:=1) Qah (Qax (C:=8) (Qaa (i:=2) rfl) Qah (by decide) e3)))))
  rw[e]
  exact Qjc
noncomputable abbrev tMade (a wi : Nat) : List S := [.asg 6 (.bin .Add (.call a [(.var 0), (.bin .Add (.var 1) (.bin .Mod (.var 5) (.con (.int 7))))]) (.bin .FloorDiv (.var 5) (.con (.int 7)))),
 .asg 7 (.call a [(.var 0),(.bin .Add (.bin .Add (.var 1) (.con (.int 7))) (.bin .Mod (.var 5) (.con (.int 5))))]),
 .asg 8 (.ix (.lst [(.con (.int 1)),(.con (.int 2)),(.con (.int 3)),(.con (.int 1)),(.con (.int 4)),(.con (.int 6)),(.con (.int 1)),(.con (.int 5)),(.con (.int 2))]) (.bin .Mod (.bin .Add (.var 6) (.var 5)) (.con (.int 9)))),
 .asg 13 (.bin .Add (.bin .FloorDiv (.var 6) (.con (.int 9))) (.bin .Mult (.var 5) (.bin .Mod (.var 7) (.con (.int 5))))),
 .asg 9 (.compR [14] 1 [(.blt .min [(.var 8),(.blt .len [(.var 3)])])] [] (.ix (.var 3) (.bin .Mod (.bin .Add (.var 13) (.var 14)) (.blt .len [(.var 3)])))),
 .if_ (.and_ (.cmp .Eq (.bin .Mod (.bin .Add (.var 6) (.var 5)) (.con (.int 9))) (.con (.int 6))) (.cmp .Eq (.bin .Mod (.var 7) (.con (.int 2))) (.con (.int 0)))) [.asg 9 (.lst [(.con (.str "CROWN"))])] [],
 .asg 10 (.bin .Add (.con (.int 1)) (.bin .Mod (.bin .Add (.bin .FloorDiv (.var 7) (.con (.int 5))) (.var 5)) (.con (.int 9)))),
 .asg 11 (.tup [(.var 10),(.bin .Add (.bin .Mult (.var 10) (.bin .Add (.con (.int 1)) (.bin .Mod (.bin .Add (.bin .FloorDiv (.var 6) (.con (.int 3))) (.var 5)) (.con (.int 12))))) (.con (.int 1)))]),
 .asg 12 (.tup [(.tup [(.con (.int 1)),(.con (.int 1)),(.tup [(.con (.int 1)),(.con (.int 1))]),(.tup [(.ix (.var 3) (.con (.int 0)))])])]),
 .exp (.meth .append (.var 4) [(.call wi [(.var 12), (.bin .Add (.con (.int 2)) (.var 5)), (.bin .Add (.var 5) (.con (.int 1))), (.var 11), (.blt .tuple [(.blt .sorted [(.var 9)])])])])]
noncomputable abbrev Qnv (a wi:Nat):List S:=[.fresh 4 (.lst []),.for_ [5] (.rng [(.var 2)]) (tMade a wi),.ret (.var 4)]
theorem QbA {cf:CF}{a b:E}{x y:Int}{σ:Qai}{h:Qac} (ea:evE cf a σ h=.ok (.int x) h) (eb:evE cf b σ h=.ok (.int y) h):evE cf (.bin .Add a b) σ h=.ok (.int (x+y)) h:=Qbj ea eb (QlH _ _ _)
theorem Qgb {cf:CF}{a b:E}{m n:Nat}{σ:Qai}{h:Qac} (ea:evE cf a σ h=.ok (nat m) h) (eb:evE cf b σ h=.ok (nat n) h):evE cf (.blt .min [a,b]) σ h=.ok (nat (min m n)) h:=by
 rw[evE,QaL ea eb,bnd_ok]
 show okI (if (n:Int)<(m:Int) then (n:Int) else (m:Int)) h=_
 by_cases hl:n<m
 ·rw[if_pos (by omega),Nat.min_eq_right (by omega)];rfl
 ·rw[if_neg (by omega),Nat.min_eq_left (by omega)];rfl
theorem len_P {cf:CF}{i:Nat}{P:List Str}{σ:Qai}{h:Qac} (hs:σ[i]?=some (some (.lst (P.map W.str)))):evE cf (.blt .len [(.var i)]) σ h=.ok (nat P.length) h:=(Qbs (x:=.lst (P.map W.str)) (Qaa hs) rfl).trans (by rw[List.length_map])
noncomputable def HsP (P hs:List Str):Prop:=(P.Nodup→hs.Nodup)∧(hs=[Qbm]∨∀ s∈hs,s∈P)
theorem HsP.perm {P hs us:List Str} (h:HsP P hs) (p:us.Perm hs):HsP P us:=by
 refine⟨fun z=>p.nodup_iff.mpr (h.1 z),?_⟩
 rcases h.2 with e | e
 ·subst e;exact .inl (List.perm_singleton.mp p)
 ·exact .inr fun s hs=>e s (p.mem_iff.mp hs)
theorem QdX {P:List Str} (hP:P.Nodup) {m:Nat}{G:Nat→Nat} (hb:∀ j<m,G j<P.length) (hi:∀ j<m,∀ k<m,G j=G k→j=k):((List.range m).map fun j=>P.getD (G j) Qbm).Nodup:=by
 refine List.pairwise_map.mpr (List.Pairwise.imp_of_mem (R:=fun a b=>a≠b) (fun {a b} ha hb' hab e=>?_) List.nodup_range)
 have h1:=hb a (List.mem_range.mp ha)
 have h2:=hb b (List.mem_range.mp hb')
 rw[List.getD,List.getElem?_eq_getElem h1,List.getD,List.getElem?_eq_getElem h2]at e
 exact hab (hi a (List.mem_range.mp ha) b (List.mem_range.mp hb') ((List.getElem_inj hP).mp e))
theorem QkF {S:Int}{L j k:Nat} (hL:0<L) (hj:j<L) (hk:k<L) (e:((S+(j:Int)).fmod (L:Int)).toNat=((S+(k:Int)).fmod (L:Int)).toNat):j=k:=by
 rw[Int.fmod_eq_emod_of_nonneg _ (by omega),Int.fmod_eq_emod_of_nonneg _ (by omega)]at e
 have h1:=Int.emod_nonneg (S+j) (show (L:Int)≠0 by omega)
 have h2:=Int.emod_nonneg (S+k) (show (L:Int)≠0 by omega)
 have e2:(S+j) % (L:Int)=(S+k) % (L:Int):=by omega
 have e3:=Int.emod_eq_emod_iff_emod_sub_eq_zero.mp e2
 have e4:(L:Int) ∣ ((j:Int)-k):=by
  have:=Int.dvd_of_emod_eq_zero e3
  rwa [show S+(j:Int)-(S+k)=(j:Int)-k by omega]at this
 obtain⟨c,hc⟩:=e4
 have:c=0:=by
  rcases Int.lt_trichotomy c 0 with h | h | h
  ·have:(L:Int)*c≤(L:Int)*(-1):=Int.mul_le_mul_of_nonneg_left (by omega) (by omega)
   omega
  ·exact h
  ·have:(L:Int)*1≤(L:Int)*c:=Int.mul_le_mul_of_nonneg_left (by omega) (by omega)
   omega
 subst this
 omega
theorem QhW {fw:Nat}{tb:List Fn}{f a wi:Nat} (hf:tb[f]?=some ⟨4,14,Qnv a wi,none⟩) (ha:tb[a]?=some ⟨2,2,bAt,none⟩) (hw:tb[wi]?=some ⟨5,5,Qdt,none⟩) (d:Nat) (ns:List Int) (j0 m:Nat) (P:List Str) (h:Qac) (hm:m≤60) (p1:0<P.length) (p2:P.length≤100) (pn:∀ s∈P,QeF s) :
  ∃ xs:List Pt,Qae fw tb (d+2) f [.scr (ns.map W.int),nat j0,nat m,.lst (P.map W.str)] h=.ok (.lst (xs.map ptW)) h∧xs.length=m∧∀ x∈xs,x.Ok∧HsP P x.hs∧1≤x.p∧x.q≤109:=by
 rw[Qak hf rfl]
 have c:∀ (k:Nat) (h:Qac),Qae fw tb (d+1) a [.scr (ns.map W.int),.int (k:Int)] h=.ok (.int (cell ns k)) h:=fun k h=>Qff ha d ns k h
 have bw:=fun (dd nn:Nat) (s:Nat×Nat) (hs:List Str) (tr:List W) (ht:Qam tr=true) (hl:tr.length≤1000) (h:Qac)=>QdJ (fw:=fw) hw d dd nn s hs tr ht hl h
 generalize Qae fw tb (d+1)=cf at *
 let z:Option W:=some (.scr (ns.map W.int))
 let pp:Option W:=some (.lst (P.map W.str))
 let Iv:Nat→Qai→Qac→Prop:=fun k σ hh=>∃ r5 r6 r7 r8 r9 r10 r11 r12 r13,∃ xs:List Pt,σ=[z,some (nat j0),some (nat m),pp,some (.ref h.length),r5,r6,r7,r8,r9,r10,r11,r12,r13]∧hh=h++[.lst (xs.map ptW)]∧xs.length=k∧∀ x∈xs,x.Ok∧HsP P x.hs∧1≤x.p∧x.q≤109
 have lp:∃ σ2 hh,fo [5] (exB cf fw (tMade a wi)) ((List.range m).map fun (k:Nat)=>W.int (0+(k:Int))) [z,some (nat j0),some (nat m),pp,some (.ref h.length),none,none,none,none,none,none,none,none,none] (h++[.lst []])=.ok (.nx σ2) hh∧Iv m σ2 hh:=by
  refine Qfv (fun k σ hh hk q=>?_) ⟨none,none,none,none,none,none,none,none,none,[],rfl,rfl,rfl,by simp⟩
  obtain⟨r5,r6,r7,r8,r9,r10,r11,r12,r13,xs,rfl,rfl,l1,l2⟩:=q
  let hh:Qac:=h++[.lst (xs.map ptW)]
  let A:Int:=cell ns (j0+k % 7)+((k / 7:Nat):Int)
  let B:Int:=cell ns (j0+7+k % 5)
  obtain⟨i9,e9,h9⟩:=QaB (A+(k:Int)) (show 0<9 by decide)
  obtain⟨b5,e5,h5⟩:=QaB B (show 0<5 by decide)
  obtain⟨b2,e2,h2⟩:=QaB B (show 0<2 by decide)
  obtain⟨t9,et,ht⟩:=QaB (B.fdiv ((5:Nat):Int)+(k:Int)) (show 0<9 by decide)
  obtain⟨t12,eu,hu⟩:=QaB (A.fdiv ((3:Nat):Int)+(k:Int)) (show 0<12 by decide)
  let S:Int:=A.fdiv ((9:Nat):Int)+((k*b5:Nat):Int)
  obtain⟨sz,esz,hs1,hs6⟩:∃ sz:Nat,L2.atI [nat 1,nat 2,nat 3,nat 1,nat 4,nat 6,nat 1,nat 5,nat 2] ((i9:Nat):Int)=some (nat sz)∧1≤sz∧sz≤6:=by
   rw[QbE]
   have:∀ j<9,∃ sz:Nat,([nat 1,nat 2,nat 3,nat 1,nat 4,nat 6,nat 1,nat 5,nat 2]:List W)[j]?=some (nat sz)∧1≤sz∧sz≤6:=by
    intro j hj
    match j,hj with
    |0,_=>exact⟨1,rfl,by decide,by decide⟩
    |1,_=>exact⟨2,rfl,by decide,by decide⟩
    |2,_=>exact⟨3,rfl,by decide,by decide⟩
    |3,_=>exact⟨1,rfl,by decide,by decide⟩
    |4,_=>exact⟨4,rfl,by decide,by decide⟩
    |5,_=>exact⟨6,rfl,by decide,by decide⟩
    |6,_=>exact⟨1,rfl,by decide,by decide⟩
    |7,_=>exact⟨5,rfl,by decide,by decide⟩
    |8,_=>exact⟨2,rfl,by decide,by decide⟩
    |n+9,h=>omega
   exact this i9 h9
  let F:Nat→Str:=fun j=>P.getD ((S+(j:Int)).fmod (P.length:Int)).toNat Qbm
  have hF:∀ j,F j∈P∧∃ i:Nat,(S+(j:Int)).fmod (P.length:Int)=(i:Int)∧∀ hh,ixW (.lst (P.map W.str)) (nat i) hh=.ok (.str (F j)) hh:=fun j=>by
   obtain⟨i,ei,hi⟩:=QaB (S+(j:Int)) p1
   have e:F j=P[i]:=by
    show P.getD ((S+(j:Int)).fmod (P.length:Int)).toNat Qbm=_
    rw[ei,Int.toNat_natCast,List.getD,List.getElem?_eq_getElem hi]
    rfl
   refine⟨by rw[e];exact List.getElem_mem hi,i,ei,fun hh=>ix_L ?_⟩
   rw[QbE,List.getElem?_map,List.getElem?_eq_getElem hi,e]
   rfl
  let mm:Nat:=min sz P.length
  let hs0:List Str:=(List.range mm).map F
  have hmm:1≤mm∧mm≤6:=⟨by show 1≤min sz P.length;omega,by show min sz P.length≤6;omega⟩
  let σ1 (a9:Option W):Qai:=[z,some (nat j0),some (nat m),pp,some (.ref h.length),some (nat k),some (.int A),some (.int B),some (nat sz),a9,r10,r11,r12,some (.int S)]
  have step1:∀ ss,exB cf fw (.asg 6 (.bin .Add (.call a [(.var 0),(.bin .Add (.var 1) (.bin .Mod (.var 5) (.con (.int 7))))]) (.bin .FloorDiv (.var 5) (.con (.int 7))))::.asg 7 (.call a [(.var 0),(.bin .Add (.bin .Add (.var 1) (.con (.int 7))) (.bin .Mod (.var 5) (.con (.int 5))))]) ::
    .asg 8 (.ix (.lst [(.con (.int 1)),(.con (.int 2)),(.con (.int 3)),(.con (.int 1)),(.con (.int 4)),(.con (.int 6)),(.con (.int 1)),(.con (.int 5)),(.con (.int 2))]) (.bin .Mod (.bin .Add (.var 6) (.var 5)) (.con (.int 9))))::.asg 13 (.bin .Add (.bin .FloorDiv (.var 6) (.con (.int 9))) (.bin .Mult (.var 5) (.bin .Mod (.var 7) (.con (.int 5)))))::ss)
    [z,some (nat j0),some (nat m),pp,some (.ref h.length),some (nat k),r6,r7,r8,r9,r10,r11,r12,r13] hh=exB cf fw ss (σ1 r9) hh:=fun ss=>by
   refine(Qab (Qaf (w:=.int A) (QbA (Qaq (Qaa (i:=0) rfl) (Qay (Qaa (i:=1) rfl) (QaU (n:=7) (Qaa (i:=5) rfl) Qah (by decide))) (c (j0+k % 7) _)) (QaN (n:=7) (Qaa (i:=5) rfl) Qah (by decide) (lt9 (by decide)))))).trans ?_
   refine(Qab (Qaf (w:=.int B) (Qaq (Qaa (i:=0) rfl) (Qay (Qay (n:=7) (Qaa (i:=1) rfl) Qah) (QaU (n:=5) (Qaa (i:=5) rfl) Qah (by decide))) (c (j0+7+k % 5) _)))).trans ?_
   refine(Qab (Qaf (w:=nat sz) (QaS (Qb3 (Qad Qaj (Qad Qaj (Qad Qaj (Qad Qaj (Qad Qaj (Qad Qaj (Qad Qaj (Qad Qaj (Qad Qaj Qag))))))))) (by show 9≤1000;decide)) (Qax (C:=9) (QbA (Qaa (i:=6) rfl) (Qaa (i:=5) rfl)) Qah (by decide) e9) (ix_L esz)))).trans ?_
   refine(Qab (Qaf (w:=.int S) (QbA (Qds (C:=9) (Qaa (i:=6) rfl) (by decide) (by decide)) (Qbg (Qaa (i:=5) rfl) (Qax (C:=5) (Qaa (i:=7) rfl) Qah (by decide) e5) (Qb5 ⟨by omega,by omega⟩))))).trans ?_
   rfl
  have comp:evE cf (.compR [14] 1 [(.blt .min [(.var 8),(.blt .len [(.var 3)])])] [] (.ix (.var 3) (.bin .Mod (.bin .Add (.var 13) (.var 14)) (.blt .len [(.var 3)])))) (σ1 r9) hh=.ok (.lst (hs0.map W.str)) hh:=by
   have q:=QgU (cf:=cf) (is:=[14]) (n:=1) (m:=mm) (a:=.blt .min [(.var 8),(.blt .len [(.var 3)])]) (elt:=.ix (.var 3) (.bin .Mod (.bin .Add (.var 13) (.var 14)) (.blt .len [(.var 3)]))) (σ:=σ1 r9) (h:=hh) (F:=fun j=>.str (F j)) (Qgb (Qaa (i:=8) rfl) (len_P (i:=3) rfl)) (by omega) (fun j hj=>⟨rfl,fun hh2=>?_⟩)
   ·rw[q,List.map_map]
    rfl
   ·obtain⟨_,i,ei,ex⟩:=hF j
    exact QeD (σ:=σ1 r9++[some (nat j)]) rfl (QaS (Qaa (i:=3) rfl) (Qax (C:=P.length) (QbA (Qaa (i:=13) rfl) (Qaa (i:=14) rfl)) (len_P (i:=3) rfl) p1 ei) (ex hh2))
  have cond:evT cf (.and_ (.cmp .Eq (.bin .Mod (.bin .Add (.var 6) (.var 5)) (.con (.int 9))) (.con (.int 6))) (.cmp .Eq (.bin .Mod (.var 7) (.con (.int 2))) (.con (.int 0)))) (σ1 (some (.lst (hs0.map W.str)))) hh=.ok (decide (i9=6)&&decide (b2=0)) hh :=
   Qck (QcF (n:=6) (Qax (C:=9) (QbA (Qaa (i:=6) rfl) (Qaa (i:=5) rfl)) Qah (by decide) e9) Qah) (QcF (n:=0) (Qax (C:=2) (Qaa (i:=7) rfl) Qah (by decide) e2) Qah)
  obtain⟨hs,n1,n6,nn,hp,sIf⟩:∃ hs:List Str,1≤hs.length∧hs.length≤6∧(∀ s∈hs,QeF s)∧HsP P hs∧exS cf fw (.if_ (.and_ (.cmp .Eq (.bin .Mod (.bin .Add (.var 6) (.var 5)) (.con (.int 9))) (.con (.int 6))) (.cmp .Eq (.bin .Mod (.var 7) (.con (.int 2))) (.con (.int 0)))) [.asg 9 (.lst [(.con (.str "CROWN"))])] []) (σ1 (some (.lst (hs0.map W.str)))) hh=.ok (.nx (σ1 (some (.lst (hs.map W.str))))) hh:=by
   cases hc:(decide (i9=6)&&decide (b2=0)) with
   |true =>
    rw[hc]at cond
    exact⟨[Qbm],by simp,by simp,fun s hs=>by rw[List.mem_singleton.mp hs];exact Qkv,⟨fun _=>by simp,.inl rfl⟩,(Qea cond).trans (QlC (Qb3 (Qad Qaj Qag) (by show 1≤1000;decide)))⟩
   |false =>
    rw[hc]at cond
    refine⟨hs0,by simp[hs0];omega,by simp[hs0];omega,fun s hs=>?_,⟨fun hP=>?_,.inr fun s hs=>?_⟩,Qbf cond⟩
    ·obtain⟨j,_,rfl⟩:=List.mem_map.mp hs
     exact pn _ (hF j).1
    ·refine QdX hP (G:=fun j=>((S+(j:Int)).fmod (P.length:Int)).toNat) (fun j _=>?_) fun j hj k hk e=>?_
     ·obtain⟨i,ei,hi⟩:=QaB (S+(j:Int)) p1
      rw[ei,Int.toNat_natCast];exact hi
     ·have hml:mm≤P.length:=Nat.min_le_right _ _
      exact QkF p1 (by omega) (by omega) e
    ·obtain⟨j,_,rfl⟩:=List.mem_map.mp hs
     exact(hF j).1
  obtain⟨s0,hs0P,es0⟩:=ix_P (P:=P) (j:=0) p1 hh
  let tr0:List W:=[.tup [nat 1,nat 1,sh 1 1,.tup [.str s0]]]
  let sh0:Nat×Nat:=(1+t9,(1+t9)*(1+t12)+1)
  let hs2:List Str:=QhO ltS hs
  have perm:=Qa9 (lt:=ltS) hs
  let x:Pt:=⟨sh0.1,sh0.2,hs2,tr0++[.tup [nat (2+k),nat (k+1),shp sh0,.tup (hs2.map W.str)]]⟩
  have bd1:(1+t9)*(1+t12)≤9*12:=Nat.mul_le_mul (by omega) (by omega)
  have hlen2:hs2.length=hs.length:=perm.length_eq
  have xok:x.Ok:=by
   refine⟨by show 0<(1+t9)*(1+t12)+1;omega,by show 1+t9≤1000;omega,by show (1+t9)*(1+t12)+1≤1000;omega,by show 1≤hs2.length;omega,by show hs2.length≤6;omega,fun s hs=>nn s (perm.mem_iff.mp hs),?_,?_,?_,?_⟩
   ·exact QcW (by simp[tr0,Qan,Qam]) (by simp[Qan,Qam,Qaz])
   ·have hq:hs2.length≤100000:=by omega
    exact Qei (by simp[tr0,okQ,Qdh]) (by simp[okQ,Qdh,Qcn,hq])
   ·exact Qef (by simp[tr0,dep,QcX]) (by simp[dep,QcX,Qcw])
   ·simp[x,tr0]
  have xhp:HsP P x.hs:=hp.perm perm
  refine⟨[z,some (nat j0),some (nat m),pp,some (.ref h.length),some (nat k),some (.int A),some (.int B),some (nat sz),some (.lst (hs.map W.str)),some (nat (1+t9)),some (shp sh0),some (.tup tr0),some (.int S)],h++[.lst ((xs++[x]).map ptW)],?_,_,_,_,_,_,_,_,_,_,xs++[x],rfl,rfl,by simp[l1],fun y hy=>?_⟩
  ·refine(step1 _).trans ?_
   refine(Qab (Qaf comp)).trans ?_
   refine(Qab sIf).trans ?_
   refine(Qab (Qaf (w:=nat (1+t9)) (Qay (m:=1) Qah (Qax (C:=9) (QbA (Qds (C:=5) (Qaa (i:=7) rfl) (by decide) (by decide)) (Qaa (i:=5) rfl)) Qah (by decide) et)))).trans ?_
   refine(Qab (Qaf (w:=shp sh0) (QaI (QaL (Qaa (i:=10) rfl) (Qay (n:=1) (Qbg (Qaa (i:=10) rfl) (Qay (m:=1) Qah (Qax (C:=12) (QbA (Qds (C:=3) (Qaa (i:=6) rfl) (by decide) (by decide)) (Qaa (i:=5) rfl)) Qah (by decide) eu)) (Qb5 ⟨by omega,by omega⟩)) Qah)) (by show 2≤1000;decide)))).trans ?_
   refine(Qab (Qaf (w:=.tup tr0) (QaI (Qad (QaI (Qad Qaj (Qad Qaj (Qad (QaI (QaL Qaj Qaj) (by show 2≤1000;decide)) (Qad (QaI (Qad (QaS (Qaa (i:=3) rfl) Qaj es0) Qag) (by show 1≤1000;decide)) Qag)))) (by show 4≤1000;decide)) Qag) (by show 1≤1000;decide)))).trans ?_
   refine(Qab (Qdy (QbR (i:=4) (n:=h.length) (us:=xs.map ptW) (w:=ptW x) rfl Qa8 (QaF (Qad (Qaa (i:=12) rfl) (Qad (Qay (m:=2) Qah (Qaa (i:=5) rfl)) (Qad (Qay (n:=1) (Qaa (i:=5) rfl) Qah) (Qad (Qaa (i:=11) rfl) (Qad (Qb6 (Qi2 (Qaa (i:=9) rfl) (by omega))) Qag))))) (bw (2+k) (k+1) sh0 hs2 tr0 rfl (by show 1≤1000;decide) hh)) (Qiz xok) (by rw[List.length_map];omega)))).trans ?_
   rw[exB,Qbl,List.map_append]
   rfl
  ·rcases List.mem_append.mp hy with hy | hy
   ·exact l2 y hy
   ·rw[List.mem_singleton.mp hy];exact⟨xok,xhp,by show 1≤1+t9;omega,by show (1+t9)*(1+t12)+1≤109;omega⟩
 obtain⟨σ2,hh,lp,r5,r6,r7,r8,r9,r10,r11,r12,r13,xs,rfl,rfl,l1,l2⟩:=lp
 refine⟨xs,?_,l1,l2⟩
 show J.fin h.length (exB cf fw (Qnv a wi) [z,some (nat j0),some (nat m),pp,none,none,none,none,none,none,none,none,none,none] h)=_
 have e:exB cf fw (Qnv a wi) [z,some (nat j0),some (nat m),pp,none,none,none,none,none,none,none,none,none,none] h=.ok (.ret (.ref h.length)) (h++[.lst (xs.map ptW)]):=by
  refine(Qab (σ':=[z,some (nat j0),some (nat m),pp,some (.ref h.length),none,none,none,none,none,none,none,none,none]) (h':=h++[.lst []]) ?_).trans ?_
  ·rw[exS,evF,evA,bnd_ok,if_pos (by decide),bnd_ok,if_pos (by rw[Qam])]
   rfl
  refine(Qab ((QcK (Qaa (i:=2) rfl) (by omega)).trans lp)).trans ?_
  exact Qal (Qa2 (Qaa (i:=4) rfl))
 rw[e]
 exact Qmz
noncomputable def Seq (t:W) (ws:List W):Prop:=t=.lst ws∨t=.tup ws
theorem Seq.seqA {t:W}{ws:List W} (h:Seq t ws) (hh:Qac):J.seqA hh t=some ws:=by
 rcases h with rfl | rfl<;>rfl
theorem Qjn {cf:CF}{fw i:Nat}{a:E}{σ:Qai}{h:Qac}{t:W}{ws:List W} (ea:evE cf a σ h=.ok t h) (hs:seqA h t=some ws) (hp:Qam ws=true):exS cf fw (.fresh i (.blt .list [a])) σ h=.ok (.nx (σ.set i (some (.ref h.length)))) (h++[.lst ws]):=by
 rw[exS,evF,ea,bnd_ok,hs]
 dsimp only
 rw[bnd_ok,if_pos hp]
theorem Qhi {h:Qac}{n:Nat}{ws:List W} (e:h[n]?=some (.lst ws)):seqA h (.ref n)=some ws:=by
 show (match h[n]? with | some (.lst ws)=>some ws | _=>none)=_
 rw[e]
theorem Qnj {cf:CF}{a:E}{σ:Qai}{h:Qac}{x:Pt} (ea:evE cf a σ h=.ok (ptW x) h):evE cf (.ix a (.con (.int 1))) σ h=.ok (.tup (x.hs.map W.str)) h:=QaS ea Qaj (Qf4 (k:=1) (t:=ptW x) rfl rfl)
theorem ix_sh {cf:CF}{a:E}{σ:Qai}{h:Qac}{x:Pt} (ea:evE cf a σ h=.ok (ptW x) h):evE cf (.ix a (.con (.int 0))) σ h=.ok (sh x.p x.q) h:=QaS ea Qaj (Qf4 (k:=0) (t:=ptW x) rfl rfl)
theorem len_hs {cf:CF}{a:E}{σ:Qai}{h:Qac}{hs:List Str} (ea:evE cf a σ h=.ok (.tup (hs.map W.str)) h):evE cf (.blt .len [a]) σ h=.ok (nat hs.length) h:=(Qbs ea rfl).trans (by rw[List.length_map])
theorem QgJ:∀ {hs:List Str},(∀ s∈hs,QeF s)→PyData.canLayAll0 (QdP (hs.map W.str))=true
 |[],_=>by simp[QdP,PyData.canLayAll0]
 |s::hs,h=>by
  have h1:=(h s List.mem_cons_self).2
  have ih:=QgJ (hs:=hs) fun u hu=>h u (List.mem_cons_of_mem _ hu)
  have hs':PyData.strOk s=true:=by
   unfold PyData.strOk
   rw[Array.all_eq_true']
   intro c hc
   have:=h1 c (Array.mem_toList_iff.mpr hc)
   exact decide_eq_true (Nat.lt_trans this (by decide))
  simp[QdP,toP,PyData.canLayAll0,PyData.canLay0,ih,hs']
theorem QfF:∀ (hs:List Str),PyData.depthAll (QdP (hs.map W.str))=0
 |[]=>by simp[QdP,PyData.depthAll]
 |s::hs=>by simp[QdP,toP,PyData.depthAll,PyData.depth,QfF hs]
theorem Qhl:∀ (hs:List Str),QjN (hs.map W.str)=true
 |[]=>rfl
 |s::hs=>by rw[List.map_cons,QjN,Qhl hs];rfl
theorem QgB {cf:CF}{a:E}{σ:Qai}{h:Qac}{t:W}{ws:List W} (ea:evE cf a σ h=.ok t h) (ht:Seq t ws):evE cf (.blt .list [a]) σ h=.ok (.lst ws) h:=by
 rw[evE,Qad ea Qag,bnd_ok]
 rcases ht with rfl | rfl<;>rfl
theorem Qcd (a b:Str):(a++b).cps.toList=a.cps.toList++b.cps.toList:=by
 show (a.cps++b.cps).toList=_
 simp
theorem QbB (n:Nat):(ltr n).cps.toList=[abc.cps.toList.getD n 0]:=rfl
theorem Qhe (c:Nat) (x:Array Nat) (hx:x.toList=[c]):∀ (n:Nat) (acc:Array Nat),((List.replicate n x).foldl (fun x1 x2=>x1++x2) acc).toList=acc.toList++List.replicate n c
 |0,acc=>by simp
 |n+1,acc=>by
  rw[List.replicate_succ,List.foldl_cons,Qhe c x hx n,Array.toList_append,hx,List.append_assoc,List.replicate_succ]
  rfl
theorem Qe4 {c n:Nat}{x:Str} (hx:x.cps.toList=[c]) (hn:1≤n):(Txt.mul x (n:Int)).cps.toList=List.replicate n c:=by
 unfold Txt.mul
 rw[if_neg (by omega)]
 split
 ·rename_i h
  have hl:x.length=1:=by show x.cps.size=1;rw[← Array.length_toList,hx];rfl
  simp only[Bool.or_eq_true,beq_iff_eq,hl]at h
  have:n=1:=by omega
  subst this
  rw[hx];rfl
 ·show ((List.replicate ((n:Int)).toNat x.cps).foldl _ #[]).toList=_
  rw[Qhe c x.cps hx,Int.toNat_natCast];rfl
theorem QcG:∀ n,n<26→abc.cps.toList.getD n 0=97+n:=by decide +kernel
theorem QlX (x:Str):x.length=x.cps.toList.length:=by show x.cps.size=_;rw[Array.length_toList]
theorem Qlv {a b s:Nat} (ha:a<26) (hb:b<26) (e:(a+s) % 26=(b+s) % 26):a=b:=by omega
theorem QkJ:∀ u,u<26→∀ v,v<26→(5*u) % 26=(5*v) % 26→u=v:=by decide
theorem Qky (how shift:Nat) {j k:Nat} (hj:j<60) (hk:k<60) (e:QaQ how shift j=QaQ how shift k):j=k:=by
 have e1:=congrArg (fun s:Str=>s.cps.toList) e
 unfold QaQ at e1
 have c1:=QcG _ (Nat.mod_lt (5*j+shift) (show 26>0 by decide))
 have c2:=QcG _ (Nat.mod_lt (5*k+shift) (show 26>0 by decide))
 have c3:=QcG _ (Nat.mod_lt (j / 26+shift) (show 26>0 by decide))
 have c4:=QcG _ (Nat.mod_lt (k / 26+shift) (show 26>0 by decide))
 have c5:=QcG _ (Nat.mod_lt (j / 12+shift) (show 26>0 by decide))
 have c6:=QcG _ (Nat.mod_lt (k / 12+shift) (show 26>0 by decide))
 split at e1
 ·rw[Qcd,Qcd,Qcd,Qcd,Qcd,Qcd,QbB,QbB,QbB,QbB,c1,c2,c3,c4]at e1
  have e2:=List.append_cancel_right e1
  rw[List.append_assoc,List.append_assoc]at e2
  have e3:=List.append_cancel_left e2
  simp only[List.cons_append,List.nil_append,List.cons.injEq,and_true]at e3
  clear c1 c2 c3 c4 c5 c6 e e1 e2
  obtain⟨q1,q2⟩:=e3
  have r1:j / 26=k / 26:=Qlv (s:=shift) (by omega) (by omega) (by omega)
  have r2:j % 26=k % 26:=QkJ _ (Nat.mod_lt _ (by decide)) _ (Nat.mod_lt _ (by decide)) (by omega)
  omega
 ·rw[Qe4 (QbB _) (by omega),Qe4 (QbB _) (by omega),c5,c6]at e1
  have e2:=congrArg List.length e1
  rw[List.length_replicate,List.length_replicate]at e2
  rw[e2,List.replicate_inj]at e1
  have e3:97+(j / 12+shift) % 26=97+(k / 12+shift) % 26:=by
   rcases e1.2 with h | h
   ·omega
   ·exact h
  clear c1 c2 c3 c4 c5 c6 e e1
  have r1:j / 12=k / 12:=Qlv (s:=shift) (by omega) (by omega) (by omega)
  omega
noncomputable def Qk3 (s:Str):Prop:=∀ c∈s.cps.toList,97≤c∧c≤122
theorem Qgu {n:Nat} (h:n<26):Qk3 (ltr n):=fun c hc=>by
 rw[QbB,QcG n h,List.mem_singleton]at hc
 omega
theorem Qe0 {a b:Str} (ha:Qk3 a) (hb:Qk3 b):Qk3 (a++b):=fun c hc=>by
 rw[Qcd]at hc
 exact(List.mem_append.mp hc).elim (ha c) (hb c)
theorem QdS {a:Str}{l u:Option Int} (ha:Qk3 a):Qk3 (Txt.slice a l u):=fun c hc=>by
 unfold Txt.slice at hc
 split at hc
 ·exact ha c hc
 ·simp only[List.toList_toArray]at hc
  obtain⟨i,_,e⟩:=List.mem_filterMap.mp hc
  exact ha c (Array.mem_toList_iff.mpr (Array.mem_of_getElem? e))
theorem Qeu {m n:Nat} (h:n<26):Qk3 (Txt.mul (ltr n) (m:Int)):=fun c hc=>by
 by_cases hm:1≤m
 ·rw[Qe4 (QbB n) hm,QcG n h]at hc
  have:=List.eq_of_mem_replicate hc
  omega
 ·unfold Txt.mul at hc
  rw[if_pos (by omega)]at hc
  cases hc
theorem Qj9 (how shift k:Nat):Qk3 (QaQ how shift k):=by
 have m:∀ n,n % 26<26:=fun n=>Nat.mod_lt _ (by decide)
 unfold QaQ
 split
 ·exact Qe0 (Qe0 (Qe0 (QdS (Qeu (m _))) (Qgu (m _))) (Qgu (m _))) (QdS (Qeu (m _)))
 ·exact Qeu (m _)
theorem QfA (x:Str) (l u:Option Int):(Txt.slice x l u).length≤(Builtin.Str.strSliceIndices l u 1 x.length).length:=by
 unfold Txt.slice
 split
 ·rename_i h
  simp only[beq_self_eq_true,Bool.true_and,beq_iff_eq]at h
  omega
 ·show (List.filterMap _ (Builtin.Str.strSliceIndices l u 1 x.length)).toArray.size≤_
  rw[List.size_toArray]
  exact List.length_filterMap_le _ _
theorem Qm0 (a n:Nat):(Builtin.Str.strSliceIndices none (some (a:Int)) 1 n).length+(Builtin.Str.strSliceIndices (some (a:Int)) none 1 n).length≤n:=by
 unfold Builtin.Str.strSliceIndices sliceRange
 simp only[show (1:Int)>0 by decide,if_true,List.length_map,List.length_range]
 repeat' split
 all_goals (try simp only[Int.ediv_one]);omega
theorem Qjs (how shift k:Nat):1≤(QaQ how shift k).length∧(QaQ how shift k).length≤12:=by
 unfold QaQ
 split
 ·rw[QaD,QaD,QaD,QaW,QaW]
  have h1:=QfA (QbP how shift) none (some ((how / 33 % 11:Nat):Int))
  have h2:=QfA (QbP how shift) (some ((how / 33 % 11:Nat):Int)) none
  have h3:=Qm0 (how / 33 % 11) (QbP how shift).length
  have h4:(QbP how shift).length≤10:=QfU (QaW _) (by omega)
  omega
 ·rw[QlX,Qe4 (QbB _) (by omega),List.length_replicate]
  omega
theorem Qao (s:Str) (ss:List Str):Qa6 s ss=decide (s∈ss):=by
 unfold Qa6 inV
 rw[Bool.eq_iff_iff]
 simp only[List.any_eq_true,List.mem_map,toV,decide_eq_true_eq]
 constructor
 ·rintro ⟨v,⟨w,⟨x,hx,rfl⟩,rfl⟩,e⟩
  have:x=s:=by simpa [toV,eqV] using e
  exact this ▸ hx
 ·intro h
  exact⟨.str s,⟨.str s,⟨s,h,rfl⟩,rfl⟩,by simp[eqV]⟩
noncomputable def QmS (s:Str):Prop:=Qk3 s∧1≤s.length∧s.length≤12
theorem QhU (how shift k:Nat):QmS (QaQ how shift k):=⟨Qj9 how shift k,Qjs how shift k⟩
noncomputable abbrev srt (ss:List Str):List Str:=QhO ltS ss
theorem srt_mem {s:Str}{ss:List Str}:s∈srt ss↔s∈ss:=(Qa9 ss).mem_iff
theorem QaO (ss:List Str):(srt ss).length=ss.length:=(Qa9 ss).length_eq
theorem Qca {cf:CF}{fw:Nat}{is:List Nat}{a:E}{b:List S}{σ:Qai}{h:Qac}{t:W}{ws:List W} (ea:evE cf a σ h=.ok t h) (ht:Seq t ws):exS cf fw (.for_ is (.seq a) b) σ h=fo is (exB cf fw b) ws σ h:=by
 rw[exS,ea,bnd_ok]
 rcases ht with rfl | rfl<;>rfl
theorem Qn1 {cf:CF}{a:E}{σ:Qai}{h:Qac}{x:W}{ss:List Str} (ea:evE cf a σ h=.ok x h) (hx:seqA h x=some (ss.map W.str)) (hl:ss.length<64):evE cf (.blt .tuple [(.blt .sorted [a])]) σ h=.ok (.tup ((srt ss).map W.str)) h:=Qb6 (QcY ea hx hl)
theorem Qlq {cf:CF}{a e:E}{σ:Qai}{h:Qac}{n:Nat}{us:List W}{w:W} (ea:evE cf a σ h=.ok (.ref n) h) (hn:h[n]?=some (.lst us)) (ee:evE cf e σ h=.ok w h) (hp:Qan w=true) (hz:us.length≤1000000) :
  evE cf (.meth .append a [e]) σ h=.ok .non (h.set n (.lst (us++[w]))):=by
 have z:Qc5 h (.ref n)=some us:=by
  show (match h[n]? with | some (.lst ws)=>some ws | _=>none)=some us
  rw[hn]
 rw[evE,ea,bnd_ok,if_pos (show Qg3 .append h (.ref n)=true by show (Qc5 h (.ref n)).isSome=true;rw[z];rfl),Qcb,ee,bnd_ok,bnd_ok]
 show (match h[n]? with | some (.lst us)=>if Qan w=true∧us.length<sizeLine then Res.ok W.non (h.set n (.lst (us++[w]))) else .stuck | _=>.stuck)=_
 rw[hn]
 dsimp only
 rw[if_pos ⟨hp,Nat.lt_of_le_of_lt hz (by decide)⟩]
end J
namespace J
open PySem PySem.Spec PyProof.Rows L2
theorem Qfu {nx:Str→Option Str}{dead:Str→Bool}{a b:Str} (ha:dead a=true) (hb:dead b=true):∀ (n:Nat) (x:Str),Qbe nx dead a n x=Qbe nx dead b n x
 |0,_=>rfl
 |n+1,x=>by
  unfold Qbe
  cases nx x with
  |none=>rfl
  |some y =>
   dsimp only
   have ea:(y≠a∧dead y=false)↔dead y=false:=⟨fun z=>z.2,fun z=>⟨fun e=>(by rw[e,ha]at z;cases z),z⟩⟩
   have eb:(y≠b∧dead y=false)↔dead y=false:=⟨fun z=>z.2,fun z=>⟨fun e=>(by rw[e,hb]at z;cases z),z⟩⟩
   rw[Qfu ha hb n y]
   by_cases q:dead y=false
   ·rw[if_pos (ea.mpr q),if_pos (eb.mpr q)]
   ·rw[if_neg (fun z=>q z.2),if_neg (fun z=>q z.2)]
theorem Qdr {nx:Str→Option Str}{dead dead':Str→Bool}{a:Str} (h:∀ y,dead' y=(dead y||decide (y=a))):∀ (n:Nat) (x:Str),Qbe nx dead' a n x=Qbe nx dead a n x
 |0,_=>rfl
 |n+1,x=>by
  unfold Qbe
  cases nx x with
  |none=>rfl
  |some y =>
   dsimp only
   rw[Qdr h n y]
   have e:(y≠a∧dead' y=false)↔(y≠a∧dead y=false):=by
    rw[h y]
    constructor
    ·rintro ⟨z1,z2⟩;rw[Bool.or_eq_false_iff]at z2;exact⟨z1,z2.1⟩
    ·rintro ⟨z1,z2⟩;refine⟨z1,?_⟩;rw[z2,decide_eq_false z1];rfl
   by_cases q:y≠a∧dead y=false
   ·rw[if_pos q,if_pos (e.mpr q)]
   ·rw[if_neg q,if_neg (fun z=>q (e.mp z))]
theorem QeG {nx:Str→Option Str}{dead dead':Str→Bool}{a v:Str} (h:∀ y,dead' y=(dead y||decide (y=v))):∀ (n:Nat) (x:Str),Qbe nx dead a n x≠v→Qbe nx dead' a n x=Qbe nx dead a n x
 |0,_,_=>rfl
 |n+1,x,hne=>by
  unfold Qbe at hne ⊢
  cases e:nx x with
  |none=>rfl
  |some y =>
   rw[e]at hne
   dsimp only at hne ⊢
   by_cases q:y≠a∧dead y=false
   ·rw[if_pos q]at hne ⊢
    rw[if_pos ⟨q.1,by rw[h y,q.2,decide_eq_false hne];rfl⟩]
   ·rw[if_neg q]at hne ⊢
    rw[if_neg (fun z=>q ⟨z.1,by have:=z.2;rw[h y,Bool.or_eq_false_iff]at this;exact this.1⟩)]
    exact QeG h n y hne
theorem QjB {nx:Str→Option Str}{dead dead':Str→Bool}{a v:Str} (hv:v≠Qbm) (h1:∀ y,dead y=true→dead' y=true) (h2:dead' v=true) (ha:dead' a=true):∀ (n:Nat) (x:Str),Qbe nx dead a n x=v→∃ j,∀ k,Qbe nx dead' a (k+j) x=Qbe nx dead' a k v
 |0,_,e=>absurd e.symm hv
 |n+1,x,e=>by
  unfold Qbe at e
  cases e1:nx x with
  |none=>rw[e1]at e;exact absurd e.symm hv
  |some y =>
   rw[e1]at e
   dsimp only at e
   have key:dead' y=true→∀ k,Qbe nx dead' a (k+1) x=Qbe nx dead' a k y:=fun hy k=>by
    show (match nx x with | none=>Qbm | some y=>if y≠a∧dead' y=false then y else Qbe nx dead' a k y)=_
    rw[e1]
    dsimp only
    rw[if_neg (fun z=>by rw[hy]at z;cases z.2)]
   by_cases q:y≠a∧dead y=false
   ·rw[if_pos q]at e
    subst e
    exact⟨1,key h2⟩
   ·rw[if_neg q]at e
    obtain⟨j,hj⟩:=QjB hv h1 h2 ha n y e
    have hy:dead' y=true:=by
     by_cases ya:y=a
     ·rw[ya];exact ha
     ·refine h1 y ?_
      cases hd:dead y with
      |true=>rfl
      |false=>exact absurd ⟨ya,hd⟩ q
    exact⟨j+1,fun k=>(key hy (k+j)).trans (hj k)⟩
theorem QhQ {nx:Str→Option Str}{dead:Str→Bool}{a:Str}{P:List Str} (hP:P.length≤30) (hv:∀ x y,nx x=some y→y∈P) (ha:a∈P) (k:Nat) (hk:30≤k):Qbe nx dead a k a=Qbe nx dead a 31 a:=by
 have q:∀ k,30≤k→QeH nx dead 31 [a] a=Qbe nx dead a k a:=fun k hk=>QfZ (m:=30) hP hv 31 k [a] a (by simp) (by simp[ha]) (by simp) (by simp) (by simp) (by simp) (by simp) (by simp;omega)
 rw[← q k hk,← q 31 (by decide)]
theorem QiT {nx:Str→Option Str}{dead dead':Str→Bool}{a v:Str}{P:List Str} (hP:P.length≤30) (hx:∀ x y,nx x=some y→y∈P) (ha:a∈P) (hvP:v∈P) (hv:v≠Qbm) (h1:∀ y,dead' y=(dead y||decide (y=v))) (hda:dead a=true) (e:Qbe nx dead a 31 a=v) :
  Qbe nx dead' a 31 a=Qbe nx dead v 31 v:=by
 have hv':dead' v=true:=by rw[h1,decide_eq_true rfl,Bool.or_true]
 have ha':dead' a=true:=by rw[h1,hda];rfl
 obtain⟨j,hj⟩:=QjB hv (fun y hy=>by rw[h1,hy];rfl) hv' ha' 31 a e
 rw[← QhQ hP hx ha (31+j) (by omega),hj 31,Qfu ha' hv',Qdr h1]
noncomputable def Ql5 (nx:Str→Option Str) (gone:List Str) (n:Str) (cur:List Str):List Str:=if Qa6 n cur=true then (if cur.length=1 then [Qbe nx (fun y=>Qa6 y gone) n 31 n] else cur.filter fun s=>!decide (s=n)) else cur
noncomputable def Qc3 (nx:Str→Option Str):List Str→List Str→List Str→List Str
 |[],_,cur=>cur
 |n::o,gone,cur=>Qc3 nx o (gone++[n]) (Ql5 nx gone n cur)
noncomputable def Qbd (hs:List Str):List Str→Str→Str
 |[],l=>l
 |n::o,l=>Qbd hs o (if Qa6 n hs=true then n else l)
theorem memS_t {s:Str}{ss:List Str}:Qa6 s ss=true↔s∈ss:=by rw[Qao,decide_eq_true_eq]
theorem Qg9 (s n:Str) (ss:List Str):Qa6 s (ss++[n])=(Qa6 s ss||decide (s=n)):=by
 rw[Qao,Qao,Bool.eq_iff_iff]
 simp
noncomputable def Qa0 (hs done:List Str):List Str:=hs.filter fun s=>!Qa6 s done
theorem Qda (hs done:List Str) (n:Str):Qa0 hs (done++[n])=(Qa0 hs done).filter fun s=>!decide (s=n):=by
 unfold Qa0
 rw[List.filter_filter]
 congr 1
 funext s
 rw[Qg9,Bool.not_or,Bool.and_comm]
theorem QjH {n:Str}{l:List Str} (h:n∉l):(l.filter fun s=>!decide (s=n))=l:=by
 rw[List.filter_eq_self]
 intro s hs
 rw[decide_eq_false (fun (e:s=n)=>h (e ▸ hs))];rfl
noncomputable def dueH (nx:Str→Option Str) (down order hs:List Str) (l0:Str):List Str:=if Qa0 hs order=[] then [Qbe nx (fun y=>Qa6 y (down++order)) (Qbd hs order l0) 31 (Qbd hs order l0)] else Qa0 hs order
theorem QbW (hs:List Str):∀ (o:List Str) (n l:Str),Qbd hs (o++[n]) l=if Qa6 n hs=true then n else Qbd hs o l
 |[],n,l=>rfl
 |m::o,n,l=>by
  show Qbd hs (o++[n]) _=_
  rw[QbW hs o n]
  rfl
theorem QdI (hs:List Str):∀ (o:List Str) (l:Str),(∃ s∈hs,s∈o)→Qbd hs o l∈o
 |[],l,⟨_,_,h⟩=>by cases h
 |m::o,l,h=>by
  unfold Qbd
  by_cases q:∃ s∈hs,s∈o
  ·exact List.mem_cons_of_mem _ (QdI hs o _ q)
  ·have hm:m∈hs:=by
    obtain⟨s,h1,h2⟩:=h
    rcases List.mem_cons.mp h2 with rfl | h2
    ·exact h1
    ·exact absurd ⟨s,h1,h2⟩ q
   rw[if_pos (memS_t.mpr hm)]
   have no:∀ (o:List Str) (l:Str),(¬ ∃ s∈hs,s∈o)→Qbd hs o l=l:=by
    intro o
    induction o with
    |nil=>intro l _;rfl
    |cons a o ih =>
     intro l hn
     unfold Qbd
     rw[if_neg (fun z=>hn ⟨a,memS_t.mp z,List.mem_cons_self⟩)]
     exact ih l fun ⟨s,h1,h2⟩=>hn ⟨s,h1,List.mem_cons_of_mem _ h2⟩
   rw[no o m q]
   exact List.mem_cons_self
theorem Qie {nx:Str→Option Str}{P:List Str} (hP:P.length≤30) (hx:∀ x y,nx x=some y→y∈P) (hcr:Qbm∉P) {down hs:List Str}{l0:Str} (hnd:hs.Nodup) (h0:hs≠[]):∀ (QbX done cur:List Str),(done++QbX).Nodup→(∀ s∈done++QbX,s∈P∧s∉down) →
  cur=dueH nx down done hs l0→Qc3 nx QbX (down++done) cur=dueH nx down (done++QbX) hs l0
 |[],done,cur,_,_,e=>by rw[List.append_nil];exact e
 |n::QbX,done,cur,nd,hm,e=>by
  have eq1:done++n::QbX=(done++[n])++QbX:=by simp
  unfold Qc3
  rw[eq1,List.append_assoc]
  have hn:=hm n (by simp)
  have hnd':n∉done:=fun z=>(List.nodup_append.mp nd).2.2 n z n List.mem_cons_self rfl
  refine Qie hP hx hcr hnd h0 QbX (done++[n]) _ (by rw[← eq1];exact nd) (by rw[← eq1];exact hm) ?_
  subst e
  have dd:∀ y,Qa6 y (down++(done++[n]))=(Qa6 y (down++done)||decide (y=n)):=fun y=>by rw[← List.append_assoc,Qg9]
  unfold dueH
  by_cases q:Qa0 hs done=[]
  ·-- none is left
   rw[if_pos q]
   have all:∀ s∈hs,s∈done:=fun s hs'=>by
    have:=List.filter_eq_nil_iff.mp q s hs'
    simpa [Qao] using this
   have nhs:n∉hs:=fun z=>hnd' (all n z)
   rw[Qda,q,List.filter_nil,if_pos rfl,QbW,if_neg (fun z=>nhs (memS_t.mp z))]
   have hl:Qbd hs done l0∈done:=by
    refine QdI hs done l0 ?_
    obtain⟨s,hs'⟩:=List.exists_mem_of_ne_nil hs h0
    exact⟨s,hs',all s hs'⟩
   generalize Qbd hs done l0=l at *
   have hlP:=(hm l (List.mem_append_left _ hl)).1
   unfold Ql5
   by_cases qv:Qbe nx (fun y=>Qa6 y (down++done)) l 31 l=n
   ·rw[if_pos (by rw[memS_t,qv];exact List.mem_cons_self),if_pos (show [Qbe nx (fun y=>Qa6 y (down++done)) l 31 l].length=1 from rfl)]
    rw[QiT (dead:=fun y=>Qa6 y (down++done)) hP hx hlP hn.1 (fun z=>hcr (z ▸ hn.1)) dd (memS_t.mpr (List.mem_append_right _ hl)) qv]
   ·rw[if_neg (fun z=>by rw[memS_t]at z;exact qv (List.mem_singleton.mp z).symm)]
    rw[QeG (dead:=fun y=>Qa6 y (down++done)) dd 31 l qv]
  ·rw[if_neg q,Qda]
   unfold Ql5
   by_cases qm:n∈Qa0 hs done
   ·rw[if_pos (memS_t.mpr qm)]
    have lnd:(Qa0 hs done).Nodup:=List.Nodup.sublist List.filter_sublist hnd
    have nhs:n∈hs:=(List.mem_filter.mp qm).1
    by_cases q1:(Qa0 hs done).length=1
    ·rw[if_pos q1]
     obtain⟨x,ex⟩:=List.length_eq_one_iff.mp q1
     rw[ex]at qm ⊢
     have:x=n:=(List.mem_singleton.mp qm).symm
     subst this
     rw[if_pos (by simp),QbW,if_pos (memS_t.mpr nhs)]
     rw[Qdr (dead:=fun y=>Qa6 y (down++done)) dd]
    ·rw[if_neg q1]
     have hne:((Qa0 hs done).filter fun s=>!decide (s=n))≠[]:=by
      intro z
      have hall:=List.filter_eq_nil_iff.mp z
      have hone:∀ s∈Qa0 hs done,s=n:=fun s hs'=>by simpa using hall s hs'
      match hl:Qa0 hs done with
      |[]=>exact q hl
      |[a]=>rw[hl]at q1;exact q1 rfl
      |a::b::r =>
       rw[hl]at lnd hone
       have e1:=hone a (by simp)
       have e2:=hone b (by simp)
       rw[List.nodup_cons]at lnd
       exact lnd.1 (by rw[e1,e2];simp)
     rw[if_neg hne]
   ·rw[if_neg (fun z=>qm (memS_t.mp z)),QjH qm,if_neg q]
theorem QlY {nx:Str→Option Str}{P:List Str} (hP:P.length≤30) (hx:∀ x y,nx x=some y→y∈P) (hcr:Qbm∉P) {down hs order:List Str}{l0:Str} (hnd:hs.Nodup) (h0:hs≠[]) (nd:order.Nodup) (hm:∀ s∈order,s∈P∧s∉down):Qc3 nx order down hs=dueH nx down order hs l0:=by
 have:=Qie (l0:=l0) (down:=down) hP hx hcr hnd h0 order [] hs nd hm (by
  have e:Qa0 hs []=hs:=List.filter_eq_self.mpr fun s _=>rfl
  unfold dueH
  rw[e,if_neg h0])
 rwa [List.append_nil,List.nil_append]at this
theorem Qct {cf:CF}{is:List Nat}{n:Nat}{a elt:E}{σ:Qai}{h:Qac}{x:W}{ws:List W}{F:W→W} (ea:evE cf a σ h=.ok x h) (hs:seqA h x=some ws) (hr:∀ k,Qd8 x=some k→k<h.length) (hm:ws.length≤1000)
  (hF:∀ w∈ws,Qan (F w)=true∧∃ σ',QaG is w (clr is σ++List.replicate n none)=some σ'∧∀ hh,evE cf elt σ' hh=.ok (F w) hh):evE cf (.compS is n a [] elt) σ h=.ok (.lst (ws.map F)) h:=by
 rw[evE,ea,bnd_ok,Qgm hs]
 dsimp only
 rw[QiH (F:=F) rfl hr ws [] (fun w hw us=>?_) (by rw[List.length_nil];omega),QcT rfl,List.nil_append]
 obtain⟨p,σ',eb,ee⟩:=hF w hw
 exact⟨QeD eb (ee _),p⟩
theorem Seq.noref {t:W}{ws:List W} (h:Seq t ws):∀ {m:Nat} (k:Nat),Qd8 t=some k→k<m:=fun k e=>by rcases h with rfl | rfl<;>cases e
theorem Seq.dic {t:W}{ws:List W} (h:Seq t ws) (hh:Qac):Qbt hh t=none:=by rcases h with rfl | rfl<;>rfl
theorem ev_zip {cf:CF}{a b:E}{σ:Qai}{h:Qac}{x y:W}{us vs:List W} (ea:evE cf a σ h=.ok x h) (eb:evE cf b σ h=.ok y h) (hx:Seq x us) (hy:Seq y vs):evE cf (.zipE a b) σ h=.ok (.lst (List.zipWith (fun u v=>W.tup [u,v]) us vs)) h:=by
 rw[evE,ea,bnd_ok,eb,bnd_ok,hx.seqA [],hy.seqA []]
theorem QcQ {α:Type} (g k:α→W):∀ xs:List α,List.zipWith (fun u v=>W.tup [u,v]) (xs.map g) (xs.map k)=xs.map fun x=>W.tup [g x,k x]
 |[]=>rfl
 |x::xs=>by
  rw[List.map_cons,List.map_cons,List.zipWith_cons_cons,QcQ g k xs];rfl
noncomputable abbrev Qbv:List S:=[.ret (.blt .tuple [(.compS [2] 1 (.var 0) [(.cmp .NotIn (.var 2) (.var 1))] (.var 2))])]
theorem Qcf {fw:Nat}{tb:List Fn}{f:Nat} (hf:tb[f]?=some ⟨2,2,Qbv,none⟩) (d:Nat) (x y:W) (hs gs:List Str) (h:Qac) (hx:Seq x (hs.map W.str)) (hy:Seq y (gs.map W.str)) (hl:hs.length≤1000):Qae fw tb (d+1) f [x,y] h=.ok (.tup ((Qa0 hs gs).map W.str)) h:=by
 rw[Qak hf rfl]
 generalize Qae fw tb d=cf
 show J.fin h.length (exB cf fw Qbv [some x,some y] h)=_
 have e:exB cf fw Qbv [some x,some y] h=.ok (.ret (.tup ((Qa0 hs gs).map W.str))) h :=
  Qal (Qa2 (Qb6 (QbI (i:=2) (n:=1) (ss:=hs) (p:=fun s=>!Qa6 s gs) (Qaa (i:=0) rfl) (hx.seqA h) hl (fun s _ hh=>QcI (ss:=gs) (y:=y) (Qaa (i:=2) rfl) (Qaa (i:=1) rfl) (hy.dic hh) (hy.seqA hh)) (by show 2<2+1;decide))))
 rw[e]
 exact Qbz (Qaz _)
theorem Qk9 (s name:Str):Qa6 s [name]=decide (s=name):=by
 rw[Qao,Bool.eq_iff_iff]
 simp
theorem Qin (hs:List Str) (n:Str):Qa0 hs [n]=hs.filter fun s=>!decide (s=n):=by
 unfold Qa0
 congr 1
 funext s
 rw[Qk9]
noncomputable def aftW (hs:List Str) (n heir:Str):List Str:=if Qa6 n hs=true then (if hs.length=1 then [heir] else hs.filter fun s=>!decide (s=n)) else hs
noncomputable abbrev Qdl (w:Nat):List S:=[.if_ (.cmp .NotIn (.var 1) (.var 0)) [.ret (.var 0)] [],.if_ (.cmp .Eq (.blt .len [(.var 0)]) (.con (.int 1))) [.ret (.tup [(.var 2)])] [],.ret (.call w [(.var 0),(.tup [(.var 1)])])]
theorem QhB {fw:Nat}{tb:List Fn}{f wi:Nat} (hf:tb[f]?=some ⟨3,3,Qdl wi,none⟩) (hw:tb[wi]?=some ⟨2,2,Qbv,none⟩) (d:Nat) (hs:List Str) (n heir:Str) (h:Qac) (hl:hs.length≤1000):Qae fw tb (d+2) f [.tup (hs.map W.str),.str n,.str heir] h=.ok (.tup ((aftW hs n heir).map W.str)) h:=by
 rw[Qak hf rfl]
 have wr:=Qcf (fw:=fw) hw d (.tup (hs.map W.str)) (.tup [.str n]) hs [n] h (.inr rfl) (.inr rfl) hl
 generalize Qae fw tb (d+1)=cf at *
 let σ:Qai:=[some (.tup (hs.map W.str)),some (.str n),some (.str heir)]
 show J.fin h.length (exB cf fw (Qdl wi) σ h)=_
 have t1:=QcI (cf:=cf) (σ:=σ) (h:=h) (a:=.var 1) (b:=.var 0) (x:=n) (y:=.tup (hs.map W.str)) (ss:=hs) (Qaa (i:=1) rfl) (Qaa (i:=0) rfl) rfl rfl
 have t2:=QcF (cf:=cf) (σ:=σ) (h:=h) (n:=1) (len_hs (hs:=hs) (Qaa (i:=0) rfl)) Qah
 have e:exB cf fw (Qdl wi) σ h=.ok (.ret (.tup ((aftW hs n heir).map W.str))) h:=by
  unfold aftW
  cases hm:Qa6 n hs with
  |false =>
   rw[hm]at t1
   rw[if_neg (by decide)]
   exact Qal ((Qea t1).trans (Qal (Qa2 (Qaa (i:=0) rfl))))
  |true =>
   rw[hm]at t1
   rw[if_pos rfl]
   refine(Qab (Qbf t1)).trans ?_
   by_cases q:hs.length=1
   ·rw[decide_eq_true q]at t2
    rw[if_pos q]
    exact Qal ((Qea t2).trans (Qal (Qa2 (QaI (Qad (Qaa (i:=2) rfl) Qag) (by show 1≤1000;decide)))))
   ·rw[decide_eq_false q]at t2
    rw[if_neg q]
    refine(Qab (Qbf t2)).trans (Qal (Qa2 (Qaq (Qaa (i:=0) rfl) (QaI (Qad (Qaa (i:=1) rfl) Qag) (by show 1≤1000;decide)) ?_)))
    rw[wr,Qin]
 rw[e]
 exact Qbz (Qaz _)
theorem Qfr (nx:Str→Option Str):∀ (o:List Str) (n:Str) (gone cur:List Str),Qc3 nx (o++[n]) gone cur=Ql5 nx (gone++o) n (Qc3 nx o gone cur)
 |[],n,gone,cur=>by rw[List.append_nil];rfl
 |m::o,n,gone,cur=>by
  show Qc3 nx (o++[n]) (gone++[m]) (Ql5 nx gone m cur)=_
  rw[Qfr nx o n]
  rw[List.append_assoc]
  rfl
theorem Qk7 {nx:Str→Option Str}{g cur:List Str}{n:Str} (h:cur.length≤6):(Ql5 nx g n cur).length≤6:=by
 unfold Ql5
 split
 ·split
  ·simp
  ·exact Nat.le_trans (List.length_filter_le _ _) h
 ·exact h
theorem Qgw {nx:Str→Option Str}:∀ {o g cur:List Str},cur.length≤6→(Qc3 nx o g cur).length≤6
 |[],_,_,h=>h
 |n::o,g,cur,h=>Qgw (o:=o) (g:=g++[n]) (cur:=Ql5 nx g n cur) (Qk7 h)
noncomputable abbrev QlB (hr ha:Nat):List S:=[.asg 6 (.call hr [(.var 7),(.var 2),(.var 5)]),.asg 4 (.compS [8] 1 (.var 4) [] (.call ha [(.var 8),(.var 7),(.var 6)])),.exp (.meth .append (.var 5) [(.var 7)])]
noncomputable abbrev QgF (hr ha:Nat):List S:=[.asg 4 (.compS [8] 1 (.var 0) [] (.ix (.var 8) (.con (.int 1)))),.fresh 5 (.blt .list [(.var 3)]),.for_ [7] (.seq (.var 1)) (QlB hr ha),.ret (.compS [8,9] 2 (.zipE (.var 0) (.var 4)) [] (.tup [(.ix (.var 8) (.con (.int 0))),(.var 9)]))]
noncomputable abbrev hdW (hs:List Str):W:=.tup (hs.map W.str)
noncomputable def hdOf (w:W):W:=match w with
 |.tup [_,b,_]=>b
 |_=>.non
noncomputable def shOf (w:W):W:=match w with
 |.tup [.tup [a,_,_],v]=>.tup [a,v]
 |_=>.non
theorem Qix {fw:Nat}{tb:List Fn}{f hr ha wi:Nat} (hf:tb[f]?=some ⟨4,8,QgF hr ha,none⟩) (hhr:tb[hr]?=some ⟨3,5,Qfw,none⟩) (hha:tb[ha]?=some ⟨3,3,Qdl wi,none⟩) (hwi:tb[wi]?=some ⟨2,2,Qbv,none⟩) (d:Nat) (t row:W) (xs:List Pt) (order ks vs dead P:List Str) (h:Qac)
  (ht:Seq t (xs.map ptW)) (hrow:Seq row (order.map W.str)) (hP:P.length≤30) (ho:∀ s∈order,s∈P) (hv:∀ y∈vs,y∈P) (hl:ks.length=vs.length) (hw:31≤fw) (hx:∀ x∈xs,x.Ok) (hxl:xs.length≤1000) (hdl:dead.length≤1000) (hol:order.length≤1000) :
  Qae fw tb (d+3) f [t,row,.dic ks (vs.map W.str),.lst (dead.map W.str)] h=.ok (.lst (xs.map fun x=>.tup [sh x.p x.q,hdW (Qc3 (nxS ks vs) order dead x.hs)])) h:=by
 rw[Qak hf rfl]
 have c1:=fun (name:Str) (gone:List Str) (hh:Qac) (dW:W) (q:∀ o,Qbt (hh++[o]) dW=none∧seqA (hh++[o]) dW=some (gone.map W.str)) (hn:name∈P)=>QgX (fw:=fw) hhr (d+1) name ks vs gone P hh dW q hP hn hv hl hw
 have c2:=fun (hs:List Str) (n heir:Str) (hh:Qac) (hl:hs.length≤1000)=>QhB (fw:=fw) hha hwi d hs n heir hh hl
 generalize Qae fw tb (d+2)=cf at *
 let D:W:=.dic ks (vs.map W.str)
 let dl:W:=.lst (dead.map W.str)
 show J.fin h.length (exB cf fw (QgF hr ha) [some t,some row,some D,some dl,none,none,none,none] h)=_
 let hss:List Str→List W:=fun o=>xs.map fun x=>hdW (Qc3 (nxS ks vs) o dead x.hs)
 have e1:evE cf (.compS [8] 1 (.var 0) [] (.ix (.var 8) (.con (.int 1)))) [some t,some row,some D,some dl,none,none,none,none] h=.ok (.lst (hss [])) h:=by
  have:=Qct (cf:=cf) (is:=[8]) (n:=1) (a:=.var 0) (elt:=.ix (.var 8) (.con (.int 1))) (σ:=[some t,some row,some D,some dl,none,none,none,none]) (h:=h) (F:=hdOf) (Qaa (i:=0) rfl) (ht.seqA h) ht.noref (by rw[List.length_map];exact hxl) (fun w hw=>by
   obtain⟨x,hx',rfl⟩:=List.mem_map.mp hw
   exact⟨by show Qan (.tup (x.hs.map W.str))=true;rw[Qan];exact Qaz _,_,rfl,fun hh=>Qnj (x:=x) (Qaa (i:=8) rfl)⟩)
  rw[this,List.map_map]
  rfl
 have e2:exS cf fw (.fresh 5 (.blt .list [(.var 3)])) [some t,some row,some D,some dl,some (.lst (hss [])),none,none,none] h=.ok (.nx [some t,some row,some D,some dl,some (.lst (hss [])),some (.ref h.length),none,none]) (h++[.lst (dead.map W.str)]) :=
  Qjn (Qaa (i:=3) (w:=dl) rfl) rfl (Qaz _)
 let Iv:Nat→Qai→Qac→Prop:=fun k σ hh=>∃ r6 r7,σ=[some t,some row,some D,some dl,some (.lst (hss (order.take k))),some (.ref h.length),r6,r7]∧hh=h++[.lst ((dead++order.take k).map W.str)]
 have lp:∃ σ2 hh,fo [7] (exB cf fw (QlB hr ha)) (order.map W.str) [some t,some row,some D,some dl,some (.lst (hss [])),some (.ref h.length),none,none] (h++[.lst (dead.map W.str)])=.ok (.nx σ2) hh∧Iv (0+(order.map W.str).length) σ2 hh:=by
  refine Qi4 (Iv:=Iv) (order.map W.str) 0 _ _ (fun j w σ hh ew q=>?_) ⟨none,none,by simp,by simp⟩
  rw[Nat.zero_add]at q ⊢
  obtain⟨r6,r7,rfl,rfl⟩:=q
  rw[List.getElem?_map]at ew
  obtain⟨n,en,rfl⟩:=Option.map_eq_some_iff.mp ew
  have hn:n∈order:=List.mem_of_getElem? en
  have hj:=(List.getElem?_eq_some_iff.mp en).1
  have tk:order.take (j+1)=order.take j++[n]:=by rw[List.take_succ,en];rfl
  let hh:Qac:=h++[.lst ((dead++order.take j).map W.str)]
  let he:Str:=Qbe (nxS ks vs) (fun y=>Qa6 y (dead++order.take j)) n 31 n
  have g:∀ o:Ob,(hh++[o])[h.length]?=some (.lst ((dead++order.take j).map W.str)):=fun o=>by
   rw[List.getElem?_append_left (by simp[hh])];exact Qa8
  have ch:=c1 n (dead++order.take j) hh (.ref h.length) (fun o=>⟨by
   show (match (hh++[o])[h.length]? with | some (.dic ks ws)=>some (ks,ws) | _=>none)=_
   rw[g o],Qhi (g o)⟩) (ho n hn)
  refine⟨[some t,some row,some D,some dl,some (.lst (hss (order.take j))),some (.ref h.length),r6,some (.str n)],[some t,some row,some D,some dl,some (.lst (hss (order.take (j+1)))),some (.ref h.length),some (.str he),some (.str n)],h++[.lst ((dead++order.take (j+1)).map W.str)],rfl,?_,some (.str he),some (.str n),rfl,rfl⟩
  refine(Qab (Qaf (w:=.str he) (QaF (Qad (Qaa (i:=7) rfl) (Qad (Qaa (i:=2) rfl) (Qad (Qaa (i:=5) rfl) Qag))) ch))).trans ?_
  have e4:evE cf (.compS [8] 1 (.var 4) [] (.call ha [(.var 8),(.var 7),(.var 6)])) [some t,some row,some D,some dl,some (.lst (hss (order.take j))),some (.ref h.length),some (.str he),some (.str n)] hh=.ok (.lst (hss (order.take (j+1)))) hh:=by
   have:=Qct (cf:=cf) (is:=[8]) (n:=1) (a:=.var 4) (elt:=.call ha [(.var 8),(.var 7),(.var 6)]) (σ:=[some t,some row,some D,some dl,some (.lst (hss (order.take j))),some (.ref h.length),some (.str he),some (.str n)]) (h:=hh) (x:=.lst (hss (order.take j))) (ws:=hss (order.take j))
    (F:=fun w=>match w with | .tup ws=>(match Qb2 ws with | some hs=>hdW (aftW hs n he) | none=>.non) | _=>.non) (Qaa (i:=4) rfl) rfl (fun k e=>by cases e) (by show (xs.map _).length≤1000;rw[List.length_map];exact hxl) (fun w hw=>by
    obtain⟨x,hx',rfl⟩:=List.mem_map.mp hw
    dsimp only
    rw[Qb4]
    refine⟨by show Qan (.tup _)=true;rw[Qan];exact Qaz _,_,rfl,fun hh2=>QaF (Qad (Qaa (i:=8) rfl) (Qad (Qaa (i:=7) rfl) (Qad (Qaa (i:=6) rfl) Qag))) (c2 _ n he hh2 ?_)⟩
    exact Nat.le_trans (Qgw (hx x hx').h1) (by decide))
   rw[this]
   show Res.ok (W.lst ((xs.map _).map _)) hh=_
   rw[List.map_map]
   refine congrArg (fun l=>Res.ok (W.lst l) hh) (List.map_congr_left fun x _=>?_)
   show (match Qb2 ((Qc3 (nxS ks vs) (order.take j) dead x.hs).map W.str) with | some hs=>hdW (aftW hs n he) | none=>.non)=_
   rw[Qb4,tk,Qfr]
   rfl
  refine(Qab (Qaf e4)).trans ?_
  refine(Qab (Qdy (QbR (i:=5) (n:=h.length) (us:=(dead++order.take j).map W.str) (w:=.str n) rfl Qa8 (Qaa (i:=7) rfl) rfl (by rw[List.length_map,List.length_append,List.length_take];omega)))).trans ?_
  rw[exB,Qbl,tk,← List.append_assoc,List.map_append (l₂:=[n])]
  rfl
 obtain⟨σ2,hh,lp,r6,r7,rfl,rfl⟩:=lp
 rw[Nat.zero_add,List.length_map,List.take_length]at lp
 have e5:evE cf (.compS [8,9] 2 (.zipE (.var 0) (.var 4)) [] (.tup [(.ix (.var 8) (.con (.int 0))),(.var 9)])) [some t,some row,some D,some dl,some (.lst (hss order)),some (.ref h.length),r6,r7] (h++[.lst ((dead++order).map W.str)])=.ok (.lst (xs.map fun x=>.tup [sh x.p x.q,hdW (Qc3 (nxS ks vs) order dead x.hs)])) (h++[.lst ((dead++order).map W.str)]):=by
  have:=Qct (cf:=cf) (is:=[8,9]) (n:=2) (a:=.zipE (.var 0) (.var 4)) (elt:=.tup [(.ix (.var 8) (.con (.int 0))),(.var 9)]) (σ:=[some t,some row,some D,some dl,some (.lst (hss order)),some (.ref h.length),r6,r7]) (h:=h++[.lst ((dead++order).map W.str)]) (F:=shOf)
   (ev_zip (Qaa (i:=0) rfl) (Qaa (i:=4) rfl) ht (.inl rfl)) rfl (fun k e=>by cases e) (by rw[QcQ,List.length_map];exact hxl) (fun w hw=>by
   rw[QcQ]at hw
   obtain⟨x,hx',rfl⟩:=List.mem_map.mp hw
   refine⟨?_,_,rfl,fun hh2=>QaI (Qad (ix_sh (x:=x) (Qaa (i:=8) rfl)) (Qad (Qaa (i:=9) rfl) Qag)) (by show 2≤1000;decide)⟩
   show Qan (.tup [sh x.p x.q,hdW (Qc3 (nxS ks vs) order dead x.hs)])=true
   simp[Qan,Qam,Qaz])
  rw[this,QcQ,List.map_map]
  rfl
 have e:exB cf fw (QgF hr ha) [some t,some row,some D,some dl,none,none,none,none] h=.ok (.ret (.lst (xs.map fun x=>.tup [sh x.p x.q,hdW (Qc3 (nxS ks vs) order dead x.hs)]))) (h++[.lst ((dead++order).map W.str)]):=by
  refine(Qab (Qaf e1)).trans ((Qab e2).trans ((Qab ((Qca (Qaa (i:=1) rfl) hrow).trans lp)).trans (Qal (Qa2 e5))))
 rw[e]
 show (match unr _ h.length (.lst _) with | some u=>Res.ok u ((h++[Ob.lst ((dead++order).map W.str)]).take h.length) | none=>.stuck)=_
 rw[Qbu _ (by
  rw[Qan]
  refine Qfm fun w hw=>?_
  obtain⟨x,_,rfl⟩:=List.mem_map.mp hw
  simp[Qan,Qam,Qaz]),List.take_left]
theorem eqvS:∀ hs us:List Str,PyData.eqvAll (QdP (hs.map W.str)) (QdP (us.map W.str))=decide (hs=us)
 |[],[]=>by simp[QdP,PyData.eqvAll]
 |[],_::_=>by simp[QdP,PyData.eqvAll]
 |_::_,[]=>by simp[QdP,PyData.eqvAll]
 |h::hs,u::us=>by
  rw[List.map_cons,List.map_cons,QdP,QdP,toP,toP,PyData.eqvAll,PyData.eqv,eqvS hs us,Bool.eq_iff_iff]
  simp
theorem QcJ {hs:List Str} (h:∀ s∈hs,QeF s):SeqAt.shaped (toP (.lst (hs.map W.str)))=true:=by
 rw[toP]
 unfold SeqAt.shaped
 rw[PyData.canLay0,QgJ h,PyData.depth,QfF]
 rfl
theorem eqW_L {h:Qac}{hs us:List Str} (h1:∀ s∈hs,QeF s) (h2:∀ s∈us,QeF s):eqW h (.lst (hs.map W.str)) (.lst (us.map W.str))=some (decide (hs=us)):=by
 have d1:∀ zs:List Str,Qcy h (.lst (zs.map W.str))=some (.lst (zs.map W.str)):=fun zs=>by
  show (if okP (.lst (zs.map W.str))=true then some _ else none)=_
  rw[okP,if_pos (Qhl zs)]
 show (match Qcy h (.lst (hs.map W.str)),Qcy h (.lst (us.map W.str)) with | some a,some b=>(if (SeqAt.shaped (toP a)&&SeqAt.shaped (toP b))=true then some (PyData.eqv (toP a) (toP b)) else none) | _,_=>none)=_
 rw[d1,d1]
 dsimp only
 rw[QcJ h1,QcJ h2,if_pos (show (true&&true)=true from rfl),toP,toP,PyData.eqv,eqvS]
theorem ev_neL {cf:CF}{a b:E}{σ:Qai}{h:Qac}{hs us:List Str} (ea:evE cf a σ h=.ok (.lst (hs.map W.str)) h) (eb:evE cf b σ h=.ok (.lst (us.map W.str)) h) (h1:∀ s∈hs,QeF s) (h2:∀ s∈us,QeF s):evT cf (.cmp .NotEq a b) σ h=.ok (!decide (hs=us)) h:=by
 refine Qa5 (Qbp ea eb ?_)
 show (match eqW h (.lst (hs.map W.str)) (.lst (us.map W.str)) with | some b=>okB (!b) h | none=>.stuck)=_
 rw[eqW_L h1 h2]
 rfl
theorem ev_eqL {cf:CF}{a b:E}{σ:Qai}{h:Qac}{hs us:List Str} (ea:evE cf a σ h=.ok (.lst (hs.map W.str)) h) (eb:evE cf b σ h=.ok (.lst (us.map W.str)) h) (h1:∀ s∈hs,QeF s) (h2:∀ s∈us,QeF s):evT cf (.cmp .Eq a b) σ h=.ok (decide (hs=us)) h:=by
 refine Qa5 (Qbp ea eb ?_)
 show (match eqW h (.lst (hs.map W.str)) (.lst (us.map W.str)) with | some b=>okB b h | none=>.stuck)=_
 rw[eqW_L h1 h2]
 rfl
noncomputable abbrev tWays (a : Nat) : List S := [.asg 7 (.bin .Add (.call a [(.var 0), (.bin .Add (.bin .Add (.var 1) (.con (.int 1))) (.bin .Mod (.var 6) (.con (.int 6))))]) (.bin .FloorDiv (.var 6) (.con (.int 6)))),
 .if_ (.and_ (.cmp .Lt (.bin .Mod (.call a [(.var 0),(.var 1)]) (.con (.int 4))) (.con (.int 2))) (.cmp .Lt (.bin .Mod (.var 7) (.bin .Add (.var 4) (.con (.int 1)))) (.var 4))) [.setix (.var 3) (.ix (.var 2) (.var 6)) (.ix (.var 2) (.bin .Mod (.var 7) (.bin .Add (.var 4) (.con (.int 1)))))] [],
 .if_ (.and_ (.cmp .Eq (.bin .Mod (.call a [(.var 0),(.var 1)]) (.con (.int 4))) (.con (.int 2))) (.cmp .Lt (.bin .Add (.var 6) (.var 5)) (.var 4))) [.setix (.var 3) (.ix (.var 2) (.var 6)) (.ix (.var 2) (.bin .Add (.var 6) (.var 5)))] [],
 .if_ (.cmp .Eq (.bin .Mod (.call a [(.var 0), (.var 1)]) (.con (.int 4))) (.con (.int 3))) [.setix (.var 3) (.ix (.var 2) (.var 6)) (.ix (.var 2) (.bin .Mod (.bin .Add (.var 6) (.var 5)) (.var 4)))] []]
noncomputable abbrev QmW (a : Nat) : List S := [.freshD 3,
 .asg 4 (.blt .len [(.var 2)]),
 .asg 5 (.bin .Add (.con (.int 1)) (.bin .Mod (.bin .FloorDiv (.call a [(.var 0),(.var 1)]) (.con (.int 4))) (.con (.int 5)))),
 .for_ [6] (.rng [(.var 4)]) (tWays a),
 .ret (.var 3)]
theorem QkQ {fw:Nat}{tb:List Fn}{f a:Nat} (hf:tb[f]?=some ⟨3,8,QmW a,none⟩) (ha:tb[a]?=some ⟨2,2,bAt,none⟩) (d:Nat) (ns:List Int) (j0:Nat) (P:List Str) (h:Qac) (p1:0<P.length) (p2:P.length≤30) :
  ∃ ks vs:List Str,Qae fw tb (d+2) f [.scr (ns.map W.int),nat j0,.lst (P.map W.str)] h=.ok (.dic ks (vs.map W.str)) h∧ks.length=vs.length∧ks.length≤1000∧∀ v∈vs,v∈P:=by
 rw[Qak hf rfl]
 have c:∀ (k:Nat) (h:Qac),Qae fw tb (d+1) a [.scr (ns.map W.int),.int (k:Int)] h=.ok (.int (cell ns k)) h:=fun k h=>Qff ha d ns k h
 generalize Qae fw tb (d+1)=cf at *
 obtain⟨st,e2,h2⟩:=QaB (cell ns j0) (show 0<4 by decide)
 obtain⟨hp,e3,h3⟩:=QaB ((cell ns j0).fdiv ((4:Nat):Int)) (show 0<5 by decide)
 let z:Option W:=some (.scr (ns.map W.int))
 let p:Option W:=some (.lst (P.map W.str))
 have s_:∀ (σ:Qai) (h:Qac),σ[0]?=some z→σ[1]?=some (some (nat j0))→evE cf (.bin .Mod (.call a [(.var 0),(.var 1)]) (.con (.int 4))) σ h=.ok (nat st) h:=fun σ h h0 h1=>Qax (C:=4) (Qaq (Qaa h0) (Qaa h1) (c j0 h)) Qah (by decide) e2
 let Iv:Nat→Qai→Qac→Prop:=fun k σ hh=>∃ r6 r7,∃ ks vs:List Str,σ=[z,some (nat j0),p,some (.ref h.length),some (nat P.length),some (nat (1+hp)),r6,r7]∧hh=h++[.dic ks (vs.map W.str)]∧ks.length=vs.length∧ks.length≤3*k∧∀ v∈vs,v∈P
 have lp:∃ σ2 hh,fo [6] (exB cf fw (tWays a)) ((List.range P.length).map fun (k:Nat)=>W.int (0+(k:Int))) [z,some (nat j0),p,some (.ref h.length),some (nat P.length),some (nat (1+hp)),none,none] (h++[.dic [] []])=.ok (.nx σ2) hh∧Iv P.length σ2 hh:=by
  refine Qfv (fun k σ hh hk q=>?_) ⟨none,none,[],[],rfl,rfl,rfl,by simp,by simp⟩
  obtain⟨r6,r7,ks,vs,rfl,rfl,l1,l2,l3⟩:=q
  let C:Int:=cell ns (j0+1+k % 6)+((k / 6:Nat):Int)
  obtain⟨cc,e4,h4⟩:=QaB C (show 0<P.length+1 by omega)
  let σ1:Qai:=[z,some (nat j0),p,some (.ref h.length),some (nat P.length),some (nat (1+hp)),some (nat k),some (.int C)]
  have kx:∀ hh,∃ x∈P,evE cf (.ix (.var 2) (.var 6)) σ1 hh=.ok (.str x) hh:=fun hh=>by
   obtain⟨s,hs,e⟩:=ix_P hk hh
   exact⟨s,hs,QaS (Qaa (i:=2) rfl) (Qaa (i:=6) rfl) e⟩
  have yx:∀ (e:E) (j:Nat) hh,evE cf e σ1 hh=.ok (nat j) hh→j<P.length→∃ x∈P,evE cf (.ix (.var 2) e) σ1 hh=.ok (.str x) hh:=fun e j hh he hj=>by
   obtain⟨s,hs,e⟩:=ix_P hj hh
   exact⟨s,hs,QaS (Qaa (i:=2) rfl) he e⟩
  have m1:∀ hh,evE cf (.bin .Mod (.var 7) (.bin .Add (.var 4) (.con (.int 1)))) σ1 hh=.ok (nat cc) hh:=fun hh=>Qax (C:=P.length+1) (Qaa (i:=7) rfl) (Qay (n:=1) (Qaa (i:=4) rfl) Qah) (by omega) e4
  have m2:∀ hh,evE cf (.bin .Add (.var 6) (.var 5)) σ1 hh=.ok (nat (k+(1+hp))) hh:=fun hh=>Qay (Qaa (i:=6) rfl) (Qaa (i:=5) rfl)
  have m3:∀ hh,evE cf (.bin .Mod (.bin .Add (.var 6) (.var 5)) (.var 4)) σ1 hh=.ok (nat ((k+(1+hp)) % P.length)) hh:=fun hh=>QaU (m2 hh) (Qaa (i:=4) rfl) p1
  have s0:exS cf fw (.asg 7 (.bin .Add (.call a [(.var 0),(.bin .Add (.bin .Add (.var 1) (.con (.int 1))) (.bin .Mod (.var 6) (.con (.int 6))))]) (.bin .FloorDiv (.var 6) (.con (.int 6))))) ([z,some (nat j0),p,some (.ref h.length),some (nat P.length),some (nat (1+hp)),some (nat k),r7]:Qai) (h++[.dic ks (vs.map W.str)])=.ok (.nx σ1) (h++[.dic ks (vs.map W.str)]) :=
   Qaf (w:=.int C) (QbA (Qaq (Qaa (i:=0) rfl) (Qay (Qay (n:=1) (Qaa (i:=1) rfl) Qah) (QaU (n:=6) (Qaa (i:=6) rfl) Qah (by decide))) (c (j0+1+k % 6) _)) (QaN (n:=6) (Qaa (i:=6) rfl) Qah (by decide) (lt9 (by decide))))
  obtain⟨ks1,vs1,s1,q1,q2,q3⟩:=Qi3 (cf:=cf) (fw:=fw) (i:=3) (σ:=σ1) (h:=h) (ks:=ks) (vs:=vs) (P:=P) (k:=.ix (.var 2) (.var 6)) (e:=.ix (.var 2) (.bin .Mod (.var 7) (.bin .Add (.var 4) (.con (.int 1)))))
   (Qck (QdE (m:=st) (n:=2) (s_ _ _ rfl rfl) Qah) (QdE (m1 _) (Qaa (i:=4) rfl))) rfl (fun hb=>by
    obtain⟨x,hx,ex⟩:=kx (h++[.dic ks (vs.map W.str)])
    obtain⟨y,hy,ey⟩:=yx _ cc (h++[.dic ks (vs.map W.str)]) (m1 _) (by simp at hb;exact hb.2)
    exact⟨x,y,ex,ey,hy⟩) l1 l3 (by omega)
  obtain⟨ks2,vs2,s2,q4,q5,q6⟩:=Qi3 (cf:=cf) (fw:=fw) (i:=3) (σ:=σ1) (h:=h) (ks:=ks1) (vs:=vs1) (P:=P) (k:=.ix (.var 2) (.var 6)) (e:=.ix (.var 2) (.bin .Add (.var 6) (.var 5)))
   (Qck (QcF (m:=st) (n:=2) (s_ _ _ rfl rfl) Qah) (QdE (m2 _) (Qaa (i:=4) rfl))) rfl (fun hb=>by
    obtain⟨x,hx,ex⟩:=kx (h++[.dic ks1 (vs1.map W.str)])
    obtain⟨y,hy,ey⟩:=yx _ (k+(1+hp)) (h++[.dic ks1 (vs1.map W.str)]) (m2 _) (by simp at hb;exact hb.2)
    exact⟨x,y,ex,ey,hy⟩) q1 q3 (by omega)
  obtain⟨ks3,vs3,s3,q7,q8,q9⟩:=Qi3 (cf:=cf) (fw:=fw) (i:=3) (σ:=σ1) (h:=h) (ks:=ks2) (vs:=vs2) (P:=P) (k:=.ix (.var 2) (.var 6)) (e:=.ix (.var 2) (.bin .Mod (.bin .Add (.var 6) (.var 5)) (.var 4)))
   (QcF (m:=st) (n:=3) (s_ _ _ rfl rfl) Qah) rfl (fun hb=>by
    obtain⟨x,hx,ex⟩:=kx (h++[.dic ks2 (vs2.map W.str)])
    obtain⟨y,hy,ey⟩:=yx _ ((k+(1+hp)) % P.length) (h++[.dic ks2 (vs2.map W.str)]) (m3 _) (Nat.mod_lt _ p1)
    exact⟨x,y,ex,ey,hy⟩) q4 q6 (by omega)
  exact⟨σ1,_,(Qab s0).trans ((Qab s1).trans ((Qab s2).trans ((Qab s3).trans (by rw[exB])))),some (nat k),_,ks3,vs3,rfl,rfl,q7,by omega,q9⟩
 obtain⟨σ2,hh,lp,r6,r7,ks,vs,rfl,rfl,l1,l2,l3⟩:=lp
 refine⟨ks,vs,?_,l1,by omega,l3⟩
 show J.fin h.length (exB cf fw (QmW a) [z,some (nat j0),p,none,none,none,none,none] h)=_
 have e:exB cf fw (QmW a) [z,some (nat j0),p,none,none,none,none,none] h=.ok (.ret (.ref h.length)) (h++[.dic ks (vs.map W.str)]):=by
  refine(Qab (σ':=[z,some (nat j0),p,some (.ref h.length),none,none,none,none]) (h':=h++[.dic [] []]) (by rw[exS];rfl)).trans ?_
  refine(Qab (Qaf (Qbs (x:=.lst (P.map W.str)) (Qaa (i:=2) rfl) rfl))).trans ?_
  rw[List.length_map]
  refine(Qab (Qaf (Qay (m:=1) Qah (Qax (C:=5) (Qds (C:=4) (Qaq (Qaa (i:=0) rfl) (Qaa (i:=1) rfl) (c j0 _)) (by decide) (by decide)) Qah (by decide) e3)))).trans ?_
  refine(Qab ((QcK (Qaa (i:=4) rfl) (by omega)).trans lp)).trans ?_
  exact Qal (Qa2 (Qaa (i:=3) rfl))
 rw[e]
 exact Qml
noncomputable abbrev QiD : List S := [.if_ (.cmp .NotEq (.blt .len [(.var 0)]) (.blt .len [(.var 1)])) [.ret (.con (.bl false))] [],
 .for_ [2] (.seq (.var 1)) [.if_ (.or_ (.cmp .NotIn (.var 2) (.var 0)) (.or_ (.not_ (.isi (.ix (.var 0) (.var 2)) [.str])) (.cmp .NotEq (.ix (.var 0) (.var 2)) (.ix (.var 1) (.var 2))))) [.ret (.con (.bl false))] []],
 .ret (.con (.bl true))]
theorem Qjt {fw:Nat}{tb:List Fn}{f:Nat} (hf:tb[f]?=some ⟨2,3,QiD,none⟩) (d:Nat) (ks vs:List Str) (h:Qac) (hl:ks.length=vs.length):Qae fw tb (d+1) f [.dic ks (vs.map W.str),.dic ks (vs.map W.str)] h=.ok (.bl true) h:=by
 rw[Qak hf rfl]
 generalize Qae fw tb d=cf at *
 let D:Option W:=some (.dic ks (vs.map W.str))
 show J.fin h.length (exB cf fw QiD [D,D,none] h)=_
 obtain⟨r,f2⟩:=Qif (i:=2) (body:=exB cf fw [.if_ (.or_ (.cmp .NotIn (.var 2) (.var 0)) (.or_ (.not_ (.isi (.ix (.var 0) (.var 2)) [.str])) (.cmp .NotEq (.ix (.var 0) (.var 2)) (.ix (.var 1) (.var 2))))) [.ret (.con (.bl false))] []]) (σ:=[D,D,none]) (h:=h) (ks.map W.str) none (fun w hw=>by
  obtain⟨k,hk,rfl⟩:=List.mem_map.mp hw
  have g:=(QcS (ks:=ks) (ws:=vs.map W.str) (x:=k) (by rw[List.length_map];exact hl)).mpr hk
  obtain⟨y,ey⟩:=Option.isSome_iff_exists.mp g
  rw[QbG]at ey
  obtain⟨v,ev,rfl⟩:=Option.map_eq_some_iff.mp ey
  rw[← QbG]at ey
  have x0:=QgD (cf:=cf) (σ:=[D,D,some (.str k)]) (h:=h) (a:=.var 0) (b:=.var 2) (Qaa (i:=0) rfl) (Qaa (i:=2) rfl) rfl ey
  have x1:=QgD (cf:=cf) (σ:=[D,D,some (.str k)]) (h:=h) (a:=.var 1) (b:=.var 2) (Qaa (i:=1) rfl) (Qaa (i:=2) rfl) rfl ey
  refine(Qab (Qbf (Qcr (h1:=h) ((Ql0 (Qaa (i:=2) rfl) (Qaa (i:=0) rfl) rfl).trans (by rw[g];rfl)) (Qcr (h1:=h) (QbF (b:=true) (Qa5 (Qig (x:=.str v) (bs:=[true]) x0 rfl))) ((QlK x0 x1).trans (by rw[decide_eq_true rfl];rfl)))))).trans (by rw[exB];rfl))
 have e:exB cf fw QiD [D,D,none] h=.ok (.ret (.bl true)) h:=by
  refine(Qab (Qbf ((QgH (Qj6 (Qaa (i:=0) rfl)) (Qj6 (Qaa (i:=1) rfl))).trans (by rw[decide_eq_true rfl];rfl)))).trans ?_
  refine(Qab (σ':=[D,D,none].set 2 r) (h':=h) ?_).trans (Qal (Qa2 Qaj))
  rw[exS,Qaa (i:=1) (w:=.dic ks (vs.map W.str)) rfl,bnd_ok]
  exact f2
 rw[e]
 exact Qav
theorem cut_to {ws:List W}{k:Nat} (h:k≤ws.length):QjL ws none (some (k:Int))=ws.take k:=by
 unfold QjL
 rw[HT.sIx_none,HT.sIx_nat,Nat.min_eq_left h,List.drop_zero,Nat.sub_zero]
theorem QkG {ws:List W}{k:Nat} (h:k≤ws.length):QjL ws (some (k:Int)) none=ws.drop k:=by
 unfold QjL
 rw[HT.sIx_none,HT.sIx_nat,Nat.min_eq_left h,List.take_of_length_le (by rw[List.length_drop];exact Nat.le_refl _)]
theorem QiU {cf:CF}{a e:E}{σ:Qai}{h:Qac}{us:List W}{k:Nat} (ea:evE cf a σ h=.ok (.lst us) h) (ee:evE cf e σ h=.ok (nat k) h) (hk:k≤us.length):evE cf (.sl a none (some e)) σ h=.ok (.lst (us.take k)) h:=by
 rw[evE,ea,bnd_ok,QgW,bnd_ok,QgA ee,bnd_ok]
 show Res.ok (W.lst (QjL us none (some (k:Int)))) h=_
 rw[cut_to hk]
theorem QiP {cf:CF}{a e:E}{σ:Qai}{h:Qac}{us:List W}{k:Nat} (ea:evE cf a σ h=.ok (.lst us) h) (ee:evE cf e σ h=.ok (nat k) h) (hk:k≤us.length):evE cf (.sl a (some e) none) σ h=.ok (.lst (us.drop k)) h:=by
 rw[evE,ea,bnd_ok,QgA ee,bnd_ok,QgW,bnd_ok]
 show Res.ok (W.lst (QjL us (some (k:Int)) none)) h=_
 rw[QkG hk]
theorem Qe3 {cf:CF}{a b:E}{σ:Qai}{h:Qac}{us vs:List W} (ea:evE cf a σ h=.ok (.lst us) h) (eb:evE cf b σ h=.ok (.lst vs) h) (hl:us.length+vs.length≤1000):evE cf (.bin .Add a b) σ h=.ok (.lst (us++vs)) h:=by
 rw[evE,ea,bnd_ok,eb,bnd_ok]
 show okL (QfO (some us) (some vs) h)=_
 unfold QfO okL
 dsimp only
 rw[if_pos (by rw[sizeLine_eq];omega),bnd_ok]
theorem Qi5 {cf:CF}{a b c:E}{σ:Qai}{h:Qac}{x y:W}{k:Nat} (ea:evE cf a σ h=.ok x h) (eb:evE cf b σ h=.ok y h) (ec:evE cf c σ h=.ok (nat k) h) (hk:k<2):evE cf (.ix (.lst [a,b]) c) σ h=.ok (if k=0 then x else y) h:=by
 refine QaS (Qb3 (QaL ea eb) (by show 2≤1000;decide)) ec ?_
 match k,hk with
 |0,_=>exact Qf4 (k:=0) (t:=.lst [x,y]) rfl rfl
 |1,_=>exact Qf4 (k:=1) (t:=.lst [x,y]) rfl rfl
theorem map_take {P:List Str}{k:Nat}:(P.map W.str).take k=(P.take k).map W.str:=(List.map_take).symm
theorem map_drop {P:List Str}{k:Nat}:(P.map W.str).drop k=(P.drop k).map W.str:=(List.map_drop).symm
noncomputable def ppl (m how shift:Nat):List Str:=(List.range m).map (QaQ how shift)
theorem ppl_nd {m how shift:Nat} (hm:m≤60):(ppl m how shift).Nodup:=by
 unfold ppl
 rw[List.nodup_iff_pairwise_ne,List.pairwise_map]
 exact List.Pairwise.imp_of_mem (fun {a b} ha hb hne e=>hne (Qky how shift (by have:=List.mem_range.mp ha;omega) (by have:=List.mem_range.mp hb;omega) e)) (List.nodup_iff_pairwise_ne.mp List.nodup_range)
theorem QjU {m how shift:Nat}:∀ s∈ppl m how shift,QmS s:=fun s hs=>by
 obtain⟨k,_,rfl⟩:=List.mem_map.mp hs
 exact QhU how shift k
theorem ppl_nm {m how shift:Nat}:∀ s∈ppl m how shift,QeF s:=fun s hs=>by
 obtain⟨k,_,rfl⟩:=List.mem_map.mp hs
 exact Qmr how shift k
theorem Qnq {m how shift:Nat}:(ppl m how shift).length=m:=by simp[ppl]
theorem QjV {s:Str} (h:QmS s):s≠Qbm:=fun e=>by
 have:=h.1 67 (by rw[e];decide)
 omega
theorem gap {a b:Int}{m j k:Nat} (hj:j<m) (hk:k<m) (hd:a-b=(j:Int)-k∨a-b=(k:Int)-j) (e:a.fmod (m:Int)=b.fmod (m:Int)):j=k:=by
 rw[Int.fmod_eq_emod_of_nonneg _ (by omega),Int.fmod_eq_emod_of_nonneg _ (by omega),Int.emod_eq_emod_iff_emod_sub_eq_zero]at e
 have d:=Int.dvd_of_emod_eq_zero e
 have z:=Int.eq_zero_of_dvd_of_natAbs_lt_natAbs d (by omega)
 omega
structure Pt.G (fw:Nat) (x:Pt):Prop where
 q0:0<x.q
 qz:x.q*6<2 ^ 9000
 qf:x.q*6<fw
 pz:x.p<2 ^ 9000
 h0:1≤x.hs.length
 h1:x.hs.length≤6
 pu:Qam x.tr=true
 tl:x.tr.length≤900
noncomputable def evn (x:Pt):Nat×Nat:=low x.p (x.q*x.hs.length)
noncomputable def ext1 (heir:Str→Str) (g:List Str) (dd m:Nat) (x:Pt):List W:=if (Qa0 x.hs g).length=0 then x.hs.tail.mapIdx fun i s=>bhW x.tr dd (m+1+i) (evn x) [heir s] else []
noncomputable def newsF (heir:Str→Str) (g:List Str) (dd:Nat):List Pt→Nat→List W
 |[],_=>[]
 |x::xs,m=>ext1 heir g dd m x++newsF heir g dd xs (m+(ext1 heir g dd m x).length)
theorem Qmi {ws:List W}{h o:Qac} (hp:Qam ws=true):J.fin h.length (.ok (.ret (.lst ws)) (h++o))=.ok (.lst ws) h:=by
 unfold J.fin
 dsimp only
 rw[Qbu (.lst ws) (by rw[Qan];exact hp)]
 dsimp only
 rw[List.take_left]
theorem Qnz {cf:CF}{σ:Qai}{h:Qac}{n:Int}:evE cf (.neg (.con (.int n))) σ h=.ok (.int (-n)) h:=by
 rw[evE,show evE cf (.con (.int n)) σ h=.ok (.int n) h from Qaj,bnd_ok]
 rfl
section
variable {α:Type} [DecidableEq α]
noncomputable def QaH (D r:List α):List α:=D.filter fun x=>!decide (x∈r)
noncomputable def Qcg (D:List α):Nat→List (List α)
 |0=>[[]]
 |k+1=>(Qcg D k).flatMap fun r=>(QaH D r).map fun x=>r++[x]
noncomputable def QdK (ok:List α→Bool) (D r:List α):Bool:=(List.range (r.length+1)).all fun i=>ok (QaH D (r.take i))
noncomputable def Qch (ok:List α→Bool) (D:List α):Nat→List α
 |0=>[]
 |k+1=>match (QaH D (Qch ok D k)).find? fun x=>ok (QaH D (Qch ok D k++[x])) with
  |some x=>Qch ok D k++[x]
  |none=>Qch ok D k
theorem Qdm (ok:List α→Bool) (D r:List α) (x:α):QdK ok D (r++[x])=(QdK ok D r&&ok (QaH D (r++[x]))):=by
 unfold QdK
 rw[List.length_append,List.length_singleton,List.range_succ,List.all_append]
 congr 1
 ·rw[Bool.eq_iff_iff,List.all_eq_true,List.all_eq_true]
  constructor<;>intro h i hi
  ·have:=h i hi
   have hi':=List.mem_range.mp hi
   rwa [List.take_append_of_le_length (by omega)]at this
  ·have:=h i hi
   have hi':=List.mem_range.mp hi
   rwa [List.take_append_of_le_length (by omega)]
 ·rw[List.all_cons,List.all_nil,Bool.and_true,List.take_of_length_le (by rw[List.length_append];exact Nat.le_refl _)]
theorem QeU {ok:List α→Bool}{D r:List α} (h:QdK ok D r=true):ok (QaH D r)=true:=by
 have:=List.all_eq_true.mp h r.length (List.mem_range.mpr (Nat.lt_succ_self _))
 rwa [List.take_length]at this
theorem QbY {β γ:Type}{p:β→Bool}{f:β→Option γ}{y:γ}{g:β}:∀ {l:List β},(∀ r∈l,p r=false→f r=none)→l.find? p=some g→f g=some y→l.findSome? f=some y
 |[],_,h,_=>by cases h
 |r::l,hn,h,hy=>by
  rw[List.findSome?_cons]
  cases hp:p r with
  |true =>
   rw[List.find?_cons_of_pos hp]at h
   cases h
   rw[hy]
  |false =>
   rw[List.find?_cons_of_neg (by rw[hp];decide)]at h
   rw[hn r List.mem_cons_self hp]
   exact QbY (fun r hr=>hn r (List.mem_cons_of_mem _ hr)) h hy
theorem Qfy {ok:List α→Bool}{D:List α} (h0:ok (QaH D [])=true) {n:Nat} (hex:∀ r,r.length<n→QdK ok D r=true→∃ x∈QaH D r,ok (QaH D (r++[x]))=true):∀ k,k≤n→(Qcg D k).find? (QdK ok D)=some (Qch ok D k)∧(Qch ok D k).length=k∧QdK ok D (Qch ok D k)=true
 |0,_=>by
  have:QdK ok D []=true:=by
   unfold QdK
   rw[List.length_nil,List.range_one,List.all_cons,List.all_nil,Bool.and_true,List.take_nil]
   exact h0
  exact⟨by rw[Qcg,List.find?_cons_of_pos this];rfl,rfl,this⟩
 |k+1,hk=>by
  obtain⟨e,l,p⟩:=Qfy h0 hex k (by omega)
  obtain⟨x0,m0,o0⟩:=hex _ (by omega) p
  obtain⟨x,hx⟩:∃ x,(QaH D (Qch ok D k)).find? (fun x=>ok (QaH D (Qch ok D k++[x])))=some x:=by
   cases q:(QaH D (Qch ok D k)).find? (fun x=>ok (QaH D (Qch ok D k++[x]))) with
   |some x=>exact⟨x,rfl⟩
   |none=>exact absurd o0 (by have:=List.find?_eq_none.mp q x0 m0;simpa using this)
  have g1:Qch ok D (k+1)=Qch ok D k++[x]:=by rw[Qch,hx]
  have px:QdK ok D (Qch ok D k++[x])=true:=by
   rw[Qdm,p,Bool.true_and]
   exact List.find?_some (p:=fun x=>ok (QaH D (Qch ok D k++[x]))) hx
  refine⟨?_,by rw[g1,List.length_append,l];rfl,by rw[g1];exact px⟩
  rw[Qcg,List.find?_flatMap]
  refine QbY (p:=QdK ok D) (g:=Qch ok D k) (fun r _ hr=>?_) e ?_
  ·rw[List.find?_eq_none]
   intro y hy
   obtain⟨x,_,rfl⟩:=List.mem_map.mp hy
   rw[Qdm,hr,Bool.false_and]
   decide
  ·rw[List.find?_map]
   have:(fun x=>QdK ok D (Qch ok D k++[x]))=fun x=>ok (QaH D (Qch ok D k++[x])):=by
    funext x
    rw[Qdm,p,Bool.true_and]
   show Option.map _ ((QaH D (Qch ok D k)).find? (fun x=>QdK ok D (Qch ok D k++[x])))=_
   rw[this,hx,g1]
   rfl
theorem Qb9 {D:List α}:∀ {k:Nat}{r:List α},r∈Qcg D k→r.Nodup∧(∀ x∈r,x∈D)∧r.length=k
 |0,r,h=>by
  rw[Qcg,List.mem_singleton]at h
  subst h
  exact⟨List.nodup_nil,fun x hx=>(by cases hx),rfl⟩
 |k+1,r,h=>by
  rw[Qcg,List.mem_flatMap]at h
  obtain⟨r0,h0,h1⟩:=h
  obtain⟨x,hx,rfl⟩:=List.mem_map.mp h1
  obtain⟨a,b,c⟩:=Qb9 h0
  unfold QaH at hx
  rw[List.mem_filter]at hx
  have xn:x∉r0:=by simpa using hx.2
  refine⟨?_,?_,by rw[List.length_append,c];rfl⟩
  ·rw[List.nodup_append]
   exact⟨a,by simp,fun y hy z hz=>by rw[List.mem_singleton.mp hz];rintro rfl;exact xn hy⟩
  ·intro y hy
   rcases List.mem_append.mp hy with hy | hy
   ·exact b y hy
   ·rw[List.mem_singleton.mp hy];exact hx.1
noncomputable def okW (won:List (List α)) (F S:List α):Bool:=won.all fun H=>(H.filter fun x=>decide (x∈S)).isEmpty||(H.filter fun x=>decide (x∈S)).any fun x=>decide (x∈F)
theorem okW_iff {won:List (List α)}{F S:List α}:okW won F S=true↔∀ H∈won,(∃ x∈H,x∈S)→∃ x∈H,x∈S∧x∈F:=by
 unfold okW
 rw[List.all_eq_true]
 constructor<;>intro h H hH
 ·intro ⟨x,hx,xs⟩
  have:=h H hH
  rw[Bool.or_eq_true,List.isEmpty_iff,List.any_eq_true]at this
  rcases this with q | ⟨y,hy,yF⟩
  ·exact absurd (List.mem_filter.mpr ⟨hx,decide_eq_true xs⟩) (by rw[q];simp)
  ·obtain⟨y1,y2⟩:=List.mem_filter.mp hy
   exact⟨y,y1,of_decide_eq_true y2,of_decide_eq_true yF⟩
 ·rw[Bool.or_eq_true,List.isEmpty_iff,List.any_eq_true]
  by_cases q:∃ x∈H,x∈S
  ·obtain⟨y,y1,y2,y3⟩:=h H hH q
   exact .inr ⟨y,List.mem_filter.mpr ⟨y1,decide_eq_true y2⟩,decide_eq_true y3⟩
  ·refine .inl (List.filter_eq_nil_iff.mpr fun x hx z=>q ⟨x,hx,of_decide_eq_true z⟩)
theorem mem_remO {D r:List α}{x:α}:x∈QaH D r↔x∈D∧x∉r:=by
 unfold QaH
 rw[List.mem_filter]
 simp
theorem QgO {won:List (List α)}{F D r:List α} (hne:QaH D r≠[]) (h:okW won F (QaH D r)=true):∃ x∈QaH D r,okW won F (QaH D (r++[x]))=true:=by
 have mr:∀ {x y:α},y∈QaH D (r++[x])↔y∈QaH D r∧y≠x:=fun {x y}=>by
  rw[mem_remO,mem_remO,List.mem_append,List.mem_singleton,not_or,and_assoc]
 have h':=okW_iff.mp h
 by_cases q:∃ x∈QaH D r,x∉F
 ·obtain⟨x,hx,xF⟩:=q
  refine⟨x,hx,okW_iff.mpr fun H hH ⟨y,yH,yS⟩=>?_⟩
  obtain⟨f,f1,f2,f3⟩:=h' H hH ⟨y,yH,(mr.mp yS).1⟩
  exact⟨f,f1,mr.mpr ⟨f2,fun z=>xF (z ▸ f3)⟩,f3⟩
 ·obtain⟨x,hx⟩:=List.exists_mem_of_ne_nil _ hne
  refine⟨x,hx,okW_iff.mpr fun H hH ⟨y,yH,yS⟩=>⟨y,yH,yS,?_⟩⟩
  exact Classical.byContradiction fun z=>q ⟨y,(mr.mp yS).1,z⟩
noncomputable def Qfb (o H:List α):Option α:=(o.filter fun x=>decide (x∈H)).getLast?
theorem QbU {o H:List α}{i:Nat}{z:α} (hz:z∈o.drop i) (hH:z∈H):∃ y,Qfb o H=some y∧y∈o.drop i∧y∈H:=by
 have e:o.filter (fun x=>decide (x∈H))=(o.take i).filter (fun x=>decide (x∈H))++(o.drop i).filter fun x=>decide (x∈H):=by rw[← List.filter_append,List.take_append_drop]
 have m:z∈(o.drop i).filter fun x=>decide (x∈H):=List.mem_filter.mpr ⟨hz,decide_eq_true hH⟩
 have ne:(o.drop i).filter (fun x=>decide (x∈H))≠[]:=List.ne_nil_of_mem m
 refine⟨_,by unfold Qfb;rw[e,List.getLast?_append,List.getLast?_eq_some_getLast ne];rfl,?_⟩
 obtain⟨a,b⟩:=List.mem_filter.mp (List.getLast_mem ne)
 exact⟨a,of_decide_eq_true b⟩
theorem Qm5 {won:List (List α)}{F D o:List α} (nd:o.Nodup) (ho:∀ x,x∈o↔x∈D) (hw:∀ H∈won,(∃ x,x∈H)∧∀ x∈H,x∈D):QdK (okW won F) D o=true↔∀ H∈won,∃ y,Qfb o H=some y∧y∈F:=by
 unfold QdK
 rw[List.all_eq_true]
 have mem_drop:∀ {i:Nat}{x:α},x∈D→x∉o.take i→x∈o.drop i:=fun {i x} h1 h2=>by
  have:=(ho x).mpr h1
  rw[← List.take_append_drop i o]at this
  exact(List.mem_append.mp this).resolve_left h2
 have dis:∀ {i:Nat}{x:α},x∈o.drop i→x∉o.take i:=fun {i x} h1 h2=>by
  have:=nd
  rw[← List.take_append_drop i o,List.nodup_append]at this
  exact this.2.2 x h2 x h1 rfl
 constructor
 ·intro h H hH
  obtain⟨⟨x,hx⟩,hD⟩:=hw H hH
  obtain⟨y,e,y1,y2⟩:=QbU (o:=o) (H:=H) (i:=0) (z:=x) (by rw[List.drop_zero];exact(ho x).mpr (hD x hx)) hx
  refine⟨y,e,?_⟩
  rw[List.drop_zero]at y1
  obtain⟨i,hi,ei⟩:=List.getElem_of_mem y1
  obtain⟨f,f1,f2,f3⟩:=okW_iff.mp (h i (List.mem_range.mpr (by omega))) H hH ⟨y,y2,mem_remO.mpr ⟨(ho y).mp y1,dis (by rw[← ei];exact List.mem_drop_iff_getElem.mpr ⟨0,by simpa using hi,rfl⟩)⟩⟩
  obtain⟨g1,g2⟩:=mem_remO.mp f2
  have fd:f∈o.drop i:=mem_drop g1 g2
  by_cases q:f∈o.drop (i+1)
  ·obtain⟨y',e',y1',y2'⟩:=QbU q f1
   rw[e]at e'
   cases e'
   refine absurd y1' fun z=>?_
   have:=dis z
   exact this (by rw[← ei];exact List.mem_take_iff_getElem.mpr ⟨i,by omega,rfl⟩)
  ·have:f=y:=by
    rw[← List.getElem_cons_drop (h:=hi)]at fd
    rcases List.mem_cons.mp fd with z | z
    ·rw[z,ei]
    ·exact absurd z q
   rw[← this];exact f3
 ·intro h i hi
  refine okW_iff.mpr fun H hH ⟨x,xH,xS⟩=>?_
  obtain⟨x1,x2⟩:=mem_remO.mp xS
  obtain⟨y,e,y1,y2⟩:=QbU (mem_drop x1 x2) xH
  obtain⟨y',e',yF⟩:=h H hH
  rw[e]at e'
  cases e'
  exact⟨y,y2,mem_remO.mpr ⟨(ho y).mp (List.mem_of_mem_drop y1),dis y1⟩,yF⟩
noncomputable def QdA {β:Type} (f:β→Int):List β→Int×β→Int×β
 |[],p=>p
 |o::os,p=>QdA f os (if f o>p.1 then (f o,o) else p)
theorem QdZ {β:Type}{f:β→Int}{M:Int}{b:β}:∀ {os:List β},(∀ o∈os,f o≤M)→QdA f os (M,b)=(M,b)
 |[],_=>rfl
 |o::os,h=>by
  rw[QdA,if_neg (show ¬ f o>(M,b).1 by have:=h o List.mem_cons_self;show ¬ f o>M;omega)]
  exact QdZ fun o ho=>h o (List.mem_cons_of_mem _ ho)
theorem Qdk {β:Type}{f:β→Int}{M:Int}{p:β→Bool}{g:β}:∀ {os:List β}{q:Int×β},(∀ o∈os,f o≤M∧(f o=M↔p o=true))→q.1<M→os.find? p=some g→QdA f os q=(M,g)
 |[],_,_,_,h=>by cases h
 |o::os,q,h,hq,hf=>by
  obtain⟨h1,h2⟩:=h o List.mem_cons_self
  cases hp:p o with
  |true =>
   rw[List.find?_cons_of_pos hp]at hf
   cases hf
   have:=h2.mpr hp
   rw[QdA,if_pos (by omega),this]
   exact QdZ fun o ho=>(h o (List.mem_cons_of_mem _ ho)).1
  |false =>
   rw[List.find?_cons_of_neg (by rw[hp];decide)]at hf
   rw[QdA]
   refine Qdk (fun o ho=>h o (List.mem_cons_of_mem _ ho)) ?_ hf
   split
   ·show f o<M
    have:f o≠M:=fun z=>by rw[h2.mp z]at hp;cases hp
    omega
   ·exact hq
end
theorem QcL {cf:CF}{c:E}{σ:Qai}{h h1:Qac}{b:Bool} (e:evT cf c σ h=.ok b h1):evE cf c σ h=.ok (.bl b) h1:=by
 have e':tst (evE cf c σ h)=.ok b h1:=e
 cases q:evE cf c σ h with
 |stuck=>rw[q]at e';cases e'
 |exc c h2=>rw[q]at e';cases e'
 |ok w h2 =>
  rw[q]at e'
  cases w with
  |bl k=>cases e';rfl
  |_=>cases e'
theorem Qce:∀ bs:List Bool,QbH (bs.map W.bl)=some bs
 |[]=>rfl
 |b::bs=>by
  show (QbH (bs.map W.bl)).map _=_
  rw[Qce bs];rfl
theorem Qln {cf:CF}{a:E}{σ:Qai}{h h1:Qac}{bs:List Bool} (ea:evE cf a σ h=.ok (.lst (bs.map W.bl)) h1):evE cf (.blt .any [a]) σ h=.ok (.bl (bs.any id)) h1:=by
 rw[evE,Qad ea Qag,bnd_ok]
 show (match QbH (bs.map W.bl) with | some bs=>okB (bs.any id) h1 | none=>.stuck)=_
 rw[Qce];rfl
theorem ev_all {cf:CF}{a:E}{σ:Qai}{h h1:Qac}{bs:List Bool} (ea:evE cf a σ h=.ok (.lst (bs.map W.bl)) h1):evE cf (.blt .all [a]) σ h=.ok (.bl (bs.all id)) h1:=by
 rw[evE,Qad ea Qag,bnd_ok]
 show (match QbH (bs.map W.bl) with | some bs=>okB (bs.all id) h1 | none=>.stuck)=_
 rw[Qce];rfl
theorem Qev {cf:CF}{a b:E}{σ:Qai}{h:Qac}{x y:Bool} (ea:evE cf a σ h=.ok (.bl x) h) (eb:evE cf b σ h=.ok (.bl y) h):evE cf (.and_ a b) σ h=.ok (.bl (x&&y)) h:=by
 rw[evE,ea,bnd_ok]
 cases x
 ·rfl
 ·rw[Bool.true_and];exact eb
theorem Qi6 {cf:CF}{a:E}{σ:Qai}{h:Qac}{x:Bool} (ea:evE cf a σ h=.ok (.bl x) h):evE cf (.not_ a) σ h=.ok (.bl (!x)) h:=QcL (QbF (Qa5 ea))
theorem Qhb {cf:CF}{i n:Nat}{a elt:E}{σ:Qai}{h:Qac}{x:W}{ss:List Str}{p:Str→Bool} (ea:evE cf a σ h=.ok x h) (hs:seqA h x=some (ss.map W.str)) (hr:∀ k,Qd8 x=some k→k<h.length) (hm:ss.length≤1000)
  (hF:∀ s∈ss,∃ σ',QaG [i] (.str s) (clr [i] σ++List.replicate n none)=some σ'∧∀ hh,evE cf elt σ' hh=.ok (.bl (p s)) hh):evE cf (.compS [i] n a [] elt) σ h=.ok (.lst ((ss.map p).map W.bl)) h:=by
 refine(Qct (F:=fun w=>match w with | .str s=>.bl (p s) | _=>.bl false) ea hs hr (by rw[List.length_map];exact hm) fun w hw=>?_).trans ?_
 ·obtain⟨s,m,rfl⟩:=List.mem_map.mp hw
  obtain⟨σ',e1,e2⟩:=hF s m
  exact⟨rfl,σ',e1,e2⟩
 ·rw[List.map_map,List.map_map];rfl
theorem Qgc {n:Nat}{src:Option Nat}{f:W→Qac→Res (Option W)}{G:W→Option W}{h:Qac} (hn:h.length=n) (hs:∀ k,src=some k→k<n):∀ (ws us:List W),(∀ w∈ws,∀ us,f w (h++[.lst us])=.ok (G w) (h++[.lst us])∧∀ u,G w=some u→Qan u=true)→us.length+ws.length≤100000 →
  lc n src f ws (h++[.lst us])=.ok () (h++[.lst (us++ws.filterMap G)])
 |[],us,_,_=>by rw[lc];simp
 |w::ws,us,hf,hl=>by
  rw[List.length_cons]at hl
  obtain⟨e,hp⟩:=hf w List.mem_cons_self us
  rw[lc,e,bnd_ok,if_pos (fun k _=>rfl)]
  cases g:G w with
  |none =>
   dsimp only
   rw[Qgc hn hs ws us (fun w' hw'=>hf w' (List.mem_cons_of_mem _ hw')) (by omega),List.filterMap_cons,g]
  |some u =>
   dsimp only
   have hcell:(h++[Ob.lst us])[n]?=some (.lst us):=by rw[← hn,List.getElem?_append_right (Nat.le_refl _),Nat.sub_self];rfl
   rw[hcell]
   dsimp only
   rw[if_pos ⟨hp u g,by rw[sizeLine_eq];omega⟩]
   have hset:(h++[Ob.lst us]).set n (.lst (us++[u]))=h++[.lst (us++[u])]:=by
    rw[← hn,List.set_append_right _ _ (Nat.le_refl _),Nat.sub_self];rfl
   rw[hset,Qgc hn hs ws (us++[u]) (fun w' hw'=>hf w' (List.mem_cons_of_mem _ hw')) (by rw[List.length_append,List.length_singleton];omega),List.filterMap_cons,g]
   simp
theorem QgQ {α:Type}{cf:CF}{is:List Nat}{n:Nat}{a c elt:E}{σ:Qai}{h:Qac}{x:W}{xs:List α}{v:α→W}{p:α→Bool}{F:α→W} (inv:W→Option α) (hinv:∀ y,inv (v y)=some y) (ea:evE cf a σ h=.ok x h) (hs:seqA h x=some (xs.map v)) (hr:∀ k,Qd8 x=some k→k<h.length) (hm:xs.length≤1000)
  (hF:∀ y∈xs,∃ σ',QaG is (v y) (clr is σ++List.replicate n none)=some σ'∧(∀ hh,evT cf c σ' hh=.ok (p y) hh)∧(p y=true→Qan (F y)=true∧∀ hh,evE cf elt σ' hh=.ok (F y) hh)):evE cf (.compS is n a [c] elt) σ h=.ok (.lst ((xs.filter p).map F)) h:=by
 rw[evE,ea,bnd_ok,Qgm hs]
 dsimp only
 have key:∀ ys:List α,(ys.map v).filterMap (fun w=>(inv w).bind fun y=>if p y=true then some (F y) else none)=(ys.filter p).map F:=fun ys=>by
  induction ys with
  |nil=>rfl
  |cons y ys ih =>
   rw[List.map_cons,List.filterMap_cons,hinv,Option.bind_some]
   by_cases q:p y=true
   ·rw[if_pos q,List.filter_cons_of_pos q,List.map_cons];dsimp only;rw[ih]
   ·rw[if_neg q,List.filter_cons_of_neg q];exact ih
 rw[Qgc (G:=fun w=>(inv w).bind fun y=>if p y=true then some (F y) else none) rfl hr (xs.map v) [] (fun w hw us=>?_) (by rw[List.length_nil,List.length_map];omega),QcT rfl,List.nil_append,key]
 obtain⟨y,m,rfl⟩:=List.mem_map.mp hw
 obtain⟨σ',e1,e2,e3⟩:=hF y m
 rw[hinv,Option.bind_some]
 unfold QbJ
 rw[e1]
 dsimp only
 have e2':tst (evE cf c σ' (h++[.lst us]))=.ok (p y) (h++[.lst us]):=e2 _
 rw[Qc2,e2',bnd_ok]
 by_cases q:p y=true
 ·obtain⟨q1,q2⟩:=e3 q
  rw[if_pos q,if_pos q,Qc2,bnd_ok,if_pos rfl,q2,bnd_ok]
  exact⟨rfl,fun u hu=>by cases hu;exact q1⟩
 ·rw[if_neg q,if_neg q,bnd_ok,if_neg (by decide)]
  exact⟨rfl,fun u hu=>by cases hu⟩
noncomputable def anyF (H F:List Str):Bool:=(H.map fun s=>Qa6 s F).any id
noncomputable abbrev Qls:List S:=[.ret (.blt .any [(.compS [2] 1 (.var 0) [] (.cmp .In (.var 2) (.var 1)))])]
theorem Qip {fw:Nat}{tb:List Fn}{f:Nat} (hf:tb[f]?=some ⟨2,2,Qls,none⟩) (d:Nat) (x y:W) (H F:List Str) (h:Qac) (hx:Seq x (H.map W.str)) (hy:Seq y (F.map W.str)) (hl:H.length≤1000):Qae fw tb (d+1) f [x,y] h=.ok (.bl (anyF H F)) h:=by
 rw[Qak hf rfl]
 generalize Qae fw tb d=cf
 show J.fin h.length (exB cf fw Qls [some x,some y] h)=_
 have e:exB cf fw Qls [some x,some y] h=.ok (.ret (.bl (anyF H F))) h :=
  Qal (Qa2 (Qln (Qhb (i:=2) (p:=fun s=>Qa6 s F) (Qaa (i:=0) rfl) (hx.seqA h) (fun k=>hx.noref k) hl fun s _=>⟨[some x,some y,some (.str s)],rfl,fun hh=>QcL (QdT (Qaa (i:=2) rfl) (Qaa (i:=1) rfl) (hy.dic hh) (hy.seqA hh))⟩)))
 rw[e]
 exact Qav
noncomputable abbrev bCan (hs:Nat):List S:=[.ret (.and_ (.blt .all [(.compS [3] 1 (.var 0) [] (.cmp .In (.var 3) (.var 1)))]) (.call hs [(.var 0),(.var 2)]))]
noncomputable def Qnu (H D F:List Str):Bool:=(H.map fun s=>Qa6 s D).all id&&anyF H F
theorem QlW {fw:Nat}{tb:List Fn}{f hs:Nat} (hf:tb[f]?=some ⟨3,3,bCan hs,none⟩) (hh:tb[hs]?=some ⟨2,2,Qls,none⟩) (d:Nat) (x y z:W) (H D F:List Str) (h:Qac) (hx:Seq x (H.map W.str)) (hy:Seq y (D.map W.str)) (hz:Seq z (F.map W.str)) (hl:H.length≤1000):Qae fw tb (d+2) f [x,y,z] h=.ok (.bl (Qnu H D F)) h:=by
 rw[Qak hf rfl]
 have c:=Qip (fw:=fw) hh d x z H F h hx hz hl
 generalize Qae fw tb (d+1)=cf at *
 show J.fin h.length (exB cf fw (bCan hs) [some x,some y,some z] h)=_
 have e:exB cf fw (bCan hs) [some x,some y,some z] h=.ok (.ret (.bl (Qnu H D F))) h :=
  Qal (Qa2 (Qev (ev_all (Qhb (i:=3) (p:=fun s=>Qa6 s D) (Qaa (i:=0) rfl) (hx.seqA h) (fun k=>hx.noref k) hl fun s _=>⟨[some x,some y,some z,some (.str s)],rfl,fun hh=>QcL (QdT (Qaa (i:=3) rfl) (Qaa (i:=1) rfl) (hy.dic hh) (hy.seqA hh))⟩)) (Qaq (Qaa (i:=0) rfl) (Qaa (i:=2) rfl) c)))
 rw[e]
 exact Qav
noncomputable abbrev Qh0 (hs : Nat) : List S := [.asg 3 (.compS [4] 1 (.var 0) [(.cmp .In (.var 4) (.var 1))] (.var 4)),
 .ret (.and_ (.cmp .Gt (.blt .len [(.var 3)]) (.con (.int 0))) (.not_ (.call hs [(.var 3), (.var 2)])))]
noncomputable def Qh4 (H L F:List Str):Bool:=decide ((0:Int)<((H.filter fun s=>Qa6 s L).length:Int))&&!anyF (H.filter fun s=>Qa6 s L) F
theorem Qkl {fw:Nat}{tb:List Fn}{f hs:Nat} (hf:tb[f]?=some ⟨3,4,Qh0 hs,none⟩) (hh:tb[hs]?=some ⟨2,2,Qls,none⟩) (d:Nat) (x y z:W) (H L F:List Str) (h:Qac) (hx:Seq x (H.map W.str)) (hy:Seq y (L.map W.str)) (hz:Seq z (F.map W.str)) (hl:H.length≤1000):Qae fw tb (d+2) f [x,y,z] h=.ok (.bl (Qh4 H L F)) h:=by
 rw[Qak hf rfl]
 let K:List Str:=H.filter fun s=>Qa6 s L
 have kl:K.length≤1000:=Nat.le_trans (List.length_filter_le _ _) hl
 have c:=Qip (fw:=fw) hh d (.lst (K.map W.str)) z K F h (.inl rfl) hz kl
 generalize Qae fw tb (d+1)=cf at *
 show J.fin h.length (exB cf fw (Qh0 hs) [some x,some y,some z,none] h)=_
 have e:exB cf fw (Qh0 hs) [some x,some y,some z,none] h=.ok (.ret (.bl (Qh4 H L F))) h:=by
  refine(Qab (Qaf (QbI (i:=4) (n:=1) (ss:=H) (p:=fun s=>Qa6 s L) (Qaa (i:=0) rfl) (hx.seqA h) hl (fun s _ hh=>QdT (Qaa (i:=4) rfl) (Qaa (i:=1) rfl) (hy.dic hh) (hy.seqA hh)) (by show 4<4+1;decide)))).trans (Qal (Qa2 ?_))
  exact Qev (QcL (Qhd ((Qbs (Qaa (i:=3) rfl) rfl).trans (by rw[List.length_map])) Qaj)) (Qi6 (Qaq (Qaa (i:=3) rfl) (Qaa (i:=2) rfl) c))
 rw[e]
 exact Qav
noncomputable abbrev QaE (H:List Str):W:=.tup (H.map W.str)
noncomputable def unT:W→Option (List Str)
 |.tup ws=>Qb2 ws
 |_=>none
theorem Qen (H:List Str):unT (QaE H)=some H:=Qb4 H
theorem QjO {cf:CF}{i n:Nat}{a elt:E}{σ:Qai}{h:Qac}{x:W}{won:List (List Str)}{p:List Str→Bool} (ea:evE cf a σ h=.ok x h) (hs:seqA h x=some (won.map QaE)) (hr:∀ k,Qd8 x=some k→k<h.length) (hm:won.length≤1000)
  (hF:∀ H∈won,∃ σ',QaG [i] (QaE H) (clr [i] σ++List.replicate n none)=some σ'∧∀ hh,evE cf elt σ' hh=.ok (.bl (p H)) hh):evE cf (.compS [i] n a [] elt) σ h=.ok (.lst ((won.map p).map W.bl)) h:=by
 refine(Qct (F:=fun w=>match unT w with | some H=>.bl (p H) | none=>.bl false) ea hs hr (by rw[List.length_map];exact hm) fun w hw=>?_).trans ?_
 ·obtain⟨H,m,rfl⟩:=List.mem_map.mp hw
  obtain⟨σ',e1,e2⟩:=hF H m
  rw[Qen]
  exact⟨rfl,σ',e1,e2⟩
 ·rw[List.map_map,List.map_map]
  congr 2
  refine List.map_congr_left fun H _=>?_
  show (match unT (QaE H) with | some H=>W.bl (p H) | none=>W.bl false)=_
  rw[Qen];rfl
theorem Qkg (won:List (List Str)) (F S:List Str):okW won F S=!(won.map fun H=>Qh4 H S F).any id:=by
 have e:∀ H:List Str,((H.filter fun x=>decide (x∈S)).isEmpty||(H.filter fun x=>decide (x∈S)).any fun x=>decide (x∈F))=!Qh4 H S F:=fun H=>by
  unfold Qh4 anyF
  have e1:(fun s=>Qa6 s S)=fun x=>decide (x∈S):=by funext x;exact Qao x S
  have e2:(fun s=>Qa6 s F)=fun x=>decide (x∈F):=by funext x;exact Qao x F
  rw[e1,e2]
  cases (H.filter fun x=>decide (x∈S)) with
  |nil=>rfl
  |cons a l =>
   rw[decide_eq_true (by rw[List.length_cons];omega),Bool.true_and,Bool.not_not,List.any_map]
   rfl
 unfold okW
 induction won with
 |nil=>rfl
 |cons H won ih=>rw[List.all_cons,ih,e H,List.map_cons,List.any_cons,Bool.not_or];rfl
theorem QeY (D r:List Str):Qa0 D r=QaH D r:=by
 unfold Qa0 QaH
 congr 1
 funext x
 rw[Qao]
theorem Qg0 (D r:List Str) (s:Str):Qa0 (QaH D r) [s]=QaH D (r++[s]):=by
 rw[← QeY,← QeY,Qda]
 unfold Qa0
 congr 1
 funext x
 rw[Qao]
 simp
noncomputable abbrev Qjb (wi lo : Nat) : List S := [.asg 4 (.call wi [(.var 1), (.tup [(.var 0)])]),
 .ret (.not_ (.blt .any [(.compS [5] 1 (.var 2) [] (.call lo [(.var 5), (.var 4), (.var 3)]))]))]
theorem QjX {fw:Nat}{tb:List Fn}{f wi lo hs:Nat} (hf:tb[f]?=some ⟨4,5,Qjb wi lo,none⟩) (hwi:tb[wi]?=some ⟨2,2,Qbv,none⟩) (hlo:tb[lo]?=some ⟨3,4,Qh0 hs,none⟩) (hhs:tb[hs]?=some ⟨2,2,Qls,none⟩) (d:Nat) (s:Str) (L F:List Str) (won:List (List Str)) (h:Qac) (hL:L.length≤1000) (hw:won.length≤1000) (hH:∀ H∈won,H.length≤1000) :
  Qae fw tb (d+3) f [.str s,QaE L,.lst (won.map QaE),.lst (F.map W.str)] h=.ok (.bl (okW won F (Qa0 L [s]))) h:=by
 rw[Qak hf rfl]
 have c1:=Qcf (fw:=fw) hwi (d+1) (QaE L) (.tup [.str s]) L [s] h (.inr rfl) (.inr rfl) hL
 have c2:=fun (H:List Str) (hh:Qac) (hl:H.length≤1000)=>Qkl (fw:=fw) hlo hhs d (QaE H) (QaE (Qa0 L [s])) (.lst (F.map W.str)) H (Qa0 L [s]) F hh (.inr rfl) (.inr rfl) (.inl rfl) hl
 generalize Qae fw tb (d+2)=cf at *
 show J.fin h.length (exB cf fw (Qjb wi lo) [some (.str s),some (QaE L),some (.lst (won.map QaE)),some (.lst (F.map W.str)),none] h)=_
 have e:exB cf fw (Qjb wi lo) [some (.str s),some (QaE L),some (.lst (won.map QaE)),some (.lst (F.map W.str)),none] h=.ok (.ret (.bl (okW won F (Qa0 L [s])))) h:=by
  rw[Qkg]
  refine(Qab (Qaf (Qaq (Qaa (i:=1) rfl) (QaI (Qad (Qaa (i:=0) rfl) Qag) (by show 1≤1000;decide)) c1))).trans (Qal (Qa2 (Qi6 (Qln ?_))))
  exact QjO (i:=5) (n:=1) (p:=fun H=>Qh4 H (Qa0 L [s]) F) (Qaa (i:=2) rfl) rfl (fun k e=>by cases e) hw fun H m=>⟨[some (.str s),some (QaE L),some (.lst (won.map QaE)),some (.lst (F.map W.str)),some (QaE (Qa0 L [s])),some (QaE H)],rfl,fun hh=>QaF (Qad (Qaa (i:=5) rfl) (Qad (Qaa (i:=4) rfl) (Qad (Qaa (i:=3) rfl) Qag))) (c2 H hh (hH H m))⟩
 rw[e]
 exact Qav
theorem Ql3 {D r:List Str} (nd:D.Nodup) (hl:r.length<D.length):QaH D r≠[]:=fun e=>by
 have:D.length≤r.length:=nd.length_le_of_subset fun x hx=>Classical.byContradiction fun z=>by
  have:=mem_remO.mpr ⟨hx,z⟩
  rw[e]at this
  cases this
 omega
theorem QgP {D r:List Str} (nr:r.Nodup) (hs:∀ x∈r,x∈D) (hl:D.length≤r.length) (nd:D.Nodup):QaH D r=[]:=by
 refine List.filter_eq_nil_iff.mpr fun x hx=>?_
 have p:∀ y∈D,y∈r:=fun y hy=>Classical.byContradiction fun z=>by
  have:(y::r).length≤D.length:=(List.nodup_cons.mpr ⟨z,nr⟩).length_le_of_subset fun w hw=>by
   rcases List.mem_cons.mp hw with rfl | hw
   ·exact hy
   ·exact hs w hw
  rw[List.length_cons]at this
  omega
 simp[p x hx]
theorem Qcx {won:List (List Str)}{F D:List Str} (nd:D.Nodup) (h0:okW won F D=true):∀ k,k≤D.length→(Qcg D k).find? (QdK (okW won F) D)=some (Qch (okW won F) D k)∧(Qch (okW won F) D k).length=k∧QdK (okW won F) D (Qch (okW won F) D k)=true :=
 Qfy (by rw[show QaH D []=D from List.filter_eq_self.mpr fun x _=>by simp];exact h0) fun r hr hp=>QgO (Ql3 nd hr) (QeU hp)
theorem QeE {won:List (List Str)}{F D:List Str} (nd:D.Nodup) (h0:okW won F D=true) {k:Nat} (hk:k≤D.length):Qch (okW won F) D k∈Qcg D k:=List.mem_of_find?_eq_some (Qcx nd h0 k hk).1
noncomputable abbrev Qgf (wi no : Nat) : List S := [.asg 4 (.ix (.compS [6] 1 (.var 5) [(.call no [(.var 6), (.var 5), (.var 1), (.var 2)])] (.var 6)) (.con (.int 0))),
 .asg 3 (.bin .Add (.var 3) (.tup [(.var 4)])),
 .asg 5 (.call wi [(.var 5), (.tup [(.var 4)])])]
noncomputable abbrev Qek (wi no : Nat) : List S := [.asg 3 (.tup []),
 .asg 5 (.blt .tuple [(.blt .sorted [(.var 0)])]),
 .while_ (.cmp .Gt (.blt .len [(.var 5)]) (.con (.int 0))) (Qgf wi no),
 .ret (.var 3)]
theorem QhD {fw:Nat}{tb:List Fn}{f wi no lo hs:Nat} (hf:tb[f]?=some ⟨3,6,Qek wi no,none⟩) (hno:tb[no]?=some ⟨4,5,Qjb wi lo,none⟩) (hwi:tb[wi]?=some ⟨2,2,Qbv,none⟩) (hlo:tb[lo]?=some ⟨3,4,Qh0 hs,none⟩) (hhs:tb[hs]?=some ⟨2,2,Qls,none⟩) (d:Nat) (t:W) (D0 F:List Str) (won:List (List Str)) (h:Qac)
  (ht:Seq t (D0.map W.str)) (nd:D0.Nodup) (hl:D0.length≤30) (hfw:31<fw) (hw:won.length≤1000) (hH:∀ H∈won,H.length≤1000) (h0:okW won F (srt D0)=true) :
  Qae fw tb (d+4) f [t,.lst (won.map QaE),.lst (F.map W.str)] h=.ok (QaE (Qch (okW won F) (srt D0) D0.length)) h:=by
 rw[Qak hf rfl]
 let D:List Str:=srt D0
 have Dl:D.length=D0.length:=QaO D0
 have Dn:D.Nodup:=(Qa9 D0).nodup_iff.mpr nd
 let ok:=okW won F
 let g:Nat→List Str:=Qch ok D
 have gl:∀ k,k≤D.length→(g k).length=k:=fun k hk=>(Qcx Dn h0 k hk).2.1
 have gm:∀ k,k≤D.length→(g k).Nodup∧(∀ x∈g k,x∈D)∧(g k).length=k:=fun k hk=>Qb9 (QeE Dn h0 hk)
 have c1:=fun (L:List Str) (s:Str) (hL:L.length≤1000) (hh:Qac)=>Qcf (fw:=fw) hwi (d+2) (QaE L) (.tup [.str s]) L [s] hh (.inr rfl) (.inr rfl) hL
 have c2:=fun (s:Str) (L:List Str) (hL:L.length≤1000) (hh:Qac)=>QjX (fw:=fw) hno hwi hlo hhs d s L F won hh hL hw hH
 generalize Qae fw tb (d+3)=cf at *
 let σ (o n L:Option W):Qai:=[some t,some (.lst (won.map QaE)),some (.lst (F.map W.str)),o,n,L]
 show J.fin h.length (exB cf fw (Qek wi no) (σ none none none) h)=_
 have rl:∀ r:List Str,(QaH D r).length≤30:=fun r=>by
  have:=List.length_filter_le (fun x=>!decide (x∈r)) D
  have:(QaH D r).length≤D.length:=this
  omega
 have test:∀ (o n:Option W) (L:List Str),evT cf (.cmp .Gt (.blt .len [(.var 5)]) (.con (.int 0))) (σ o n (some (QaE L))) h=.ok (decide ((0:Int)<(L.length:Int))) h:=fun o n L=>Qhd ((Qbs (Qaa (i:=5) rfl) rfl).trans (by rw[List.length_map])) Qaj
 have loop:∀ (m k fu:Nat) (n:Option W),k+m=D.length→m<fu→∃ n',wh (fun σ h=>tst (evE cf (.cmp .Gt (.blt .len [(.var 5)]) (.con (.int 0))) σ h)) (exB cf fw (Qgf wi no)) fu (σ (some (QaE (g k))) n (some (QaE (QaH D (g k))))) h=.ok (.nx (σ (some (QaE (g D.length))) n' (some (QaE [])))) h:=fun m=>by
  induction m with
  |zero =>
   intro k fu n hk hfu
   obtain⟨q1,q2,q3⟩:=gm k (by omega)
   have e:QaH D (g k)=[]:=QgP q1 q2 (by omega) Dn
   obtain⟨fu,rfl⟩:∃ u,fu=u+1:=⟨fu-1,by omega⟩
   have hk':k=D.length:=by omega
   refine⟨n,?_⟩
   rw[e,Qeg ((test _ _ _).trans (by rw[decide_eq_false (by simp)])),hk']
  |succ m ih =>
   intro k fu n hk hfu
   obtain⟨q1,q2,q3⟩:=gm k (by omega)
   obtain⟨fu,rfl⟩:∃ u,fu=u+1:=⟨fu-1,by omega⟩
   have ne:QaH D (g k)≠[]:=Ql3 Dn (by omega)
   obtain⟨x0,m0,o0⟩:=QgO ne (QeU (Qcx Dn h0 k (by omega)).2.2)
   obtain⟨x,hx⟩:∃ x,(QaH D (g k)).find? (fun x=>ok (QaH D (g k++[x])))=some x:=by
    cases q:(QaH D (g k)).find? (fun x=>ok (QaH D (g k++[x]))) with
    |some x=>exact⟨x,rfl⟩
    |none=>exact absurd o0 (by have:=List.find?_eq_none.mp q x0 m0;simpa using this)
   have g1:g (k+1)=g k++[x]:=by show Qch ok D (k+1)=_;rw[Qch,hx]
   have fi:((QaH D (g k)).filter fun s=>ok (Qa0 (QaH D (g k)) [s])).map W.str=.str x::(((QaH D (g k)).filter fun s=>ok (Qa0 (QaH D (g k)) [s])).drop 1).map W.str:=by
    have e1:(fun s=>ok (Qa0 (QaH D (g k)) [s]))=fun x=>ok (QaH D (g k++[x])):=by funext s;rw[Qg0]
    rw[e1]
    have e2:=hx
    rw[← List.head?_filter]at e2
    cases q:(QaH D (g k)).filter fun x=>ok (QaH D (g k++[x])) with
    |nil=>rw[q]at e2;cases e2
    |cons y l=>rw[q]at e2;cases e2;rfl
   have body:exB cf fw (Qgf wi no) (σ (some (QaE (g k))) n (some (QaE (QaH D (g k))))) h=.ok (.nx (σ (some (QaE (g (k+1)))) (some (.str x)) (some (QaE (QaH D (g (k+1))))))) h:=by
    have cp:evE cf (.compS [6] 1 (.var 5) [(.call no [(.var 6),(.var 5),(.var 1),(.var 2)])] (.var 6)) (σ (some (QaE (g k))) n (some (QaE (QaH D (g k))))) h=.ok (.lst (((QaH D (g k)).filter fun s=>ok (Qa0 (QaH D (g k)) [s])).map W.str)) h :=
     QbI (i:=6) (n:=1) (ss:=QaH D (g k)) (p:=fun s=>ok (Qa0 (QaH D (g k)) [s])) (Qaa (i:=5) rfl) rfl (by have:=rl (g k);omega) (fun s _ hh=>Qa5 (QaF (Qad (Qaa (i:=6) rfl) (Qad (Qaa (i:=5) rfl) (Qad (Qaa (i:=1) rfl) (Qad (Qaa (i:=2) rfl) Qag)))) (c2 s (QaH D (g k)) (by have:=rl (g k);omega) hh))) (by show 6<6+1;decide)
    rw[fi]at cp
    refine(Qab (Qaf (QaS cp Qaj (Qf4 (k:=0) (t:=.lst _) rfl rfl)))).trans ?_
    refine(Qab (h':=h) (Qaf (w:=QaE (g (k+1))) (Qbj (Qaa (i:=3) rfl) (QaI (Qad (Qaa (i:=4) rfl) Qag) (by show 1≤1000;decide)) ?_))).trans ?_
    ·show okT (QfO (some ((g k).map W.str)) (some [W.str x]) h)=_
     unfold QfO okT
     dsimp only
     rw[if_pos (by rw[List.length_map,gl k (by omega),sizeLine_eq];show k+1≤_;omega),bnd_ok,g1]
     show Res.ok (W.tup _) h=Res.ok (W.tup _) h
     rw[List.map_append];rfl
    refine(Qab (Qaf (Qaq (Qaa (i:=5) rfl) (QaI (Qad (Qaa (i:=4) rfl) Qag) (by show 1≤1000;decide)) (c1 (QaH D (g k)) x (by have:=rl (g k);omega) h)))).trans ?_
    rw[exB,Qg0,← g1]
    rfl
   obtain⟨n',e⟩:=ih (k+1) fu (some (.str x)) (by omega) (by omega)
   refine⟨n',?_⟩
   rw[Qez ((test _ _ _).trans (by rw[decide_eq_true (by have:=List.length_pos_iff.mpr ne;omega)])) body]
   exact e
 obtain⟨n',lp⟩:=loop D.length 0 fw none (by omega) (by omega)
 have e:exB cf fw (Qek wi no) (σ none none none) h=.ok (.ret (QaE (g D.length))) h:=by
  refine(Qab (Qaf (QaI Qag (by decide)))).trans ((Qab (Qaf (Qn1 (Qaa (i:=0) rfl) (ht.seqA h) (by omega)))).trans ?_)
  have e0:QaH D (g 0)=D:=List.filter_eq_self.mpr fun x _=>by show (!decide (x∈[]))=true;simp
  rw[e0]at lp
  refine(Qab (σ':=σ (some (QaE (g D.length))) n' (some (QaE []))) ?_).trans (Qal (Qa2 (Qaa (i:=3) rfl)))
  rw[exS]
  exact lp
 rw[e,Dl]
 exact Qbz (Qaz _)
noncomputable abbrev QaX (r:List Str):W:=.lst (r.map W.str)
theorem Qfc:∀ rs:List (List Str),Qam (rs.map QaX)=true
 |[]=>rfl
 |r::rs=>by rw[List.map_cons,Qam,Qfc rs,Bool.and_true,Qan];exact Qaz r
noncomputable abbrev QjI:List S:=[.if_ (.cmp .NotIn (.var 5) (.var 4)) [.exp (.meth .append (.var 3) [(.bin .Add (.var 4) (.lst [(.var 5)]))])] []]
noncomputable abbrev Qd5:List S:=[.for_ [5] (.seq (.blt .sorted [(.var 0)])) QjI]
noncomputable abbrev Qii:List S:=[.fresh 3 (.lst []),.for_ [4] (.seq (.var 1)) Qd5,.asg 1 (.var 3)]
noncomputable abbrev Qga:List S:=[.asg 1 (.lst [(.lst [])]),.for_ [2] (.rng [(.blt .len [(.var 0)])]) Qii,.ret (.var 1)]
theorem Qdz {cf:CF}{fw:Nat}{h:Qac}{a b c:Option W}{r:List Str} (hr:r.length≤900):∀ (ds:List Str) (us:List W) (q:Option W),us.length+ds.length≤1000000→∃ q',
  fo [5] (exB cf fw QjI) (ds.map W.str) [a,b,c,some (.ref h.length),some (QaX r),q] (h++[.lst us])=.ok (.nx [a,b,c,some (.ref h.length),some (QaX r),q']) (h++[.lst (us++((QaH ds r).map fun x=>QaX (r++[x])))])
 |[],us,q,_=>⟨q,by rw[List.map_nil,fo];simp[QaH]⟩
 |x::ds,us,q,hl=>by
  rw[List.length_cons]at hl
  let σ1:Qai:=[a,b,c,some (.ref h.length),some (QaX r),some (.str x)]
  have eb:QaG [5] (.str x) [a,b,c,some (.ref h.length),some (QaX r),q]=some σ1:=rfl
  have t1:evT cf (.cmp .NotIn (.var 5) (.var 4)) σ1 (h++[.lst us])=.ok (!Qa6 x r) (h++[.lst us]):=QcI (Qaa (i:=5) rfl) (Qaa (i:=4) rfl) rfl rfl
  rw[Qao]at t1
  by_cases m:x∈r
  ·rw[decide_eq_true m]at t1
   obtain⟨q',e⟩:=Qdz (cf:=cf) (fw:=fw) (h:=h) (a:=a) (b:=b) (c:=c) hr ds us (some (.str x)) (by omega)
   refine⟨q',?_⟩
   rw[List.map_cons,QaP eb ((Qab (Qbf t1)).trans (by rw[exB]))]
   have:QaH (x::ds) r=QaH ds r:=by unfold QaH;rw[List.filter_cons_of_neg (by simp[m])]
   rw[this]
   exact e
  ·rw[decide_eq_false m]at t1
   obtain⟨q',e⟩:=Qdz (cf:=cf) (fw:=fw) (h:=h) (a:=a) (b:=b) (c:=c) hr ds (us++[QaX (r++[x])]) (some (.str x)) (by rw[List.length_append,List.length_singleton];omega)
   refine⟨q',?_⟩
   have ap:exS cf fw (.exp (.meth .append (.var 3) [(.bin .Add (.var 4) (.lst [(.var 5)]))])) σ1 (h++[.lst us])=.ok (.nx σ1) (h++[.lst (us++[QaX (r++[x])])]):=by
    have w1:evE cf (.bin .Add (.var 4) (.lst [(.var 5)])) σ1 (h++[.lst us])=.ok (QaX (r++[x])) (h++[.lst us]):=(Qe3 (Qaa (i:=4) rfl) (Qb3 (Qad (Qaa (i:=5) rfl) Qag) (by show 1≤1000;decide)) (by rw[List.length_map];show _+1≤_;omega)).trans (by rw[QaX,List.map_append];rfl)
    have:=Qlq (cf:=cf) (a:=.var 3) (σ:=σ1) (h:=h++[.lst us]) (n:=h.length) (us:=us) (w:=QaX (r++[x])) (Qaa (i:=3) rfl) Qa8 w1 (by rw[Qan];exact Qaz _) (by omega)
    rw[Qbl]at this
    exact Qdy this
   rw[List.map_cons,QaP eb ((Qab ((Qea t1).trans ((Qab ap).trans (by rw[exB])))).trans (by rw[exB]))]
   have:QaH (x::ds) r=x::QaH ds r:=by unfold QaH;rw[List.filter_cons_of_pos (by simp[m])]
   rw[this,List.map_cons,show us++QaX (r++[x])::List.map (fun x=>QaX (r++[x])) (QaH ds r)=us++[QaX (r++[x])]++List.map (fun x=>QaX (r++[x])) (QaH ds r) by simp]
   exact e
theorem Qj1 {cf:CF}{fw:Nat}{h:Qac}{t:W}{b c:Option W}{D0 r:List Str} (ht:Seq t (D0.map W.str)) (hl:D0.length≤30) (hr:r.length≤900) (us:List W) (hu:us.length≤900000) (q:Option W):∃ q',exB cf fw Qd5 [some t,b,c,some (.ref h.length),some (QaX r),q] (h++[.lst us])=.ok (.nx [some t,b,c,some (.ref h.length),some (QaX r),q']) (h++[.lst (us++((QaH (srt D0) r).map fun x=>QaX (r++[x])))]):=by
 obtain⟨q',e⟩:=Qdz (cf:=cf) (fw:=fw) (h:=h) (a:=some t) (b:=b) (c:=c) hr (srt D0) us q (by rw[QaO];omega)
 refine⟨q',(Qab ((Qca (t:=.lst ((srt D0).map W.str)) (QcY (Qaa (i:=0) rfl) (ht.seqA _) (by omega)) (.inl rfl)).trans e)).trans (by rw[exB])⟩
noncomputable def QbO (D:List Str) (rs:List (List Str)):List (List Str):=rs.flatMap fun r=>(QaH D r).map fun x=>r++[x]
theorem Qdp (D:List Str):∀ rs:List (List Str),(QbO D rs).length≤rs.length*D.length
 |[]=>by simp[QbO]
 |r::rs=>by
  have ih:=Qdp D rs
  have h1:(QaH D r).length≤D.length:=List.length_filter_le _ _
  have:QbO D (r::rs)=((QaH D r).map fun x=>r++[x])++QbO D rs:=by unfold QbO;rw[List.flatMap_cons]
  rw[this,List.length_append,List.length_map,List.length_cons,Nat.succ_mul]
  omega
theorem QlI {cf:CF}{fw:Nat}{h:Qac}{t:W}{b c:Option W}{D0:List Str} (ht:Seq t (D0.map W.str)) (hl:D0.length≤30):∀ (rs:List (List Str)) (us:List W) (p q:Option W),(∀ r∈rs,r.length≤900)→us.length+rs.length*30≤900000→∃ p' q',
  fo [4] (exB cf fw Qd5) (rs.map QaX) [some t,b,c,some (.ref h.length),p,q] (h++[.lst us])=.ok (.nx [some t,b,c,some (.ref h.length),p',q']) (h++[.lst (us++(QbO (srt D0) rs).map QaX)])
 |[],us,p,q,_,_=>⟨p,q,by rw[List.map_nil,fo];simp[QbO]⟩
 |r::rs,us,p,q,hr,hu=>by
  rw[List.length_cons]at hu
  obtain⟨q1,e1⟩:=Qj1 (cf:=cf) (fw:=fw) (h:=h) (b:=b) (c:=c) ht hl (hr r List.mem_cons_self) us (by omega) q
  have l1:(QaH (srt D0) r).length≤30:=by
   have:=List.length_filter_le (fun x=>!decide (x∈r)) (srt D0)
   rw[QaO]at this
   exact Nat.le_trans this hl
  obtain⟨p2,q2,e2⟩:=QlI ht hl rs (us++((QaH (srt D0) r).map fun x=>QaX (r++[x]))) (some (QaX r)) q1 (fun r hr'=>hr r (List.mem_cons_of_mem _ hr')) (by rw[List.length_append,List.length_map];omega)
  refine⟨p2,q2,?_⟩
  have eb:QaG [4] (QaX r) [some t,b,c,some (.ref h.length),p,q]=some [some t,b,c,some (.ref h.length),some (QaX r),q]:=rfl
  rw[List.map_cons,QaP eb e1,e2,List.append_assoc]
  congr 5
  have:QbO (srt D0) (r::rs)=((QaH (srt D0) r).map fun x=>r++[x])++QbO (srt D0) rs:=by unfold QbO;rw[List.flatMap_cons]
  rw[this,List.map_append,List.map_map]
  rfl
theorem QiY {cf:CF}{fw:Nat}{h:Qac}{t:W}{b c:Option W}{D0:List Str}{n:Nat}{all:List (List Str)} (ht:Seq t (D0.map W.str)) (hl:D0.length≤30) (hn:h[n]?=some (.lst (all.map QaX))) (ha:∀ r∈all,r.length≤900) (hz:all.length*30≤900000):∀ (m i fu:Nat) (p q:Option W),i+m=all.length→m<fu→∃ p' q',
  foC n [4] (exB cf fw Qd5) fu i [some t,b,c,some (.ref h.length),p,q] (h++[.lst ((QbO (srt D0) (all.take i)).map QaX)])=.ok (.nx [some t,b,c,some (.ref h.length),p',q']) (h++[.lst ((QbO (srt D0) all).map QaX)])
 |m,i,0,p,q,_,hf=>by omega
 |0,i,fu+1,p,q,hi,_=>by
  have nl:n<h.length:=(List.getElem?_eq_some_iff.mp hn).1
  refine⟨p,q,?_⟩
  rw[foC,List.getElem?_append_left nl,hn]
  dsimp only
  rw[List.getElem?_eq_none (by rw[List.length_map];omega),List.take_of_length_le (by omega)]
 |m+1,i,fu+1,p,q,hi,hf=>by
  have nl:n<h.length:=(List.getElem?_eq_some_iff.mp hn).1
  have il:i<all.length:=by omega
  have nb:=Qdp (srt D0) (all.take i)
  rw[QaO,List.length_take]at nb
  have nb2:min i all.length*D0.length≤all.length*30:=Nat.mul_le_mul (by omega) hl
  obtain⟨q1,e1⟩:=Qj1 (cf:=cf) (fw:=fw) (h:=h) (b:=b) (c:=c) ht hl (ha all[i] (List.getElem_mem il)) ((QbO (srt D0) (all.take i)).map QaX) (by rw[List.length_map];omega) q
  obtain⟨p2,q2,e2⟩:=QiY ht hl hn ha hz m (i+1) fu (some (QaX all[i])) q1 (by omega) (by omega)
  refine⟨p2,q2,?_⟩
  rw[foC,List.getElem?_append_left nl,hn]
  dsimp only
  rw[List.getElem?_map,List.getElem?_eq_getElem il]
  dsimp only[Option.map]
  have eb:QaG [4] (QaX all[i]) [some t,b,c,some (.ref h.length),p,q]=some [some t,b,c,some (.ref h.length),some (QaX all[i]),q]:=rfl
  rw[eb]
  dsimp only
  rw[e1,bnd_ok]
  dsimp only
  have tk:QbO (srt D0) (all.take (i+1))=QbO (srt D0) (all.take i)++(QaH (srt D0) all[i]).map fun x=>all[i]++[x]:=by
   rw[List.take_succ_eq_append_getElem il]
   unfold QbO
   rw[List.flatMap_append,List.flatMap_cons,List.flatMap_nil,List.append_nil]
  rw[tk,List.map_append,List.map_map]at e2
  exact e2
theorem Qim (D:List Str) (k:Nat):Qcg D (k+1)=QbO D (Qcg D k):=rfl
theorem QgL (D:List Str) (hl:D.length≤6):∀ k,(Qcg D k).length≤6 ^ k
 |0=>Nat.le_refl _
 |k+1=>by
  rw[Qim,Nat.pow_succ]
  exact Nat.le_trans (Qdp D _) (Nat.mul_le_mul (QgL D hl k) hl)
theorem QkI {h cs:Qac}{n:Nat}{ws:List W} (hn:h.length≤n) (e:(h++cs)[n]?=some (.lst ws)):J.fin h.length (.ok (.ret (.ref n)) (h++cs))=.ok (.lst ws) h:=by
 unfold J.fin
 dsimp only
 rw[unr,if_neg (by omega),e]
 dsimp only
 rw[List.take_left]
theorem QhM {fw:Nat}{tb:List Fn}{f:Nat} (hf:tb[f]?=some ⟨1,6,Qga,none⟩) (d:Nat) (t:W) (D0:List Str) (h:Qac) (ht:Seq t (D0.map W.str)) (hl:D0.length≤6) (hfw:8000<fw):Qae fw tb (d+1) f [t] h=.ok (.lst ((Qcg (srt D0) D0.length).map QaX)) h:=by
 rw[Qak hf rfl]
 generalize Qae fw tb d=cf
 let D:List Str:=srt D0
 have Dl:D.length≤6:=by show (srt D0).length≤6;rw[QaO];exact hl
 show J.fin h.length (exB cf fw Qga [some t,none,none,none,none,none] h)=_
 let Iv:Nat→Qai→Qac→Prop:=fun k σ hh=>∃ cs w r2 r3 r4 r5,hh=h++cs∧σ=[some t,some w,r2,r3,r4,r5]∧(w=.lst ((Qcg D k).map QaX)∨∃ n,w=.ref n∧h.length≤n∧hh[n]?=some (.lst ((Qcg D k).map QaX)))
 obtain⟨σ',h',lp,iv⟩:=Qfv (i:=2) (n:=D0.length) (body:=exB cf fw Qii) (Iv:=Iv) (σ:=[some t,some (.lst [.lst []]),none,none,none,none]) (h:=h) (fun k σ hh hk iv=>by
  obtain⟨cs,w,r2,r3,r4,r5,e1,e2,e3⟩:=iv
  subst e2
  have bl:(Qcg D k).length≤7776:=Nat.le_trans (QgL D Dl k) (Nat.pow_le_pow_right (n:=6) (by decide) (show k≤5 by omega))
  have rl:∀ r∈Qcg D k,r.length≤900:=fun r hr=>by rw[(Qb9 hr).2.2];omega
  have f1:exS cf fw (.fresh 3 (.lst [])) [some t,some w,some (nat k),r3,r4,r5] hh=.ok (.nx [some t,some w,some (nat k),some (.ref hh.length),r4,r5]) (hh++[.lst []]):=by
   rw[exS,evF,evA,bnd_ok,if_pos (by decide),bnd_ok,if_pos (by rw[Qam])]
   rfl
  obtain⟨p',q',f2⟩:∃ p' q',exS cf fw (.for_ [4] (.seq (.var 1)) Qd5) [some t,some w,some (nat k),some (.ref hh.length),r4,r5] (hh++[.lst []])=.ok (.nx [some t,some w,some (nat k),some (.ref hh.length),p',q']) (hh++[.lst ((Qcg D (k+1)).map QaX)]):=by
   rcases e3 with rfl | ⟨n,rfl,hn,e3⟩
   ·obtain⟨p',q',e⟩:=QlI (cf:=cf) (fw:=fw) (h:=hh) (b:=some (.lst ((Qcg D k).map QaX))) (c:=some (nat k)) ht (by omega) (Qcg D k) [] r4 r5 rl (by rw[List.length_nil];omega)
    refine⟨p',q',?_⟩
    rw[exS,Qaa (i:=1) rfl,bnd_ok]
    rw[List.nil_append]at e
    exact e
   ·obtain⟨p',q',e⟩:=QiY (cf:=cf) (fw:=fw) (h:=hh) (b:=some (.ref n)) (c:=some (nat k)) (n:=n) (all:=Qcg D k) ht (by omega) e3 rl (by omega) (Qcg D k).length 0 fw r4 r5 (by omega) (by omega)
    refine⟨p',q',?_⟩
    rw[exS,Qaa (i:=1) rfl,bnd_ok]
    exact e
  refine⟨_,_,(Qab f1).trans ((Qab f2).trans ((Qab (Qaf (Qaa (i:=3) rfl))).trans (by rw[exB];rfl))),cs++[.lst ((Qcg D (k+1)).map QaX)],.ref hh.length,some (nat k),some (.ref hh.length),p',q',by rw[e1,List.append_assoc],rfl,.inr ⟨hh.length,rfl,by rw[e1,List.length_append];omega,Qa8⟩⟩) ⟨[],.lst [.lst []],none,none,none,none,by rw[List.append_nil],rfl,.inl rfl⟩
 obtain⟨cs,w,r2,r3,r4,r5,e1,e2,e3⟩:=iv
 have e:exB cf fw Qga [some t,none,none,none,none,none] h=.ok (.ret w) (h++cs):=by
  refine(Qab (Qaf (Qb3 (Qad (Qb3 Qag (by decide)) Qag) (by show 1≤1000;decide)))).trans ?_
  refine(Qab ((QcK (n:=D0.length) ((Qbs (Qaa (i:=0) rfl) (ht.seqA h)).trans (by rw[List.length_map])) (Nat.lt_of_le_of_lt hl (by decide))).trans lp)).trans ?_
  rw[e2,e1]
  exact Qal (Qa2 (Qaa (i:=1) rfl))
 rw[e]
 rcases e3 with rfl | ⟨n,rfl,hn,e3⟩
 ·exact Qmi (Qfc _)
 ·rw[e1]at e3
  exact QkI hn e3
theorem Qg1:∀ (o:List Str) (s:Nat) (x:Str),x∈o→Qc8 o ((List.range o.length).map fun i=>nat (s+i)) x=some (nat (s+o.idxOf x))
 |[],_,x,h=>by cases h
 |y::o,s,x,h=>by
  rw[List.length_cons,List.range_succ_eq_map,List.map_cons,List.map_map,Qc8]
  by_cases e:y=x
  ·rw[if_pos e,e,List.idxOf_cons_self]
  ·have ic:(y::o).idxOf x=o.idxOf x+1:=by rw[List.idxOf_cons,beq_false_of_ne e];rfl
   rw[if_neg e,ic]
   have:=Qg1 o (s+1) x ((List.mem_cons.mp h).resolve_left fun z=>e z.symm)
   rw[show (fun i=>nat (s+1+i))=(fun i=>nat (s+i)) ∘ Nat.succ by funext i;show nat _=nat _;rw[show s+1+i=s+(i+1) by omega]]at this
   rw[this,show s+1+o.idxOf x=s+(o.idxOf x+1) by omega]
noncomputable def Qc6 (o:List Str):List Str→Str→Str
 |[],l=>l
 |x::H,l=>Qc6 o H (if o.idxOf l<o.idxOf x then x else l)
theorem Qcq (o:List Str):∀ (H:List Str) (l:Str),(Qc6 o H l=l∨Qc6 o H l∈H)∧o.idxOf l≤o.idxOf (Qc6 o H l)∧∀ x∈H,o.idxOf x≤o.idxOf (Qc6 o H l)
 |[],l=>⟨.inl rfl,Nat.le_refl _,fun x hx=>by cases hx⟩
 |x::H,l=>by
  rw[Qc6]
  obtain⟨a,b,c⟩:=Qcq o H (if o.idxOf l<o.idxOf x then x else l)
  by_cases q:o.idxOf l<o.idxOf x
  ·rw[if_pos q]at a b c ⊢
   refine⟨.inr ?_,by omega,fun y hy=>?_⟩
   ·rcases a with a | a
    ·rw[a];exact List.mem_cons_self
    ·exact List.mem_cons_of_mem _ a
   ·rcases List.mem_cons.mp hy with rfl | hy
    ·exact b
    ·exact c y hy
  ·rw[if_neg q]at a b c ⊢
   refine⟨a.imp_right (List.mem_cons_of_mem _),b,fun y hy=>?_⟩
   rcases List.mem_cons.mp hy with rfl | hy
   ·omega
   ·exact c y hy
theorem Qd3 {o H:List Str}{l:Str} (nd:o.Nodup) (hH:∀ x∈H,x∈o) (hl:l∈H):Qfb o H=some (Qc6 o H l):=by
 obtain⟨a,_,c⟩:=Qcq o H l
 have m:Qc6 o H l∈H:=by
  rcases a with a | a
  ·rw[a];exact hl
  ·exact a
 have mo:=hH _ m
 have il:o.idxOf (Qc6 o H l)<o.length:=List.idxOf_lt_length_iff.mpr mo
 have ge:o[o.idxOf (Qc6 o H l)]=Qc6 o H l:=List.getElem_idxOf il
 obtain⟨y,e,y1,y2⟩:=QbU (o:=o) (H:=H) (i:=o.idxOf (Qc6 o H l)) (z:=Qc6 o H l) (by
  refine List.mem_drop_iff_getElem.mpr ⟨0,by simpa using il,?_⟩
  simpa using ge) m
 rw[e]
 obtain⟨j,hj,ej⟩:=List.mem_drop_iff_getElem.mp y1
 have:o.idxOf y=o.idxOf (Qc6 o H l)+j:=by
  rw[← ej]
  exact nd.idxOf_getElem _ _
 have:=c y y2
 have j0:j=0:=by omega
 subst j0
 congr 1
 rw[← ej]
 simpa using ge
structure Pz where
 w:Nat
 hs:List Str
 wins:List Str
noncomputable def pzW (z:Pz):W:=.lst [nat z.w,QaE z.hs,.lst (z.wins.map W.str)]
noncomputable abbrev Qi0 : List S := [.asg 9 (.ix (.var 7) (.con (.int 0))),
 .for_ [10] (.seq (.var 7)) [.if_ (.cmp .Gt (.ix (.var 4) (.var 10)) (.ix (.var 4) (.var 9))) [.asg 9 (.var 10)] []],
 .if_ (.cmp .In (.var 9) (.var 8)) [.asg 3 (.bin .Add (.var 3) (.var 6))] []]
noncomputable abbrev Qjx : List S := [.asg 3 (.var 1),
 .freshD 4,
 .for_ [5] (.rng [(.blt .len [(.var 0)])]) [.setix (.var 4) (.ix (.var 0) (.var 5)) (.var 5)],
 .for_ [6,7,8] (.seq (.var 2)) Qi0,
 .ret (.var 3)]
noncomputable def QaV (o:List Str):List Pz→Nat→Nat
 |[],s=>s
 |z::zs,s=>QaV o zs (if Qa6 (Qc6 o z.hs (z.hs.getD 0 "")) z.wins=true then s+z.w else s)
theorem QjK {fw:Nat}{tb:List Fn}{f:Nat} (hf:tb[f]?=some ⟨3,11,Qjx,none⟩) (d:Nat) (o:List Str) (s0:Nat) (zs:List Pz) (h:Qac) (nd:o.Nodup) (ho:o.length≤1000) (hz:∀ z∈zs,1≤z.hs.length∧∀ x∈z.hs,x∈o):Qae fw tb (d+1) f [QaX o,nat s0,.lst (zs.map pzW)] h=.ok (nat (QaV o zs s0)) h:=by
 rw[Qak hf rfl]
 generalize Qae fw tb d=cf
 let A:Option W:=some (QaX o)
 let B:Option W:=some (nat s0)
 let C:Option W:=some (.lst (zs.map pzW))
 show J.fin h.length (exB cf fw Qjx [A,B,C,none,none,none,none,none,none,none,none] h)=_
 let vals (k:Nat):List W:=(List.range k).map fun i=>nat (0+i)
 let σ (s:Nat) (r5 r6 r7 r8 r9 r10:Option W):Qai:=[A,B,C,some (nat s),some (.ref h.length),r5,r6,r7,r8,r9,r10]
 let hd (k:Nat):Qac:=h++[.dic (o.take k) (vals k)]
 obtain⟨σ1,h1,lp,iv⟩:=Qfv (i:=5) (n:=o.length) (body:=exB cf fw [.setix (.var 4) (.ix (.var 0) (.var 5)) (.var 5)]) (Iv:=fun k τ hh=>hh=hd k∧∃ r5,τ=σ s0 r5 none none none none none) (σ:=σ s0 none none none none none none) (h:=hd 0) (fun k τ hh hk iv=>by
  obtain⟨rfl,r5,rfl⟩:=iv
  refine⟨σ s0 (some (nat k)) none none none none none,hd (k+1),?_,rfl,_,rfl⟩
  have e1:=QeB (cf:=cf) (fw:=fw) (i:=4) (n:=h.length) (k:=.ix (.var 0) (.var 5)) (e:=.var 5) (σ:=σ s0 (some (nat k)) none none none none none) (h:=hd k) (ks:=o.take k) (ws:=vals k) (x:=o[k]) (w:=nat k) rfl Qa8 (QaS (Qaa (i:=0) rfl) (Qaa (i:=5) rfl) (Qf4 (k:=k) (t:=QaX o) rfl (by rw[List.getElem?_map,List.getElem?_eq_getElem hk];rfl))) (Qaa (i:=5) rfl) rfl (by rw[List.length_take];omega)
  refine(Qab e1).trans ?_
  have nw:o[k]∉o.take k:=fun m=>by
   obtain⟨j,hj,e⟩:=List.mem_take_iff_getElem.mp m
   have:=(List.getElem_inj (h₀:=by omega) (h₁:=hk) nd).mp e
   omega
  rw[exB,Qgy nw,Qbl]
  show Res.ok (Fl.nx _) (h++[Ob.dic (o.take k++[o[k]]) (vals k++[nat k])])=Res.ok (Fl.nx _) (h++[Ob.dic (o.take (k+1)) (vals (k+1))])
  rw[List.take_succ_eq_append_getElem hk,show vals (k+1)=vals k++[nat k] by simp only[vals];rw[List.range_succ,List.map_append,List.map_cons,List.map_nil,Nat.zero_add]]) ⟨rfl,none,rfl⟩
 obtain⟨rfl,r5,rfl⟩:=iv
 let hh:Qac:=hd o.length
 have hg:Qbt hh (.ref h.length)=some (o,vals o.length):=by
  show (match hh[h.length]? with | some (.dic ks ws)=>some (ks,ws) | _=>none)=_
  rw[show hh[h.length]?=some (.dic (o.take o.length) (vals o.length)) from Qa8,List.take_length]
 have pl:∀ (τ:Qai) (i:Nat) (x:Str),τ[4]?=some (some (.ref h.length))→τ[i]?=some (some (.str x))→x∈o→evE cf (.ix (.var 4) (.var i)) τ hh=.ok (nat (o.idxOf x)) hh:=fun τ i x h4 hi hx=>by
  refine QaS (Qaa h4) (Qaa hi) ?_
  show (match Qbt hh (.ref h.length) with | some (ks,ws)=>(match Qc8 ks ws x with | some w=>Res.ok w hh | none=>.stuck) | none=>.stuck)=_
  rw[hg]
  dsimp only
  rw[Qg1 o 0 x hx,Nat.zero_add]
 have inner:∀ (s:Nat) (r5 r6 r8:Option W) (w7:W) (H:List Str) (l:Str) (r10:Option W),(∀ x∈H,x∈o)→l∈o→∃ r10',fo [10] (exB cf fw [.if_ (.cmp .Gt (.ix (.var 4) (.var 10)) (.ix (.var 4) (.var 9))) [.asg 9 (.var 10)] []]) (H.map W.str) (σ s r5 r6 (some w7) r8 (some (.str l)) r10) hh=.ok (.nx (σ s r5 r6 (some w7) r8 (some (.str (Qc6 o H l))) r10')) hh:=fun s r5 r6 r8 w7 H=>by
  induction H with
  |nil=>intro l r10 _ _;exact⟨r10,by rw[List.map_nil,fo];rfl⟩
  |cons x H ih =>
   intro l r10 hH hl
   have xo:=hH x List.mem_cons_self
   have t1:evT cf (.cmp .Gt (.ix (.var 4) (.var 10)) (.ix (.var 4) (.var 9))) (σ s r5 r6 (some w7) r8 (some (.str l)) (some (.str x))) hh=.ok (decide (((o.idxOf l:Nat):Int)<((o.idxOf x:Nat):Int))) hh:=Qhd (pl _ 10 x rfl rfl xo) (pl _ 9 l rfl rfl hl)
   have eb:QaG [10] (.str x) (σ s r5 r6 (some w7) r8 (some (.str l)) r10)=some (σ s r5 r6 (some w7) r8 (some (.str l)) (some (.str x))):=rfl
   rw[Qc6]
   by_cases q:o.idxOf l<o.idxOf x
   ·rw[decide_eq_true (by omega)]at t1
    obtain⟨r',e⟩:=ih x (some (.str x)) (fun y hy=>hH y (List.mem_cons_of_mem _ hy)) xo
    refine⟨r',?_⟩
    rw[List.map_cons,QaP eb ((Qab ((Qea t1).trans ((Qab (Qaf (Qaa (i:=10) rfl))).trans (by rw[exB])))).trans (by rw[exB])),if_pos q]
    exact e
   ·rw[decide_eq_false (by omega)]at t1
    obtain⟨r',e⟩:=ih l (some (.str x)) (fun y hy=>hH y (List.mem_cons_of_mem _ hy)) hl
    refine⟨r',?_⟩
    rw[List.map_cons,QaP eb ((Qab (Qbf t1)).trans (by rw[exB])),if_neg q]
    exact e
 have outer:∀ (zs:List Pz) (s:Nat) (r5 r6 r7 r8 r9 r10:Option W),(∀ z∈zs,1≤z.hs.length∧∀ x∈z.hs,x∈o)→∃ a6 a7 a8 a9 a10,fo [6,7,8] (exB cf fw Qi0) (zs.map pzW) (σ s r5 r6 r7 r8 r9 r10) hh=.ok (.nx (σ (QaV o zs s) r5 a6 a7 a8 a9 a10)) hh:=fun zs=>by
  induction zs with
  |nil=>intro s r5 r6 r7 r8 r9 r10 _;exact⟨r6,r7,r8,r9,r10,by rw[List.map_nil,fo];rfl⟩
  |cons z zs ih =>
   intro s r5 r6 r7 r8 r9 r10 hz
   obtain⟨h1,ho⟩:=hz z List.mem_cons_self
   let l0:Str:=z.hs.getD 0 ""
   have l0H:l0∈z.hs:=by
    show z.hs.getD 0 ""∈z.hs
    rw[List.getD_eq_getElem?_getD,List.getElem?_eq_getElem (show 0<z.hs.length by omega)]
    exact List.getElem_mem _
   obtain⟨r10',e1⟩:=inner s r5 (some (nat z.w)) (some (.lst (z.wins.map W.str))) (QaE z.hs) z.hs l0 r10 ho (ho l0 l0H)
   let y:Str:=Qc6 o z.hs l0
   obtain⟨a6,a7,a8,a9,a10,e2⟩:=ih (if Qa6 y z.wins=true then s+z.w else s) r5 (some (nat z.w)) (some (QaE z.hs)) (some (.lst (z.wins.map W.str))) (some (.str y)) r10' (fun z' hz'=>hz z' (List.mem_cons_of_mem _ hz'))
   refine⟨a6,a7,a8,a9,a10,?_⟩
   have eb:QaG [6,7,8] (pzW z) (σ s r5 r6 r7 r8 r9 r10)=some (σ s r5 (some (nat z.w)) (some (QaE z.hs)) (some (.lst (z.wins.map W.str))) r9 r10):=rfl
   have bd:exB cf fw Qi0 (σ s r5 (some (nat z.w)) (some (QaE z.hs)) (some (.lst (z.wins.map W.str))) r9 r10) hh=.ok (.nx (σ (if Qa6 y z.wins=true then s+z.w else s) r5 (some (nat z.w)) (some (QaE z.hs)) (some (.lst (z.wins.map W.str))) (some (.str y)) r10')) hh:=by
    refine(Qab (Qaf (QaS (Qaa (i:=7) rfl) Qaj (Qf4 (k:=0) (t:=QaE z.hs) (w:=.str l0) rfl (by rw[List.getElem?_map,List.getElem?_eq_getElem (show 0<z.hs.length by omega)];show _=some (W.str (z.hs.getD 0 ""));rw[List.getD_eq_getElem?_getD,List.getElem?_eq_getElem (show 0<z.hs.length by omega)];rfl))))).trans ?_
    refine(Qab ((Qca (t:=QaE z.hs) (Qaa (i:=7) rfl) (.inr rfl)).trans e1)).trans ?_
    have t1:evT cf (.cmp .In (.var 9) (.var 8)) (σ s r5 (some (nat z.w)) (some (QaE z.hs)) (some (.lst (z.wins.map W.str))) (some (.str y)) r10') hh=.ok (Qa6 y z.wins) hh:=QdT (Qaa (i:=9) rfl) (Qaa (i:=8) rfl) rfl rfl
    by_cases q:Qa6 y z.wins=true
    ·rw[q]at t1
     rw[if_pos q]
     exact(Qab ((Qea t1).trans ((Qab (Qaf (Qay (Qaa (i:=3) rfl) (Qaa (i:=6) rfl)))).trans (by rw[exB])))).trans (by rw[exB];rfl)
    ·have q':Qa6 y z.wins=false:=by simpa using q
     rw[q']at t1
     rw[if_neg q]
     exact(Qab (Qbf t1)).trans (by rw[exB])
   rw[List.map_cons,QaP eb bd,e2]
   rfl
 obtain⟨a6,a7,a8,a9,a10,e3⟩:=outer zs s0 r5 none none none none none hz
 have e:exB cf fw Qjx [A,B,C,none,none,none,none,none,none,none,none] h=.ok (.ret (nat (QaV o zs s0))) hh:=by
  refine(Qab (Qaf (Qaa (i:=1) rfl))).trans ?_
  refine(Qab (σ':=σ s0 none none none none none none) (h':=hd 0) (by rw[exS];rfl)).trans ?_
  refine(Qab ((QcK (n:=o.length) ((Qbs (Qaa (i:=0) rfl) rfl).trans (by rw[List.length_map])) (Nat.lt_of_le_of_lt ho (by decide))).trans lp)).trans ?_
  refine(Qab ((Qca (t:=.lst (zs.map pzW)) (Qaa (i:=2) rfl) (.inl rfl)).trans e3)).trans ?_
  exact Qal (Qa2 (Qaa (i:=3) rfl))
 rw[e]
 unfold J.fin
 dsimp only
 rw[Qbu (nat (QaV o zs s0)) rfl]
 dsimp only
 show Res.ok _ (List.take h.length (h++_))=_
 rw[List.take_left]
noncomputable def QaC:List Pt→Nat→Nat
 |[],n=>n
 |x::xs,n=>QaC xs (n*x.q)
theorem Qc1:∀ (xs:List Pt) (n N:Nat),(∀ x∈xs,x.Ok)→0<n→n<2 ^ N→0<QaC xs n∧QaC xs n<2 ^ (N+10*xs.length)
 |[],n,N,_,h0,h=>⟨h0,h⟩
 |x::xs,n,N,hx,h0,h=>by
  have o:=hx x List.mem_cons_self
  have:=Qc1 xs (n*x.q) (N+10) (fun y hy=>hx y (List.mem_cons_of_mem _ hy)) (Nat.mul_pos h0 o.q0) (Qb0 h (Nat.lt_of_le_of_lt o.q1 (by decide)))
  rw[List.length_cons,show N+10*(xs.length+1)=N+10+10*xs.length by omega]
  exact this
noncomputable def QfM (sc:Nat) (x:Pt):Nat:=x.p*(sc / x.q)
noncomputable def QcB (nm:Str) (D:List Str) (sc:Nat):List Pt→Nat→Nat
 |[],s=>s
 |x::xs,s=>QcB nm D sc xs (if Qa6 nm (Qa0 x.hs D)=true then s+QfM sc x / (Qa0 x.hs D).length else s)
noncomputable def Qba (he:Str→Str) (nm:Str) (D:List Str) (sc:Nat) (xs:List Pt):List Pz:=(xs.filter fun x=>decide (Qa0 x.hs D=[])).map fun x=>⟨QfM sc x,x.hs,x.hs.filter fun s=>decide (he s=nm)⟩
noncomputable abbrev Qet (hl : Nat) : List S := [.asg 12 (.bin .Mult (.ix (.var 9) (.con (.int 0))) (.bin .FloorDiv (.var 5) (.ix (.var 9) (.con (.int 1))))),
 .asg 13 (.compS [15] 1 (.var 10) [(.cmp .NotIn (.var 15) (.var 2))] (.var 15)),
 .if_ (.cmp .In (.var 1) (.var 13)) [.asg 7 (.bin .Add (.var 7) (.bin .FloorDiv (.var 12) (.blt .len [(.var 13)])))] [],
 .if_ (.cmp .Eq (.var 13) (.lst [])) [.asg 14 (.compS [15] 1 (.var 10) [(.cmp .Eq (.call hl [(.var 15),(.var 3),(.var 4)]) (.var 1))] (.var 15)),
 .exp (.meth .append (.var 8) [(.lst [(.var 12), (.var 10), (.var 14)])])] []]
noncomputable abbrev Qgt (hl : Nat) : List S := [.asg 5 (.con (.int 60)),
 .for_ [6] (.seq (.var 0)) [.asg 5 (.bin .Mult (.var 5) (.ix (.ix (.var 6) (.con (.int 0))) (.con (.int 1))))],
 .asg 7 (.con (.int 0)),
 .fresh 8 (.lst []),
 .for_ [9,10,11] (.seq (.var 0)) (Qet hl),
 .ret (.lst [(.var 5), (.var 7), (.var 8)])]
theorem QlZ (z:Pz):Qan (pzW z)=true:=by
 unfold pzW
 simp only[Qan,Qam,Qaz,Bool.and_self,QaE]
theorem Qh3 {fw:Nat}{tb:List Fn}{f hl:Nat} (hf:tb[f]?=some ⟨5,15,Qgt hl,none⟩) (hh:tb[hl]?=some ⟨3,5,Qhm,none⟩) (d:Nat) (xs:List Pt) (nm:Str) (D ks vs G:List Str) (h:Qac) (hx:∀ x∈xs,x.Ok) (hl60:xs.length≤60) :
  Qae fw tb (d+2) f [.lst (xs.map ptW),.str nm,.lst (D.map W.str),.dic ks (vs.map W.str),.lst (G.map W.str)] h=.ok (.lst [nat (QaC xs 60),nat (QcB nm D (QaC xs 60) xs 0),.lst ((Qba (fun s=>Qbe (nxS ks vs) (fun y=>Qa6 y G) s 31 s) nm D (QaC xs 60) xs).map pzW)]) h:=by
 rw[Qak hf rfl]
 have c1:=fun (s:Str) (hh':Qac)=>QkR (fw:=fw) hh d s ks vs G hh'
 generalize Qae fw tb (d+1)=cf at *
 let he:Str→Str:=fun s=>Qbe (nxS ks vs) (fun y=>Qa6 y G) s 31 s
 let sc:Nat:=QaC xs 60
 obtain⟨sc0,scb⟩:=Qc1 xs 60 6 hx (by decide) (by decide)
 have scb2:sc<2 ^ 1000:=Nat.lt_of_lt_of_le scb (Nat.pow_le_pow_right (by decide) (by omega))
 let A:Option W:=some (.lst (xs.map ptW))
 let B:Option W:=some (.str nm)
 let C:Option W:=some (.lst (D.map W.str))
 let E1:Option W:=some (.dic ks (vs.map W.str))
 let F1:Option W:=some (.lst (G.map W.str))
 let σ (a5 a6 a7 a8 a9 a10 a11 a12 a13 a14:Option W):Qai:=[A,B,C,E1,F1,a5,a6,a7,a8,a9,a10,a11,a12,a13,a14]
 let n:Option W:=none
 show J.fin h.length (exB cf fw (Qgt hl) (σ n n n n n n n n n n) h)=_
 have l1:∀ (ys:List Pt) (m N:Nat) (r:Option W),(∀ x∈ys,x.Ok)→m<2 ^ N→N+10*ys.length≤1000→∃ r',fo [6] (exB cf fw [.asg 5 (.bin .Mult (.var 5) (.ix (.ix (.var 6) (.con (.int 0))) (.con (.int 1))))]) (ys.map ptW) (σ (some (nat m)) r n n n n n n n n) h=.ok (.nx (σ (some (nat (QaC ys m))) r' n n n n n n n n)) h:=fun ys=>by
  induction ys with
  |nil=>intro m N r _ _ _;exact⟨r,by rw[List.map_nil,fo];rfl⟩
  |cons y ys ih =>
   intro m N r hy hm hN
   rw[List.length_cons]at hN
   have o:=hy y List.mem_cons_self
   have yq:y.q<2 ^ 10:=Nat.lt_of_le_of_lt o.q1 (by decide)
   obtain⟨r',e⟩:=ih (m*y.q) (N+10) (some (ptW y)) (fun z hz=>hy z (List.mem_cons_of_mem _ hz)) (Qb0 hm yq) (by omega)
   refine⟨r',?_⟩
   have eb:QaG [6] (ptW y) (σ (some (nat m)) r n n n n n n n n)=some (σ (some (nat m)) (some (ptW y)) n n n n n n n n):=rfl
   rw[List.map_cons,QaP eb ((Qab (Qaf (Qbg (Qaa (i:=5) rfl) (QaS (ix_sh (x:=y) (Qaa (i:=6) rfl)) Qaj (ix_T (i1 _ _))) (Qbq hm yq (by omega))))).trans (by rw[exB]))]
   exact e
 obtain⟨r6,e1⟩:=l1 xs 60 6 none hx (by decide) (by omega)
 have l2:∀ (ys:List Pt) (s:Nat) (zs:List Pz) (a9 a10 a11 a12 a13 a14:Option W),(∀ x∈ys,x.Ok)→zs.length+ys.length≤1000→∃ b9 b10 b11 b12 b13 b14,
   fo [9,10,11] (exB cf fw (Qet hl)) (ys.map ptW) (σ (some (nat sc)) r6 (some (nat s)) (some (.ref h.length)) a9 a10 a11 a12 a13 a14) (h++[.lst (zs.map pzW)])=.ok (.nx (σ (some (nat sc)) r6 (some (nat (QcB nm D sc ys s))) (some (.ref h.length)) b9 b10 b11 b12 b13 b14)) (h++[.lst ((zs++Qba he nm D sc ys).map pzW)]):=fun ys=>by
  induction ys with
  |nil=>intro s zs a9 a10 a11 a12 a13 a14 _ _;exact⟨a9,a10,a11,a12,a13,a14,by rw[List.map_nil,fo,show Qba he nm D sc []=[] from rfl,List.append_nil];rfl⟩
  |cons y ys ih =>
   intro s zs a9 a10 a11 a12 a13 a14 hy hz
   rw[List.length_cons]at hz
   have o:=hy y List.mem_cons_self
   let L:List Str:=Qa0 y.hs D
   let v:Nat:=QfM sc y
   let hh1:Qac:=h++[.lst (zs.map pzW)]
   have yq:y.q<2 ^ 10:=Nat.lt_of_le_of_lt o.q1 (by decide)
   have yp:y.p<2 ^ 10:=Nat.lt_of_le_of_lt o.p1 (by decide)
   let s':Nat:=if Qa6 nm L=true then s+v / L.length else s
   let z:Pz:=⟨v,y.hs,y.hs.filter fun s=>decide (he s=nm)⟩
   have eb:QaG [9,10,11] (ptW y) (σ (some (nat sc)) r6 (some (nat s)) (some (.ref h.length)) a9 a10 a11 a12 a13 a14)=some (σ (some (nat sc)) r6 (some (nat s)) (some (.ref h.length)) (some (sh y.p y.q)) (some (QaE y.hs)) (some (.tup y.tr)) a12 a13 a14):=rfl
   have Ll:L.length≤6:=Nat.le_trans (List.length_filter_le _ _) o.h1
   obtain⟨b14,bd⟩:∃ b14,exB cf fw (Qet hl) (σ (some (nat sc)) r6 (some (nat s)) (some (.ref h.length)) (some (sh y.p y.q)) (some (QaE y.hs)) (some (.tup y.tr)) a12 a13 a14) hh1=.ok (.nx (σ (some (nat sc)) r6 (some (nat s')) (some (.ref h.length)) (some (sh y.p y.q)) (some (QaE y.hs)) (some (.tup y.tr)) (some (nat v)) (some (.lst (L.map W.str))) b14)) (h++[.lst ((zs++if L=[] then [z] else []).map pzW)]):=by
    have f1:exS cf fw (.asg 12 (.bin .Mult (.ix (.var 9) (.con (.int 0))) (.bin .FloorDiv (.var 5) (.ix (.var 9) (.con (.int 1)))))) (σ (some (nat sc)) r6 (some (nat s)) (some (.ref h.length)) (some (sh y.p y.q)) (some (QaE y.hs)) (some (.tup y.tr)) a12 a13 a14) hh1=.ok (.nx (σ (some (nat sc)) r6 (some (nat s)) (some (.ref h.length)) (some (sh y.p y.q)) (some (QaE y.hs)) (some (.tup y.tr)) (some (nat v)) a13 a14)) hh1 :=
     Qaf (Qbg (QfK rfl) (QaN (Qaa (i:=5) rfl) (Qcz rfl) o.q0 (Qbi yq (by decide))) (Qbq yp (Nat.lt_of_le_of_lt (Nat.div_le_self _ _) scb2) (by decide)))
    have f2:exS cf fw (.asg 13 (.compS [15] 1 (.var 10) [(.cmp .NotIn (.var 15) (.var 2))] (.var 15))) (σ (some (nat sc)) r6 (some (nat s)) (some (.ref h.length)) (some (sh y.p y.q)) (some (QaE y.hs)) (some (.tup y.tr)) (some (nat v)) a13 a14) hh1=.ok (.nx (σ (some (nat sc)) r6 (some (nat s)) (some (.ref h.length)) (some (sh y.p y.q)) (some (QaE y.hs)) (some (.tup y.tr)) (some (nat v)) (some (.lst (L.map W.str))) a14)) hh1 :=
     Qaf (QbI (i:=15) (n:=1) (ss:=y.hs) (p:=fun s=>!Qa6 s D) (x:=QaE y.hs) (Qaa (i:=10) rfl) rfl (by have:=o.h1;omega) (fun s _ hh=>QcI (Qaa (i:=15) rfl) (Qaa (i:=2) rfl) rfl rfl) (by show 15<15+1;decide))
    refine Exists.imp (fun b14 (e:exB cf fw ((Qet hl).drop 3) (σ (some (nat sc)) r6 (some (nat s')) (some (.ref h.length)) (some (sh y.p y.q)) (some (QaE y.hs)) (some (.tup y.tr)) (some (nat v)) (some (.lst (L.map W.str))) a14) hh1=_)=>(Qab f1).trans ((Qab f2).trans (((Qab ?_).trans e)))) ?_
    ·have t1:evT cf (.cmp .In (.var 1) (.var 13)) (σ (some (nat sc)) r6 (some (nat s)) (some (.ref h.length)) (some (sh y.p y.q)) (some (QaE y.hs)) (some (.tup y.tr)) (some (nat v)) (some (.lst (L.map W.str))) a14) hh1=.ok (Qa6 nm L) hh1:=QdT (Qaa (i:=1) rfl) (Qaa (i:=13) rfl) rfl rfl
     by_cases q:Qa6 nm L=true
     ·rw[q]at t1
      have es:s'=s+v / L.length:=if_pos q
      have lp:0<L.length:=by
       rw[Qao,decide_eq_true_eq]at q
       exact List.length_pos_of_mem q
      rw[es]
      exact(Qea t1).trans ((Qab (Qaf (Qay (Qaa (i:=7) rfl) (QaN (Qaa (i:=12) rfl) ((Qbs (Qaa (i:=13) rfl) rfl).trans (by rw[List.length_map])) lp (lt9 (Nat.lt_of_le_of_lt Ll (by decide))))))).trans (by rw[exB];rfl))
     ·have q':Qa6 nm L=false:=by simpa using q
      rw[q']at t1
      have es:s'=s:=if_neg q
      rw[es]
      exact Qbf t1
    ·have Ln:∀ s∈L,QeF s:=fun s hs=>o.nm s (List.mem_filter.mp hs).1
     have t2:evT cf (.cmp .Eq (.var 13) (.lst [])) (σ (some (nat sc)) r6 (some (nat s')) (some (.ref h.length)) (some (sh y.p y.q)) (some (QaE y.hs)) (some (.tup y.tr)) (some (nat v)) (some (.lst (L.map W.str))) a14) hh1=.ok (decide (L=[])) hh1:=ev_eqL (us:=[]) (Qaa (i:=13) rfl) (Qb3 Qag (by decide)) Ln (fun s hs=>by cases hs)
     by_cases q:L=[]
     ·rw[decide_eq_true q]at t2
      refine⟨some (.lst (z.wins.map W.str)),?_⟩
      rw[if_pos q]
      have f3:exS cf fw (.asg 14 (.compS [15] 1 (.var 10) [(.cmp .Eq (.call hl [(.var 15),(.var 3),(.var 4)]) (.var 1))] (.var 15))) (σ (some (nat sc)) r6 (some (nat s')) (some (.ref h.length)) (some (sh y.p y.q)) (some (QaE y.hs)) (some (.tup y.tr)) (some (nat v)) (some (.lst (L.map W.str))) a14) hh1=.ok (.nx (σ (some (nat sc)) r6 (some (nat s')) (some (.ref h.length)) (some (sh y.p y.q)) (some (QaE y.hs)) (some (.tup y.tr)) (some (nat v)) (some (.lst (L.map W.str))) (some (.lst (z.wins.map W.str))))) hh1 :=
       Qaf (QbI (i:=15) (n:=1) (ss:=y.hs) (p:=fun s=>decide (he s=nm)) (x:=QaE y.hs) (Qaa (i:=10) rfl) rfl (by have:=o.h1;omega) (fun s _ hh=>Qa5 (Qll (QaF (Qad (Qaa (i:=15) rfl) (Qad (Qaa (i:=3) rfl) (Qad (Qaa (i:=4) rfl) Qag))) (c1 s hh)) (Qaa (i:=1) rfl))) (by show 15<15+1;decide))
      let τ:Qai:=σ (some (nat sc)) r6 (some (nat s')) (some (.ref h.length)) (some (sh y.p y.q)) (some (QaE y.hs)) (some (.tup y.tr)) (some (nat v)) (some (.lst (L.map W.str))) (some (.lst (z.wins.map W.str)))
      have f4:exS cf fw (.exp (.meth .append (.var 8) [(.lst [(.var 12),(.var 10),(.var 14)])])) τ hh1=.ok (.nx τ) (h++[.lst ((zs++[z]).map pzW)]):=by
       have:=Qlq (cf:=cf) (a:=.var 8) (σ:=τ) (h:=hh1) (n:=h.length) (us:=zs.map pzW) (w:=pzW z) (Qaa (i:=8) rfl) Qa8 (Qb3 (Qad (Qaa (i:=12) rfl) (Qad (Qaa (i:=10) rfl) (Qad (Qaa (i:=14) rfl) Qag))) (by show 3≤1000;decide)) (QlZ z) (by rw[List.length_map];omega)
       rw[Qbl]at this
       rw[List.map_append]
       exact Qdy this
      exact(Qab ((Qea t2).trans ((Qab f3).trans ((Qab f4).trans (by rw[exB]))))).trans (by rw[exB])
     ·rw[decide_eq_false q]at t2
      refine⟨a14,?_⟩
      rw[if_neg q,List.append_nil]
      exact(Qab (Qbf t2)).trans (by rw[exB])
   obtain⟨b9,b10,b11,b12,b13,c14,e⟩:=ih s' (zs++if L=[] then [z] else []) (some (sh y.p y.q)) (some (QaE y.hs)) (some (.tup y.tr)) (some (nat v)) (some (.lst (L.map W.str))) b14 (fun z hz=>hy z (List.mem_cons_of_mem _ hz)) (by rw[List.length_append];split<;>simp<;>omega)
   refine⟨b9,b10,b11,b12,b13,c14,?_⟩
   rw[List.map_cons,QaP eb bd,e]
   have pz:Qba he nm D sc (y::ys)=(if L=[] then [z] else [])++Qba he nm D sc ys:=by
    unfold Qba
    by_cases q:L=[]
    ·rw[if_pos q,List.filter_cons_of_pos (by simpa using q)];rfl
    ·rw[if_neg q,List.filter_cons_of_neg (by simpa using q)];rfl
   rw[pz,List.append_assoc]
   rfl
 obtain⟨b9,b10,b11,b12,b13,b14,e2⟩:=l2 xs 0 [] none none none none none none hx (by rw[List.length_nil];omega)
 rw[List.nil_append]at e2
 have e:exB cf fw (Qgt hl) (σ n n n n n n n n n n) h=.ok (.ret (.lst [nat sc,nat (QcB nm D sc xs 0),.ref h.length])) (h++[.lst ((Qba he nm D sc xs).map pzW)]):=by
  refine(Qab (Qaf Qaj)).trans ?_
  refine(Qab ((Qca (t:=.lst (xs.map ptW)) (Qaa (i:=0) rfl) (.inl rfl)).trans e1)).trans ?_
  refine(Qab (Qaf Qaj)).trans ?_
  refine(Qab (σ':=σ (some (nat sc)) r6 (some (nat 0)) (some (.ref h.length)) n n n n n n) (h':=h++[.lst []]) ?_).trans ?_
  ·rw[exS,evF,evA,bnd_ok,if_pos (by decide),bnd_ok,if_pos (by rw[Qam])]
   rfl
  refine(Qab ((Qca (t:=.lst (xs.map ptW)) (Qaa (i:=0) rfl) (.inl rfl)).trans e2)).trans ?_
  exact Qal (Qa2 (Qb3 (Qad (Qaa (i:=5) rfl) (Qad (Qaa (i:=7) rfl) (Qad (Qaa (i:=8) rfl) Qag))) (by show 3≤1000;decide)))
 rw[e]
 unfold J.fin
 dsimp only
 have u1:unr (h++[.lst ((Qba he nm D sc xs).map pzW)]) h.length (.ref h.length)=some (.lst ((Qba he nm D sc xs).map pzW)):=by
  rw[unr,if_neg (Nat.lt_irrefl _),Qa8]
 have u2:unr (h++[.lst ((Qba he nm D sc xs).map pzW)]) h.length (.lst [nat sc,nat (QcB nm D sc xs 0),.ref h.length])=some (.lst [nat sc,nat (QcB nm D sc xs 0),.lst ((Qba he nm D sc xs).map pzW)]):=by
  rw[unr,QcU,Qbu (nat sc) rfl,QcU,Qbu (nat (QcB nm D sc xs 0)) rfl,QcU,u1,QcU]
  rfl
 rw[u2]
 dsimp only
 rw[List.take_left]
theorem QjG {fw:Nat}{tb:List Fn}{f:Nat} (hg:tb[f]?=some ⟨2,4,QmL,none⟩) (d a b:Nat) (h:Qac) (hb:b<fw) (h0:0<b) (hz:b<2 ^ 9000):Qae fw tb (d+1) f [nat a,nat b] h=.ok (shp (low a b)) h:=by
 rw[Qak hg rfl]
 have gp:0<Nat.gcd a b:=Nat.gcd_pos_of_pos_right a h0
 have g9:Nat.gcd a b<2 ^ 9000:=Nat.lt_of_le_of_lt (Nat.gcd_le_right a h0) hz
 show J.fin h.length (exB (Qae fw tb d) fw QmL [some (nat a),some (nat b),none,none] h)=_
 have e:exB (Qae fw tb d) fw QmL [some (nat a),some (nat b),none,none] h=.ok (.ret (shp (low a b))) h:=by
  refine(Qab (σ':=[some (nat a),some (nat b),some (nat a),some (nat b)]) (h':=h) ?_).trans ?_
  ·rw[exS,Qaa (i:=0) (w:=nat a) rfl,bnd_ok,Qaa (i:=1) (w:=nat b) rfl,bnd_ok]
   rfl
  refine(Qab (σ':=[some (nat a),some (nat b),some (nat (Nat.gcd a b)),some (nat 0)]) (h':=h) ?_).trans ?_
  ·rw[exS]
   exact QeL (Qae fw tb d) fw h _ _ fw a b hb
  exact Qal (Qa2 (QaI (QaL (QaN (Qaa (i:=0) rfl) (Qaa (i:=2) rfl) gp g9) (QaN (Qaa (i:=1) rfl) (Qaa (i:=2) rfl) gp g9)) (by show 2≤1000;decide)))
 rw[e]
 exact Qbz (Qdj _ _)
noncomputable abbrev En:=Nat×Nat×List Str
noncomputable def enW (e:En):W:=.tup [sh e.1 e.2.1,QaE e.2.2]
noncomputable def unP:W→Option (Nat×Nat)
 |.tup [x,y]=>(Qh5 x).bind fun p=>(Qh5 y).map fun q=>(p.toNat,q.toNat)
 |_=>none
noncomputable def unE:W→Option En
 |.tup [a,b]=>(unP a).bind fun pq=>(unT b).map fun H=>(pq.1,pq.2,H)
 |_=>none
theorem unE_W (e:En):unE (enW e)=some e:=by
 obtain⟨p,q,H⟩:=e
 show (some (((p:Nat):Int).toNat,((q:Nat):Int).toNat)).bind (fun pq=>(unT (QaE H)).map fun H=>(pq.1,pq.2,H))=_
 rw[Option.bind_some,Qen,Int.toNat_natCast,Int.toNat_natCast]
 rfl
noncomputable abbrev QgM (tt pc:Nat):List S:=[.ret (.call tt [(.compS [2] 1 (.var 0) [(.cmp .In (.var 1) (.ix (.var 2) (.con (.int 1))))] (.call pc [(.ix (.var 2) (.con (.int 0))),(.con (.int 1)),(.blt .len [(.ix (.var 2) (.con (.int 1)))])]))])]
noncomputable def QhC (nm:Str) (es:List En):List (Nat×Nat):=(es.filter fun e=>Qa6 nm e.2.2).map fun e=>low (e.1*1) (e.2.1*e.2.2.length)
theorem QhT {tb:List Fn}{f tt pc l p g:Nat} (hf:tb[f]?=some ⟨2,2,QgM tt pc,none⟩) (htt:tb[tt]?=some ⟨1,3,Qfh l p,none⟩) (hpc:tb[pc]?=some ⟨3,3,QgI l,none⟩) (hl:tb[l]?=some ⟨2,3,bLow g,none⟩) (hp:tb[p]?=some ⟨2,5,QhL g,none⟩) (hg:tb[g]?=some ⟨2,3,QjM,none⟩) (d:Nat) (es:List En) (nm:Str) (h:Qac)
  (he:∀ e∈es,0<e.2.1∧e.1<2 ^ 10∧1≤e.2.2.length∧e.2.1*e.2.2.length<2 ^ 10) (hn:es.length≤60):Qae FW tb (d+4) f [.lst (es.map enW),.str nm] h=.ok (shp (QaR (QhC nm es) (0,1))) h:=by
 rw[Qak hf rfl]
 have c1:=fun (e:En) (m:e∈es) (hh:Qac)=>Qjy (fw:=FW) hpc hl hg d e.1 e.2.1 1 e.2.2.length hh (Qbq (a:=10) (b:=10) (he e m).2.1 (by decide) (by decide)) (Qbq (a:=10) (b:=10) (Nat.lt_of_le_of_lt (Nat.le_mul_of_pos_right _ (he e m).2.2.1) (he e m).2.2.2) (Nat.lt_of_le_of_lt (Nat.le_mul_of_pos_left _ (he e m).1) (he e m).2.2.2) (by decide)) (he e m).1 (he e m).2.2.1 (Qbi (he e m).2.2.2 (by decide)) (QfC (Qbi (he e m).2.2.2 (by decide)))
 have c2:=Qid (f:=tt) htt hl hp hg d (QhC nm es) h (.lst ((QhC nm es).map shp)) (.inl rfl) (fun s hs=>by
  obtain⟨e,m,rfl⟩:=List.mem_map.mp hs
  obtain⟨h1,h2,h3,h4⟩:=he e (List.mem_filter.mp m).1
  obtain⟨s1,s2,s3,s4,s5⟩:=QbD (e.1*1) (e.2.1*e.2.2.length) (Nat.mul_pos h1 h3)
  exact⟨s1,Nat.lt_of_le_of_lt s5 (by rw[Nat.mul_one];exact h2),Nat.lt_of_le_of_lt s4 h4⟩) (by
  unfold QhC
  rw[List.length_map]
  exact Nat.le_trans (List.length_filter_le _ _) (by omega))
 generalize Qae FW tb (d+3)=cf at *
 show J.fin h.length (exB cf FW (QgM tt pc) [some (.lst (es.map enW)),some (.str nm)] h)=_
 have cp:evE cf (.compS [2] 1 (.var 0) [(.cmp .In (.var 1) (.ix (.var 2) (.con (.int 1))))] (.call pc [(.ix (.var 2) (.con (.int 0))),(.con (.int 1)),(.blt .len [(.ix (.var 2) (.con (.int 1)))])])) [some (.lst (es.map enW)),some (.str nm)] h=.ok (.lst ((QhC nm es).map shp)) h:=by
  refine(QgQ (xs:=es) (v:=enW) (p:=fun e=>Qa6 nm e.2.2) (F:=fun e=>shp (low (e.1*1) (e.2.1*e.2.2.length))) unE unE_W (Qaa (i:=0) rfl) rfl (fun k e=>by cases e) (by omega) fun e m=>?_).trans ?_
  ·refine⟨[some (.lst (es.map enW)),some (.str nm),some (enW e)],rfl,fun hh=>?_,fun _=>⟨rfl,fun hh=>?_⟩⟩
   ·exact QdT (Qaa (i:=1) rfl) (QaS (Qaa (i:=2) rfl) Qaj (Qf4 (k:=1) (t:=enW e) (w:=QaE e.2.2) rfl rfl)) rfl rfl
   ·exact QaF (Qad (QaS (Qaa (i:=2) rfl) Qaj (Qf4 (k:=0) (t:=enW e) (w:=sh e.1 e.2.1) rfl rfl)) (Qad Qaj (Qad ((Qbs (QaS (Qaa (i:=2) rfl) Qaj (Qf4 (k:=1) (t:=enW e) (w:=QaE e.2.2) rfl rfl)) rfl).trans (by rw[List.length_map])) Qag))) (c1 e m hh)
  ·unfold QhC
   rw[List.map_map]
   rfl
 have e:exB cf FW (QgM tt pc) [some (.lst (es.map enW)),some (.str nm)] h=.ok (.ret (shp (QaR (QhC nm es) (0,1)))) h:=Qal (Qa2 (Qg6 cp c2))
 rw[e]
 exact Qbz (Qdj _ _)
noncomputable def unL:W→Option (List W)
 |.tup ws=>some ws
 |_=>none
noncomputable def unPt:W→Option Pt
 |.tup [a,b,c]=>(unP a).bind fun pq=>(unT b).bind fun H=>(unL c).map fun tr=>⟨pq.1,pq.2,H,tr⟩
 |_=>none
theorem unPt_W (x:Pt):unPt (ptW x)=some x:=by
 obtain⟨p,q,H,tr⟩:=x
 show (some (((p:Nat):Int).toNat,((q:Nat):Int).toNat)).bind (fun pq=>(unT (QaE H)).bind fun H=>(some tr).map fun tr=>(⟨pq.1,pq.2,H,tr⟩:Pt))=_
 rw[Option.bind_some,Qen,Int.toNat_natCast,Int.toNat_natCast]
 rfl
noncomputable abbrev Qns (hr ca fo st af : Nat) : List S := [.asg 7 (.bin .Add (.blt .list [(.var 4)]) (.blt .list [(.var 2)])),
 .asg 8 (.compS [9] 1 (.var 2) [(.cmp .Eq (.call hr [(.var 9),(.var 3),(.var 7)]) (.var 1))] (.var 9)),
 .asg 5 (.compS [9] 1 (.var 0) [(.call ca [(.ix (.var 9) (.con (.int 1))),(.var 2),(.var 8)])] (.ix (.var 9) (.con (.int 1)))),
 .asg 6 (.call fo [(.var 2),(.var 5),(.var 8)]),
 .ret (.tup [(.var 6), (.call st [(.call af [(.var 0), (.var 6), (.var 3), (.var 4)]), (.var 1)])])]
noncomputable def frM (nx:Str→Option Str) (G:List Str) (nm:Str) (D:List Str):List Str:=D.filter fun s=>decide (Qbe nx (fun y=>Qa6 y G) s 31 s=nm)
noncomputable def Qi1 (xs:List Pt) (D F:List Str):List (List Str):=(xs.filter fun x=>Qnu x.hs D F).map fun x=>x.hs
theorem canF_iff {H D F:List Str}:Qnu H D F=true↔(∀ s∈H,s∈D)∧∃ s∈H,s∈F:=by
 unfold Qnu anyF
 rw[Bool.and_eq_true,List.all_eq_true,List.any_eq_true]
 constructor
 ·rintro ⟨a,b,hb,hb2⟩
  obtain⟨s,m,rfl⟩:=List.mem_map.mp hb
  refine⟨fun s m=>?_,s,m,?_⟩
  ·have:=a _ (List.mem_map.mpr ⟨s,m,rfl⟩)
   simpa [Qao] using this
  ·simpa [Qao] using hb2
 ·rintro ⟨a,s,m,k⟩
  refine⟨fun b hb=>?_,_,List.mem_map.mpr ⟨s,m,rfl⟩,by simpa [Qao] using k⟩
  obtain⟨u,mu,rfl⟩:=List.mem_map.mp hb
  simpa [Qao] using a u mu
theorem Qhu {xs:List Pt}{D F S:List Str} (hF:∀ s∈F,s∈S):okW (Qi1 xs D F) F S=true:=okW_iff.mpr fun H hH _=>by
 obtain⟨x,m,rfl⟩:=List.mem_map.mp hH
 obtain⟨_,s,h1,h2⟩:=canF_iff.mp (List.mem_filter.mp m).2
 exact⟨s,h1,hF s h2,h2⟩
noncomputable def QdC (nx:Str→Option Str) (xs:List Pt) (nm:Str) (D dn:List Str):List Str :=
 Qch (okW (Qi1 xs D (frM nx (dn++D) nm D)) (frM nx (dn++D) nm D)) (srt D) D.length
noncomputable def QiC (nx:Str→Option Str) (xs:List Pt) (o dn:List Str):List En:=xs.map fun x=>(x.p,x.q,Qc3 nx o dn x.hs)
theorem Qlg {tb:List Fn}{f hr ca fo st af hs lo no wi ha tt pc l p g:Nat} (hf:tb[f]?=some ⟨5,9,Qns hr ca fo st af,none⟩) (hhr:tb[hr]?=some ⟨3,5,Qfw,none⟩) (hca:tb[ca]?=some ⟨3,3,bCan hs,none⟩) (hhs:tb[hs]?=some ⟨2,2,Qls,none⟩) (hfo:tb[fo]?=some ⟨3,6,Qek wi no,none⟩) (hno:tb[no]?=some ⟨4,5,Qjb wi lo,none⟩) (hwi:tb[wi]?=some ⟨2,2,Qbv,none⟩) (hlo:tb[lo]?=some ⟨3,4,Qh0 hs,none⟩)
  (hst:tb[st]?=some ⟨2,2,QgM tt pc,none⟩) (htt:tb[tt]?=some ⟨1,3,Qfh l p,none⟩) (hpc:tb[pc]?=some ⟨3,3,QgI l,none⟩) (hll:tb[l]?=some ⟨2,3,bLow g,none⟩) (hpp:tb[p]?=some ⟨2,5,QhL g,none⟩) (hgg:tb[g]?=some ⟨2,3,QjM,none⟩) (haf:tb[af]?=some ⟨4,8,QgF hr ha,none⟩) (hha:tb[ha]?=some ⟨3,3,Qdl wi,none⟩)
  (d:Nat) (t:W) (xs:List Pt) (nm:Str) (D ks vs dn P:List Str) (h:Qac) (ht:Seq t (D.map W.str)) (nd:D.Nodup) (hD:D.length≤6) (hDP:∀ s∈D,s∈P) (hP:P.length≤30) (hv:∀ y∈vs,y∈P) (hkl:ks.length=vs.length) (hx:∀ x∈xs,x.Ok) (hxl:xs.length≤60) (hdl:dn.length≤100)
  (he:∀ e∈QiC (nxS ks vs) xs (QdC (nxS ks vs) xs nm D dn) dn,0<e.2.1∧e.1<2 ^ 10∧1≤e.2.2.length∧e.2.1*e.2.2.length<2 ^ 10) :
  Qae FW tb (d+5) f [.lst (xs.map ptW),.str nm,t,.dic ks (vs.map W.str),.lst (dn.map W.str)] h=.ok (.tup [QaE (QdC (nxS ks vs) xs nm D dn),shp (QaR (QhC nm (QiC (nxS ks vs) xs (QdC (nxS ks vs) xs nm D dn) dn)) (0,1))]) h:=by
 rw[Qak hf rfl]
 let nx:=nxS ks vs
 let G:List Str:=dn++D
 let F:List Str:=frM nx G nm D
 let won:List (List Str):=Qi1 xs D F
 let o:List Str:=QdC nx xs nm D dn
 have Fs:∀ s∈F,s∈srt D:=fun s m=>srt_mem.mpr (List.mem_filter.mp m).1
 have f31:31≤FW:=Nat.le_of_lt (QfC (Qbi (a:=5) (by decide) (by decide)))
 have f31':31<FW:=QfC (Qbi (a:=5) (by decide) (by decide))
 have wl:won.length≤1000:=by
  show (Qi1 xs D F).length≤1000
  unfold Qi1
  rw[List.length_map]
  exact Nat.le_trans (List.length_filter_le _ _) (by omega)
 have wH:∀ H∈won,H.length≤1000:=fun H hH=>by
  obtain⟨x,m,rfl⟩:=List.mem_map.mp hH
  have:=(hx x (List.mem_filter.mp m).1).h1
  omega
 have Dn:(srt D).Nodup:=(Qa9 D).nodup_iff.mpr nd
 have ok0:okW won F (srt D)=true:=Qhu Fs
 have om:=Qb9 (QeE (won:=won) (F:=F) Dn ok0 (k:=D.length) (by rw[QaO];exact Nat.le_refl _))
 have oP:∀ s∈o,s∈P:=fun s m=>hDP s (srt_mem.mp (om.2.1 s m))
 have c1:=fun (s:Str) (hs:s∈P) (hh:Qac)=>QgX (fw:=FW) hhr (d+3) s ks vs G P hh (.lst (G.map W.str)) (fun o=>⟨rfl,rfl⟩) hP hs hv hkl f31
 have c2:=fun (x:Pt) (hx':x.hs.length≤1000) (hh:Qac)=>QlW (fw:=FW) hca hhs (d+2) (QaE x.hs) t (.lst (F.map W.str)) x.hs D F hh (.inr rfl) ht (.inl rfl) hx'
 have c3:=QhD (fw:=FW) hfo hno hwi hlo hhs d t D F won h ht nd (by omega) f31' wl wH ok0
 have c4:=Qix (fw:=FW) haf hhr hha hwi (d+1) (.lst (xs.map ptW)) (QaE o) xs o ks vs dn P h (.inl rfl) (.inr rfl) hP oP hv hkl f31 hx (by omega) (by omega) (by rw[show o.length=D.length from om.2.2];omega)
 have c5:=QhT hst htt hpc hll hpp hgg d (QiC nx xs o dn) nm h he (by unfold QiC;rw[List.length_map];exact hxl)
 rw[show (QiC nx xs o dn).map enW=xs.map fun x=>W.tup [sh x.p x.q,hdW (Qc3 (nxS ks vs) o dn x.hs)] by unfold QiC;rw[List.map_map];rfl]at c5
 generalize Qae FW tb (d+4)=cf at *
 let σ (a5 a6 a7 a8:Option W):Qai:=[some (.lst (xs.map ptW)),some (.str nm),some t,some (.dic ks (vs.map W.str)),some (.lst (dn.map W.str)),a5,a6,a7,a8]
 show J.fin h.length (exB cf FW (Qns hr ca fo st af) (σ none none none none) h)=_
 have e:exB cf FW (Qns hr ca fo st af) (σ none none none none) h=.ok (.ret (.tup [QaE o,shp (QaR (QhC nm (QiC nx xs o dn)) (0,1))])) h:=by
  refine(Qab (σ':=σ none none (some (.lst (G.map W.str))) none) (h':=h) (Qaf ((Qe3 (Qdf (Qaa (i:=4) rfl)) (QgB (Qaa (i:=2) rfl) ht) (by rw[List.length_map,List.length_map];omega)).trans (by rw[← List.map_append])))).trans ?_
  refine(Qab (σ':=σ none none (some (.lst (G.map W.str))) (some (.lst (F.map W.str)))) (h':=h) (Qaf (QbI (i:=9) (n:=1) (ss:=D) (p:=fun s=>decide (Qbe nx (fun y=>Qa6 y G) s 31 s=nm)) (Qaa (i:=2) rfl) (ht.seqA h) (by omega) (fun s m hh=>Qa5 (Qll (QaF (Qad (Qaa (i:=9) rfl) (Qad (Qaa (i:=3) rfl) (Qad (Qaa (i:=7) rfl) Qag))) (c1 s (hDP s m) hh)) (Qaa (i:=1) rfl))) (by show 9<9+1;decide)))).trans ?_
  refine(Qab (σ':=σ (some (.lst (won.map QaE))) none (some (.lst (G.map W.str))) (some (.lst (F.map W.str)))) (h':=h) (Qaf ?_)).trans ?_
  ·refine(QgQ (xs:=xs) (v:=ptW) (p:=fun x=>Qnu x.hs D F) (F:=fun x=>QaE x.hs) unPt unPt_W (Qaa (i:=0) rfl) rfl (fun k e=>by cases e) (by omega) fun x m=>?_).trans ?_
   ·refine⟨σ none none (some (.lst (G.map W.str))) (some (.lst (F.map W.str)))++[some (ptW x)],rfl,fun hh=>?_,fun _=>⟨by rw[Qan];exact Qaz _,fun hh=>Qnj (x:=x) (Qaa (i:=9) rfl)⟩⟩
    exact Qa5 (QaF (Qad (Qnj (x:=x) (Qaa (i:=9) rfl)) (Qad (Qaa (i:=2) rfl) (Qad (Qaa (i:=8) rfl) Qag))) (c2 x (by have:=(hx x m).h1;omega) hh))
   ·show Res.ok (W.lst _) h=Res.ok (W.lst ((Qi1 xs D F).map QaE)) h
    unfold Qi1
    rw[List.map_map]
    rfl
  refine(Qab (σ':=σ (some (.lst (won.map QaE))) (some (QaE o)) (some (.lst (G.map W.str))) (some (.lst (F.map W.str)))) (h':=h) (Qaf (QaF (Qad (Qaa (i:=2) rfl) (Qad (Qaa (i:=5) rfl) (Qad (Qaa (i:=8) rfl) Qag))) c3))).trans ?_
  refine Qal (Qa2 (QaI (QaL (Qaa (i:=6) rfl) (Qaq (QaF (Qad (Qaa (i:=0) rfl) (Qad (Qaa (i:=6) rfl) (Qad (Qaa (i:=3) rfl) (Qad (Qaa (i:=4) rfl) Qag)))) c4) (Qaa (i:=1) rfl) c5)) (by show 2≤1000;decide)))
 rw[e]
 exact Qbz (by rw[Qam,Qam,Qan,Qaz];rfl)
noncomputable def mxM:List Pz→Nat
 |[]=>0
 |z::zs=>(if z.wins=[] then 0 else z.w)+mxM zs
theorem QdW (o:List Str):∀ (zs:List Pz) (s:Nat),(∀ z∈zs,0<z.w)→QaV o zs s≤s+mxM zs∧(QaV o zs s=s+mxM zs↔∀ z∈zs,z.wins≠[]→Qc6 o z.hs (z.hs.getD 0 "")∈z.wins)
 |[],s,_=>⟨Nat.le_refl _,⟨fun _ z hz=>(by cases hz),fun _=>rfl⟩⟩
 |z::zs,s,h=>by
  have wp:=h z List.mem_cons_self
  obtain⟨a,b⟩:=QdW o zs (if Qa6 (Qc6 o z.hs (z.hs.getD 0 "")) z.wins=true then s+z.w else s) (fun z hz=>h z (List.mem_cons_of_mem _ hz))
  rw[QaV,mxM]
  by_cases q:Qa6 (Qc6 o z.hs (z.hs.getD 0 "")) z.wins=true
  ·have m:Qc6 o z.hs (z.hs.getD 0 "")∈z.wins:=by rw[Qao,decide_eq_true_eq]at q;exact q
   have ne:z.wins≠[]:=List.ne_nil_of_mem m
   rw[if_pos q]at a b ⊢
   rw[if_neg ne]
   refine⟨by omega,fun e y hy=>?_,fun e=>?_⟩
   ·rcases List.mem_cons.mp hy with rfl | hy
    ·exact fun _=>m
    ·exact b.mp (by omega) y hy
   ·have:=b.mpr fun y hy=>e y (List.mem_cons_of_mem _ hy)
    omega
  ·have m:Qc6 o z.hs (z.hs.getD 0 "")∉z.wins:=by rw[Qao,decide_eq_true_eq]at q;exact q
   rw[if_neg q]at a b ⊢
   by_cases ne:z.wins=[]
   ·rw[if_pos ne]
    refine⟨by omega,fun e y hy=>?_,fun e=>?_⟩
    ·rcases List.mem_cons.mp hy with rfl | hy
     ·exact fun z=>absurd ne z
     ·exact b.mp (by omega) y hy
    ·have:=b.mpr fun y hy=>e y (List.mem_cons_of_mem _ hy)
     omega
   ·rw[if_neg ne]
    refine⟨by omega,fun e=>?_,fun e=>absurd (e z List.mem_cons_self ne) m⟩
    omega
theorem Qeq {D o:List Str} (nd:D.Nodup) (h:o∈Qcg D D.length):o.Nodup∧∀ x,x∈o↔x∈D:=by
 obtain⟨a,b,c⟩:=Qb9 h
 have e:=QgP a b (by omega) nd
 refine⟨a,fun x=>⟨b x,fun hx=>Classical.byContradiction fun z=>?_⟩⟩
 have:=mem_remO.mpr ⟨hx,z⟩
 rw[e]at this
 cases this
theorem left_nil {H D:List Str}:Qa0 H D=[]↔∀ s∈H,s∈D:=by
 unfold Qa0
 rw[List.filter_eq_nil_iff]
 constructor<;>intro h s hs
 ·have:=h s hs
  simpa [Qao] using this
 ·simpa [Qao] using h s hs
theorem Qhc {nx:Str→Option Str}{xs:List Pt}{nm:Str}{D dn:List Str}{sc:Nat}{o:List Str} (nd:D.Nodup) (hx:∀ x∈xs,1≤x.hs.length) (ho:o∈Qcg (srt D) D.length) :
  QdK (okW (Qi1 xs D (frM nx (dn++D) nm D)) (frM nx (dn++D) nm D)) (srt D) o=true↔∀ z∈Qba (fun s=>Qbe nx (fun y=>Qa6 y (dn++D)) s 31 s) nm D sc xs,z.wins≠[]→Qc6 o z.hs (z.hs.getD 0 "")∈z.wins:=by
 let he:Str→Str:=fun s=>Qbe nx (fun y=>Qa6 y (dn++D)) s 31 s
 let F:=frM nx (dn++D) nm D
 have Dn:(srt D).Nodup:=(Qa9 D).nodup_iff.mpr nd
 obtain⟨o1,o2⟩:=Qeq Dn (by rw[QaO];exact ho)
 have inF:∀ s,s∈F↔s∈D∧he s=nm:=fun s=>by
  show s∈D.filter _↔_
  rw[List.mem_filter,decide_eq_true_eq]
 rw[Qm5 o1 o2 (fun H hH=>by
  obtain⟨x,m,rfl⟩:=List.mem_map.mp hH
  obtain⟨a,s,b,_⟩:=canF_iff.mp (List.mem_filter.mp m).2
  exact⟨⟨s,b⟩,fun y hy=>srt_mem.mpr (a y hy)⟩)]
 have l0:∀ x∈xs,x.hs.getD 0 ""∈x.hs:=fun x m=>by
  rw[List.getD_eq_getElem?_getD,List.getElem?_eq_getElem (show 0<x.hs.length from hx x m)]
  exact List.getElem_mem _
 constructor
 ·intro h z hz ne
  obtain⟨x,m,rfl⟩:=List.mem_map.mp hz
  obtain⟨mx,ml⟩:=List.mem_filter.mp m
  have sub:=left_nil.mp (of_decide_eq_true ml)
  obtain⟨s,hs⟩:=List.exists_mem_of_ne_nil _ ne
  obtain⟨s1,s2⟩:=List.mem_filter.mp hs
  have can:Qnu x.hs D F=true:=canF_iff.mpr ⟨sub,s,s1,(inF s).mpr ⟨sub s s1,of_decide_eq_true s2⟩⟩
  obtain⟨y,e,yF⟩:=h x.hs (List.mem_map.mpr ⟨x,List.mem_filter.mpr ⟨mx,can⟩,rfl⟩)
  rw[Qd3 o1 (fun w hw=>(o2 w).mpr (srt_mem.mpr (sub w hw))) (l0 x mx)]at e
  cases e
  have tm:Qc6 o x.hs (x.hs.getD 0 "")∈x.hs:=by
   rcases (Qcq o x.hs (x.hs.getD 0 "")).1 with q | q
   ·rw[q];exact l0 x mx
   ·exact q
  exact List.mem_filter.mpr ⟨tm,decide_eq_true ((inF _).mp yF).2⟩
 ·intro h H hH
  obtain⟨x,m,rfl⟩:=List.mem_map.mp hH
  obtain⟨mx,mc⟩:=List.mem_filter.mp m
  obtain⟨sub,s,s1,s2⟩:=canF_iff.mp mc
  have zm:(⟨QfM sc x,x.hs,x.hs.filter fun s=>decide (he s=nm)⟩:Pz)∈Qba he nm D sc xs:=List.mem_map.mpr ⟨x,List.mem_filter.mpr ⟨mx,decide_eq_true (left_nil.mpr sub)⟩,rfl⟩
  have t:=h _ zm (List.ne_nil_of_mem (List.mem_filter.mpr ⟨s1,decide_eq_true ((inF s).mp s2).2⟩))
  obtain⟨t1,t2⟩:=List.mem_filter.mp t
  exact⟨_,Qd3 o1 (fun w hw=>(o2 w).mpr (srt_mem.mpr (sub w hw))) (l0 x mx),(inF _).mpr ⟨sub _ t1,of_decide_eq_true t2⟩⟩
theorem Qji {nx:Str→Option Str}{xs:List Pt}{nm:Str}{D dn:List Str}{sc sure:Nat}{zs:List Pz} (ez:zs=Qba (fun s=>Qbe nx (fun y=>Qa6 y (dn++D)) s 31 s) nm D sc xs) (nd:D.Nodup) (hx:∀ x∈xs,1≤x.hs.length) (hv:∀ x∈xs,0<QfM sc x) :
  QdA (fun o=>(QaV o zs sure:Int)) (Qcg (srt D) D.length) (-1,[])=(((sure+mxM zs:Nat):Int),QdC nx xs nm D dn):=by
 have Dn:(srt D).Nodup:=(Qa9 D).nodup_iff.mpr nd
 have zp:∀ z∈zs,0<z.w:=fun z hz=>by
  subst ez
  obtain⟨x,m,rfl⟩:=List.mem_map.mp hz
  exact hv x (List.mem_filter.mp m).1
 refine Qdk (p:=QdK (okW (Qi1 xs D (frM nx (dn++D) nm D)) (frM nx (dn++D) nm D)) (srt D)) (fun o ho=>?_) (by show (-1:Int)<_;omega) ?_
 ·obtain⟨a,b⟩:=QdW o zs sure zp
  have q:QaV o zs sure=sure+mxM zs↔QdK (okW (Qi1 xs D (frM nx (dn++D) nm D)) (frM nx (dn++D) nm D)) (srt D) o=true:=by
   rw[b,Qhc (sc:=sc) nd hx ho,ez]
  refine⟨by omega,?_⟩
  rw[← q]
  omega
 ·exact(Qcx Dn (Qhu fun s m=>srt_mem.mpr (List.mem_filter.mp m).1) D.length (by rw[QaO];exact Nat.le_refl _)).1
theorem Qd6:∀ (xs:List Pt) (n:Nat),QaC xs n=n*QaC xs 1
 |[],n=>by rw[QaC,QaC,Nat.mul_one]
 |x::xs,n=>by rw[QaC,QaC,Qd6 xs (n*x.q),Qd6 xs (1*x.q),Nat.one_mul,Nat.mul_assoc]
theorem Qey:∀ (xs:List Pt) (n:Nat) (x:Pt),x∈xs→∃ m,QaC xs n=x.q*(n*m)
 |[],n,x,h=>by cases h
 |y::xs,n,x,h=>by
  rw[QaC]
  rcases List.mem_cons.mp h with rfl | h
  ·exact⟨QaC xs 1,by rw[Qd6,Nat.mul_comm n x.q,Nat.mul_assoc]⟩
  ·obtain⟨m,e⟩:=Qey xs (n*y.q) x h
   exact⟨y.q*m,by rw[e,Nat.mul_assoc n]⟩
theorem dvd60 {L:Nat} (h1:1≤L) (h6:L≤6):∃ k,60=L*k:=by
 match L,h1,h6 with
 |1,_,_=>exact⟨60,rfl⟩
 |2,_,_=>exact⟨30,rfl⟩
 |3,_,_=>exact⟨20,rfl⟩
 |4,_,_=>exact⟨15,rfl⟩
 |5,_,_=>exact⟨12,rfl⟩
 |6,_,_=>exact⟨10,rfl⟩
theorem Qkk {xs:List Pt}{x:Pt} (hx:x∈xs) (q0:0<x.q) {L:Nat} (h1:1≤L) (h6:L≤6):x.p*QaC xs 60=QfM (QaC xs 60) x / L*(x.q*L):=by
 obtain⟨m,e⟩:=Qey xs 60 x hx
 obtain⟨k,ek⟩:=dvd60 h1 h6
 have e1:QfM (QaC xs 60) x=L*(x.p*(k*m)):=by
  unfold QfM
  rw[e,Nat.mul_div_cancel_left _ q0,ek]
  simp only[Nat.mul_assoc,Nat.mul_left_comm]
 rw[e1,Nat.mul_div_cancel_left _ (by omega),e,ek]
 simp only[Nat.mul_assoc,Nat.mul_left_comm,Nat.mul_comm]
theorem Qic {sc:Nat}:∀ (ss:List (Nat×Nat)) (ns:List Nat) (u:Nat×Nat) (k:Nat),ss.length=ns.length→(∀ i (h:i<ss.length) (h':i<ns.length),ss[i].1*sc=ns[i]*ss[i].2)→u.1*sc=k*u.2→(Qkj ss u).1*sc=(k+ns.sum)*(Qkj ss u).2
 |[],[],u,k,_,_,h=>by simpa [Qkj] using h
 |s::ss,n::ns,u,k,hl,hs,h=>by
  have h0:=hs 0 (by simp) (by simp)
  have h0':s.1*sc=n*s.2:=h0
  have:=Qic ss ns (u.1*s.2+s.1*u.2,u.2*s.2) (k+n) (by simpa using hl) (fun i h h'=>by
   have:=hs (i+1) (by simpa using h) (by simpa using h')
   simpa using this) (by
   show (u.1*s.2+s.1*u.2)*sc=(k+n)*(u.2*s.2)
   rw[Nat.add_mul,Nat.add_mul,Nat.mul_right_comm u.1,h,Nat.mul_right_comm s.1,h0']
   simp only[Nat.mul_assoc,Nat.mul_comm,Nat.mul_left_comm])
  rw[List.sum_cons,← Nat.add_assoc]
  exact this
theorem QjQ {a b N sc:Nat} (hb:0<b) (hc:Nat.gcd a b=1) (hs:0<sc) (e:a*sc=N*b):(a,b)=low N sc:=by
 obtain⟨l0,l1,l2,_,_⟩:=QbD N sc hs
 have x:a*(low N sc).2=(low N sc).1*b:=by
  refine Nat.eq_of_mul_eq_mul_right hs ?_
  rw[Nat.mul_right_comm,e,Nat.mul_right_comm (low N sc).1,l2]
  simp only[Nat.mul_assoc,Nat.mul_comm]
 have d1:b ∣ (low N sc).2:=(Nat.Coprime.symm hc).dvd_of_dvd_mul_left ⟨(low N sc).1,by rw[x,Nat.mul_comm]⟩
 have d2:(low N sc).2 ∣ b:=(Nat.Coprime.symm l1).dvd_of_dvd_mul_left ⟨a,by rw[← x,Nat.mul_comm]⟩
 have eb:b=(low N sc).2:=Nat.dvd_antisymm d1 d2
 have ea:a=(low N sc).1:=by
  rw[← eb]at x
  exact Nat.eq_of_mul_eq_mul_right hb x
 rw[ea,eb]
theorem Qi8 {ss:List (Nat×Nat)}{ns:List Nat}{sc:Nat} (hs:∀ s∈ss,0<s.2) (h0:0<sc) (hl:ss.length=ns.length) (hv:∀ i (h:i<ss.length) (h':i<ns.length),ss[i].1*sc=ns[i]*ss[i].2):QaR ss (0,1)=low ns.sum sc:=by
 obtain⟨t0,tc,te,_,_⟩:=QeZ ss (0,1) (0,1) hs (by decide) (by decide) (by decide) rfl (Nat.le_refl _) (Nat.le_refl _)
 have v:=Qic ss ns (0,1) 0 hl hv (by simp)
 rw[Nat.zero_add]at v
 have bpos:0<(Qkj ss (0,1)).2:=by
  have:∀ (ss:List (Nat×Nat)) (u:Nat×Nat),(∀ s∈ss,0<s.2)→0<u.2→0<(Qkj ss u).2:=fun ss=>by
   induction ss with
   |nil=>intro u _ h;exact h
   |cons s ss ih=>intro u h hu;exact ih _ (fun s hs=>h s (List.mem_cons_of_mem _ hs)) (Nat.mul_pos hu (h s List.mem_cons_self))
  exact this ss (0,1) hs (by decide)
 have key:(QaR ss (0,1)).1*sc=ns.sum*(QaR ss (0,1)).2:=by
  refine Nat.eq_of_mul_eq_mul_right bpos ?_
  rw[Nat.mul_right_comm,te,Nat.mul_right_comm,v]
  simp only[Nat.mul_assoc,Nat.mul_comm,Nat.mul_left_comm]
 exact QjQ t0 tc h0 key
noncomputable def brM (he:Str→Str) (nm:Str) (D:List Str) (sc:Nat) (x:Pt):Nat :=
 if Qa6 nm (Qa0 x.hs D)=true then QfM sc x / (Qa0 x.hs D).length else if Qa0 x.hs D=[]∧(x.hs.filter fun s=>decide (he s=nm))≠[] then QfM sc x else 0
theorem Qly (he:Str→Str) (nm:Str) (D:List Str) (sc:Nat):∀ (xs:List Pt) (s:Nat),QcB nm D sc xs s+mxM (Qba he nm D sc xs)=s+(xs.map (brM he nm D sc)).sum
 |[],s=>rfl
 |x::xs,s=>by
  have ih:=fun s=>Qly he nm D sc xs s
  rw[QcB,List.map_cons,List.sum_cons]
  by_cases q:Qa6 nm (Qa0 x.hs D)=true
  ·have ne:Qa0 x.hs D≠[]:=fun z=>by rw[z]at q;cases q
   have e1:Qba he nm D sc (x::xs)=Qba he nm D sc xs:=by unfold Qba;rw[List.filter_cons_of_neg (by simpa using ne)]
   have e2:brM he nm D sc x=QfM sc x / (Qa0 x.hs D).length:=if_pos q
   rw[if_pos q,e1,e2,ih]
   omega
  ·by_cases z:Qa0 x.hs D=[]
   ·have e1:Qba he nm D sc (x::xs)=⟨QfM sc x,x.hs,x.hs.filter fun s=>decide (he s=nm)⟩::Qba he nm D sc xs:=by unfold Qba;rw[List.filter_cons_of_pos (by simpa using z)];rfl
    rw[if_neg q,e1,mxM]
    have:=ih s
    by_cases w:(x.hs.filter fun s=>decide (he s=nm))=[]
    ·have e2:brM he nm D sc x=0:=by unfold brM;rw[if_neg q,if_neg (fun y=>y.2 w)]
     rw[if_pos w,e2]
     omega
    ·have e2:brM he nm D sc x=QfM sc x:=by unfold brM;rw[if_neg q,if_pos ⟨z,w⟩]
     rw[if_neg w,e2]
     show QcB nm D sc xs s+(QfM sc x+_)=_
     omega
   ·have e1:Qba he nm D sc (x::xs)=Qba he nm D sc xs:=by unfold Qba;rw[List.filter_cons_of_neg (by simpa using z)]
    have e2:brM he nm D sc x=0:=by unfold brM;rw[if_neg q,if_neg (fun y=>z y.1)]
    rw[if_neg q,e1,e2,ih]
    omega
theorem QhA (o H:List Str) (n:Str):Qfb (o++[n]) H=if n∈H then some n else Qfb o H:=by
 unfold Qfb
 rw[List.filter_append]
 by_cases q:n∈H
 ·rw[if_pos q,List.filter_cons_of_pos (by simpa using q),List.filter_nil,List.getLast?_append];rfl
 ·rw[if_neg q,List.filter_cons_of_neg (by simpa using q),List.filter_nil,List.append_nil]
theorem Qf0 (H:List Str) (l:Str):∀ (r:List Str) (y:Str),Qfb r.reverse H=some y→Qbd H r.reverse l=y
 |[],y,h=>by cases h
 |n::r,y,h=>by
  rw[List.reverse_cons]at h ⊢
  rw[QhA]at h
  rw[QbW,Qao]
  by_cases q:n∈H
  ·rw[if_pos q]at h
   cases h
   rw[if_pos (decide_eq_true q)]
  ·rw[if_neg q]at h
   rw[if_neg (by simpa using q)]
   exact Qf0 H l r y h
theorem QkC {p q sc n:Nat} (hq:0<q) (e:p*sc=n*q):(low p q).1*sc=n*(low p q).2:=by
 obtain⟨_,_,h,_,_⟩:=QbD p q hq
 refine Nat.eq_of_mul_eq_mul_right hq ?_
 rw[Nat.mul_right_comm,h,Nat.mul_right_comm p,e]
 simp only[Nat.mul_assoc,Nat.mul_comm,Nat.mul_left_comm]
theorem QdL {f:Pt→Nat}{p:Pt→Bool}:∀ (xs:List Pt),(∀ x∈xs,p x=false→f x=0)→((xs.filter p).map f).sum=(xs.map f).sum
 |[],_=>rfl
 |x::xs,h=>by
  have ih:=QdL xs fun y hy=>h y (List.mem_cons_of_mem _ hy)
  cases q:p x with
  |true=>rw[List.filter_cons_of_pos q,List.map_cons,List.map_cons,List.sum_cons,List.sum_cons,ih]
  |false=>rw[List.filter_cons_of_neg (by rw[q];decide),List.map_cons,List.sum_cons,h x List.mem_cons_self q,Nat.zero_add,ih]
theorem QkT {nx:Str→Option Str}{P:List Str} (hP:P.length≤30) (hn:∀ x y,nx x=some y→y∈P) (hcr:Qbm∉P) {xs:List Pt}{nm:Str}{D dn:List Str} (hx:∀ x∈xs,x.Ok∧x.hs.Nodup) (nd:D.Nodup) (hD:∀ s∈D,s∈P∧s∉dn) :
  QaR (QhC nm (QiC nx xs (QdC nx xs nm D dn) dn)) (0,1)=low (QcB nm D (QaC xs 60) xs 0+mxM (Qba (fun s=>Qbe nx (fun y=>Qa6 y (dn++D)) s 31 s) nm D (QaC xs 60) xs)) (QaC xs 60)∧∀ x∈xs,1≤(Qc3 nx (QdC nx xs nm D dn) dn x.hs).length∧(Qc3 nx (QdC nx xs nm D dn) dn x.hs).length≤x.hs.length:=by
 let he:Str→Str:=fun s=>Qbe nx (fun y=>Qa6 y (dn++D)) s 31 s
 let o:=QdC nx xs nm D dn
 let sc:=QaC xs 60
 have Dn:(srt D).Nodup:=(Qa9 D).nodup_iff.mpr nd
 have ok0:=Qhu (xs:=xs) (D:=D) (F:=frM nx (dn++D) nm D) (S:=srt D) fun s m=>srt_mem.mpr (List.mem_filter.mp m).1
 have om:o∈Qcg (srt D) D.length:=QeE Dn ok0 (by rw[QaO];exact Nat.le_refl _)
 obtain⟨o1,o2⟩:=Qeq Dn (by rw[QaO];exact om)
 have o3:∀ s,s∈o↔s∈D:=fun s=>(o2 s).trans srt_mem
 have sc0:0<sc:=(Qc1 xs 60 6 (fun x m=>(hx x m).1) (by decide) (by decide)).1
 have good:=(Qhc (nx:=nx) (xs:=xs) (nm:=nm) (dn:=dn) (sc:=sc) nd (fun x m=>(hx x m).1.h0) om).mp (Qcx Dn ok0 D.length (by rw[QaO];exact Nat.le_refl _)).2.2
 have lo:∀ H:List Str,Qa0 H o=Qa0 H D:=fun H=>by
  unfold Qa0
  congr 1
  funext s
  rw[Qao,Qao,show decide (s∈o)=decide (s∈D) by rw[decide_eq_decide];exact o3 s]
 have gm:(fun y=>Qa6 y (dn++o))=fun y=>Qa6 y (dn++D):=by
  funext y
  rw[Qao,Qao,decide_eq_decide,List.mem_append,List.mem_append,o3]
 have due:∀ x∈xs,Qc3 nx o dn x.hs=if Qa0 x.hs D=[] then [he (Qbd x.hs o "")] else Qa0 x.hs D:=fun x m=>by
  obtain⟨ox,ndx⟩:=hx x m
  rw[QlY (l0:="") hP hn hcr ndx (fun z=>by have:=ox.h0;rw[z]at this;cases this) o1 fun s hs=>hD s ((o3 s).mp hs)]
  unfold dueH
  rw[lo,gm]
 have last:∀ x∈xs,Qa0 x.hs D=[]→Qbd x.hs o ""=Qc6 o x.hs (x.hs.getD 0 "")∧Qc6 o x.hs (x.hs.getD 0 "")∈x.hs:=fun x m z=>by
  have sub:=left_nil.mp z
  have l0:x.hs.getD 0 ""∈x.hs:=by
   rw[List.getD_eq_getElem?_getD,List.getElem?_eq_getElem (show 0<x.hs.length from (hx x m).1.h0)]
   exact List.getElem_mem _
  have tl:=Qd3 o1 (fun w hw=>(o3 w).mpr (sub w hw)) l0
  refine⟨?_,?_⟩
  ·have:=Qf0 x.hs "" o.reverse _ (by rw[List.reverse_reverse];exact tl)
   rwa [List.reverse_reverse]at this
  ·rcases (Qcq o x.hs (x.hs.getD 0 "")).1 with q | q
   ·rw[q];exact l0
   ·exact q
 have lens:∀ x∈xs,1≤(Qc3 nx o dn x.hs).length∧(Qc3 nx o dn x.hs).length≤x.hs.length:=fun x m=>by
  rw[due x m]
  have:=(hx x m).1.h0
  by_cases z:Qa0 x.hs D=[]
  ·rw[if_pos z];exact⟨Nat.le_refl _,this⟩
  ·rw[if_neg z];exact⟨List.length_pos_iff.mpr z,List.length_filter_le _ _⟩
 refine⟨?_,lens⟩
 have val:∀ x∈xs,Qa6 nm (Qc3 nx o dn x.hs)=true→x.p*sc=brM he nm D sc x*(x.q*(Qc3 nx o dn x.hs).length):=fun x m q=>by
  have ox:=(hx x m).1
  have vp:=Qkk m ox.q0 (lens x m).1 (Nat.le_trans (lens x m).2 ox.h1)
  rw[vp]
  congr 1
  rw[due x m]at q ⊢
  unfold brM
  by_cases z:Qa0 x.hs D=[]
  ·rw[if_pos z]at q ⊢
   have hq:nm=he (Qbd x.hs o ""):=by simpa [Qao] using q
   obtain⟨l1,l2⟩:=last x m z
   rw[if_neg (by rw[z];intro y;cases y),if_pos ⟨z,List.ne_nil_of_mem (List.mem_filter.mpr ⟨l2,by rw[← l1];exact decide_eq_true hq.symm⟩)⟩]
   show QfM sc x / 1=_
   rw[Nat.div_one]
  ·rw[if_neg z]at q ⊢
   rw[if_pos q]
 have zero:∀ x∈xs,Qa6 nm (Qc3 nx o dn x.hs)=false→brM he nm D sc x=0:=fun x m q=>by
  rw[due x m]at q
  unfold brM
  by_cases z:Qa0 x.hs D=[]
  ·rw[if_pos z]at q
   have hq:¬ nm=he (Qbd x.hs o ""):=by simpa [Qao] using q
   obtain⟨l1,l2⟩:=last x m z
   rw[if_neg (by rw[z];intro y;cases y),if_neg]
   intro ⟨_,w⟩
   have t:=good _ (List.mem_map.mpr ⟨x,List.mem_filter.mpr ⟨m,decide_eq_true z⟩,rfl⟩) w
   have:=of_decide_eq_true (List.mem_filter.mp t).2
   exact hq (by rw[l1];exact this.symm)
  ·rw[if_neg z]at q
   rw[if_neg (by rw[q];decide),if_neg fun y=>z y.1]
 have es:QhC nm (QiC nx xs o dn)=(xs.filter fun x=>Qa6 nm (Qc3 nx o dn x.hs)).map fun x=>low (x.p*1) (x.q*(Qc3 nx o dn x.hs).length):=by
  unfold QhC QiC
  rw[List.filter_map,List.map_map]
  rfl
 have:=Qly he nm D sc xs 0
 rw[Nat.zero_add]at this
 show QaR (QhC nm (QiC nx xs o dn)) (0,1)=low (QcB nm D sc xs 0+mxM (Qba he nm D sc xs)) sc
 rw[this,← QdL (p:=fun x=>Qa6 nm (Qc3 nx o dn x.hs)) xs zero,es]
 refine Qi8 (fun s hs=>?_) sc0 (by rw[List.length_map,List.length_map]) (fun i h h'=>?_)
 ·obtain⟨x,m,rfl⟩:=List.mem_map.mp hs
  have mx:=(List.mem_filter.mp m).1
  exact(QbD _ _ (Nat.mul_pos (hx x mx).1.q0 (lens x mx).1)).1
 ·rw[List.getElem_map,List.getElem_map]
  rw[List.length_map]at h
  obtain⟨mx,mm⟩:=List.mem_filter.mp (List.getElem_mem h)
  refine QkC (Nat.mul_pos (hx _ mx).1.q0 (lens _ mx).1) ?_
  rw[Nat.mul_one]
  exact val _ mx mm
noncomputable abbrev tStar (a wi : Nat) : List S := [.asg 8 (.ix (.lst [(.cmp .NotEq (.var 7) (.var 3)), (.cmp .Eq (.var 7) (.var 3)), (.cmp .Eq (.bin .Mod (.bin .FloorDiv (.var 4) (.bin .Add (.con (.int 1)) (.bin .Mult (.con (.int 2)) (.var 7)))) (.con (.int 2))) (.con (.int 1)))]) (.bin .Mod (.call a [(.var 0), (.con (.int 7))]) (.con (.int 3)))),
 .if_ (.var 8) [.setix (.var 6) (.ix (.var 1) (.var 7)) (.var 2)] [],
 .if_ (.cmp .NotEq (.var 7) (.var 3)) [.asg 9 (.tup [(.ix (.var 1) (.blt .min [(.var 7),(.var 3)])),(.ix (.var 1) (.blt .max [(.var 7),(.var 3)]))]),
 .asg 10 (.tup [(.tup [(.con (.int 1)),(.con (.int 1)),(.tup [(.con (.int 1)),(.con (.int 1))]),(.tup [(.ix (.var 1) (.con (.int 0)))])])]),
 .exp (.meth .append (.var 5) [(.call wi [(.var 10), (.bin .Add (.con (.int 2)) (.var 7)), (.bin .Add (.blt .len [(.var 5)]) (.con (.int 1))), (.tup [(.con (.int 1)), (.bin .Add (.con (.int 2)) (.var 7))]), (.var 9)])])] []]
noncomputable abbrev Qnc (a wi : Nat) : List S := [.asg 3 (.bin .Mod (.call a [(.var 0), (.con (.int 5))]) (.blt .len [(.var 1)])),
 .asg 4 (.call a [(.var 0),(.con (.int 6))]),
 .fresh 5 (.lst []),
 .freshD 6,
 .for_ [7] (.rng [(.blt .len [(.var 1)])]) (tStar a wi),
 .ret (.lst [(.var 5), (.var 6)])]
structure StP (L:List Str) (x:Pt):Prop where
 ok:x.Ok
 nd:x.hs.Nodup
 sub:∀ s∈x.hs,s∈L
 p1:1≤x.p
 q1:x.q≤109
theorem Qnn {cf:CF}{a b:E}{x:Int}{C:Nat}{σ:Qai}{h:Qac} (ea:evE cf a σ h=.ok (.int x) h) (eb:evE cf b σ h=.ok (nat C) h) (h0:0<C) (hz:C<2 ^ 10):evE cf (.bin .FloorDiv a b) σ h=.ok (.int (x.fdiv (C:Int))) h:=by
 refine Qbj ea eb ?_
 show (if ((C:Int)≠0∧((C:Int).natAbs).log2<9000) then okI (x.fdiv (C:Int)) h else .stuck)=_
 rw[if_pos ⟨by omega,by rw[Int.natAbs_natCast];exact Qee (lt9 hz) (by decide)⟩]
 rfl
theorem Qmc {cf:CF}{a b:E}{m n:Nat}{σ:Qai}{h:Qac} (ea:evE cf a σ h=.ok (nat m) h) (eb:evE cf b σ h=.ok (nat n) h):evE cf (.blt .max [a,b]) σ h=.ok (nat (max m n)) h:=by
 rw[evE,QaL ea eb,bnd_ok]
 show okI (if (n:Int)>(m:Int) then (n:Int) else (m:Int)) h=_
 by_cases q:m<n
 ·rw[if_pos (by omega),Nat.max_eq_right (by omega)];rfl
 ·rw[if_neg (by omega),Nat.max_eq_left (by omega)];rfl
theorem QkN {cf:CF}{a b c e:E}{σ:Qai}{h:Qac}{x y v:Bool}{k:Nat} (ea:evE cf a σ h=.ok (.bl x) h) (eb:evE cf b σ h=.ok (.bl y) h) (ec:evE cf c σ h=.ok (.bl v) h) (ee:evE cf e σ h=.ok (nat k) h) (hk:k<3):∃ r,evE cf (.ix (.lst [a,b,c]) e) σ h=.ok (.bl r) h:=by
 have q:=fun (w:W) (o:ixW (.lst [.bl x,.bl y,.bl v]) (nat k) h=.ok w h)=>QaS (Qb3 (Qad ea (QaL eb ec)) (by show 3≤1000;decide)) ee o
 match k,hk with
 |0,_=>exact⟨x,q _ (Qf4 (k:=0) (t:=.lst [.bl x,.bl y,.bl v]) rfl rfl)⟩
 |1,_=>exact⟨y,q _ (Qf4 (k:=1) (t:=.lst [.bl x,.bl y,.bl v]) rfl rfl)⟩
 |2,_=>exact⟨v,q _ (Qf4 (k:=2) (t:=.lst [.bl x,.bl y,.bl v]) rfl rfl)⟩
theorem two_get {h:Qac}{a b:Ob}:(h++[a,b])[h.length]?=some a∧(h++[a,b])[h.length+1]?=some b:=by
 constructor
 ·rw[List.getElem?_append_right (Nat.le_refl _),Nat.sub_self];rfl
 ·rw[List.getElem?_append_right (by omega),show h.length+1-h.length=1 by omega];rfl
theorem two_set {h:Qac}{a b c:Ob}:(h++[a,b]).set h.length c=h++[c,b]∧(h++[a,b]).set (h.length+1) c=h++[a,c]:=by
 constructor
 ·rw[List.set_append_right _ _ (Nat.le_refl _),Nat.sub_self];rfl
 ·rw[List.set_append_right _ _ (by omega),show h.length+1-h.length=1 by omega];rfl
theorem Qk2 {fw:Nat}{tb:List Fn}{f a wi:Nat} (hf:tb[f]?=some ⟨3,11,Qnc a wi,none⟩) (ha:tb[a]?=some ⟨2,2,bAt,none⟩) (hw:tb[wi]?=some ⟨5,5,Qdt,none⟩) (d:Nat) (ns:List Int) (L:List Str) (nm:Str) (h:Qac) (hL:1≤L.length) (hL6:L.length≤6) (nd:L.Nodup) (ok:∀ s∈L,QeF s) :
  ∃ (xs:List Pt) (ks vs:List Str),Qae fw tb (d+2) f [.scr (ns.map W.int),.lst (L.map W.str),.str nm] h=.ok (.lst [.lst (xs.map ptW),.dic ks (vs.map W.str)]) h∧xs.length≤L.length∧(∀ x∈xs,StP L x)∧ks.length=vs.length∧ks.length≤L.length∧(∀ v∈vs,v=nm)∧∀ k∈ks,k∈L:=by
 rw[Qak hf rfl]
 have c:∀ (k:Nat) (h:Qac),Qae fw tb (d+1) a [.scr (ns.map W.int),.int (k:Int)] h=.ok (.int (cell ns k)) h:=fun k h=>Qff ha d ns k h
 have bw:=fun (dd nn:Nat) (s:Nat×Nat) (hs:List Str) (tr:List W) (ht:Qam tr=true) (hl:tr.length≤1000) (h:Qac)=>QdJ (fw:=fw) hw d dd nn s hs tr ht hl h
 generalize Qae fw tb (d+1)=cf at *
 have a_:∀ (j:Nat) (σ:Qai) (h:Qac),σ[0]?=some (some (.scr (ns.map W.int)))→evE cf (.call a [.var 0,.con (.int (j:Int))]) σ h=.ok (.int (cell ns j)) h:=fun j σ h hs=>QlP (h:=h) (σ:=σ) (i:=0) c hs j
 obtain⟨mid,em,hm⟩:=QaB (cell ns 5) (show 0<L.length from hL)
 obtain⟨k7,e7,h7⟩:=QaB (cell ns 7) (show 0<3 by decide)
 let z:Option W:=some (.scr (ns.map W.int))
 let Lw:Option W:=some (.lst (L.map W.str))
 let σ (r7 r8 r9 r10:Option W):Qai:=[z,Lw,some (.str nm),some (nat mid),some (.int (cell ns 6)),some (.ref h.length),some (.ref (h.length+1)),r7,r8,r9,r10]
 have ixL:∀ (τ:Qai) (e:E) (j:Nat) (hh:Qac),τ[1]?=some Lw→j<L.length→evE cf e τ hh=.ok (nat j) hh→evE cf (.ix (.var 1) e) τ hh=.ok (.str (L.getD j "")) hh:=fun τ e j hh h1 hj he=>QaS (Qaa h1) he (Qf4 (k:=j) (t:=.lst (L.map W.str)) rfl (by rw[List.getElem?_map,List.getElem?_eq_getElem hj,List.getD_eq_getElem?_getD,List.getElem?_eq_getElem hj];rfl))
 have inL:∀ j,j<L.length→L.getD j ""∈L:=fun j hj=>by rw[List.getD_eq_getElem?_getD,List.getElem?_eq_getElem hj];exact List.getElem_mem hj
 have neL:∀ i j,i<L.length→j<L.length→i≠j→L.getD i ""≠L.getD j "":=fun i j hi hj hne e=>by
  rw[List.getD_eq_getElem?_getD,List.getElem?_eq_getElem hi,List.getD_eq_getElem?_getD,List.getElem?_eq_getElem hj]at e
  exact hne ((List.getElem_inj nd).mp e)
 let hhO (xs:List Pt) (ks vs:List Str):Qac:=h++[.lst (xs.map ptW),.dic ks (vs.map W.str)]
 let Iv:Nat→Qai→Qac→Prop:=fun k τ hh=>∃ r7 r8 r9 r10,∃ (xs:List Pt) (ks vs:List Str),τ=σ r7 r8 r9 r10∧hh=hhO xs ks vs∧xs.length≤k∧(∀ x∈xs,StP L x)∧ks.length=vs.length∧ks.length≤k∧(∀ v∈vs,v=nm)∧∀ s∈ks,s∈L
 obtain⟨σ2,h2,lp,iv⟩:=Qfv (i:=7) (n:=L.length) (body:=exB cf fw (tStar a wi)) (Iv:=Iv) (σ:=σ none none none none) (h:=hhO [] [] []) (fun k τ hh hk iv=>by
  obtain⟨r7,r8,r9,r10,xs,ks,vs,rfl,rfl,l1,l2,l3,l4,l5,l6⟩:=iv
  let K:Option W:=some (nat k)
  obtain⟨m2,e2,_⟩:=QaB ((cell ns 6).fdiv ((1+2*k:Nat):Int)) (show 0<2 by decide)
  obtain⟨b,eb⟩:=QkN (cf:=cf) (σ:=σ K r8 r9 r10) (h:=hhO xs ks vs) (a:=.cmp .NotEq (.var 7) (.var 3)) (b:=.cmp .Eq (.var 7) (.var 3)) (c:=.cmp .Eq (.bin .Mod (.bin .FloorDiv (.var 4) (.bin .Add (.con (.int 1)) (.bin .Mult (.con (.int 2)) (.var 7)))) (.con (.int 2))) (.con (.int 1))) (e:=.bin .Mod (.call a [(.var 0),(.con (.int 7))]) (.con (.int 3))) (QcL (QgH (m:=k) (n:=mid) (Qaa (i:=7) rfl) (Qaa (i:=3) rfl))) (QcL (QcF (m:=k) (n:=mid) (Qaa (i:=7) rfl) (Qaa (i:=3) rfl))) (QcL (QcF (n:=1) (Qax (C:=2) (Qnn (C:=1+2*k) (Qaa (i:=4) rfl) (Qay (m:=1) Qah (Qbg (m:=2) Qah (Qaa (i:=7) rfl) (Qb5 ⟨by decide,by decide⟩))) (by omega) (by omega)) Qah (by decide) e2) Qah)) (Qax (C:=3) (a_ 7 _ _ rfl) Qah (by decide) e7) h7
  have kl:=ixL (σ K (some (.bl b)) r9 r10) (.var 7) k (hhO xs ks vs) rfl hk (Qaa (i:=7) rfl)
  obtain⟨ks',vs',q1,q2,q3,q4,sIf⟩:∃ ks' vs':List Str,ks'.length=vs'.length∧ks'.length≤k+1∧(∀ v∈vs',v=nm)∧(∀ s∈ks',s∈L)∧exS cf fw (.if_ (.var 8) [.setix (.var 6) (.ix (.var 1) (.var 7)) (.var 2)] []) (σ K (some (.bl b)) r9 r10) (hhO xs ks vs)=.ok (.nx (σ K (some (.bl b)) r9 r10)) (hhO xs ks' vs'):=by
   cases b with
   |false=>exact⟨ks,vs,l3,by omega,l5,l6,Qbf (Qa5 (Qaa (i:=8) rfl))⟩
   |true =>
    obtain⟨ks',us,p1,p2,p3,p4,p5⟩:=Qg5 ks vs (L.getD k "") nm l3
    refine⟨ks',us,p2,by omega,fun v hv=>(p4 v hv).elim id (l5 v),fun s hs=>?_,(Qea (Qa5 (Qaa (i:=8) rfl))).trans ?_⟩
    ·rcases p5 s hs with rfl | hs
     ·exact inL k hk
     ·exact l6 s hs
    ·have e1:=QeB (cf:=cf) (fw:=fw) (i:=6) (n:=h.length+1) (k:=.ix (.var 1) (.var 7)) (e:=.var 2) (σ:=σ K (some (.bl true)) r9 r10) (h:=hhO xs ks vs) (ks:=ks) (ws:=vs.map W.str) (x:=L.getD k "") (w:=.str nm) rfl two_get.2 kl (Qaa (i:=2) rfl) rfl (by omega)
     rw[p1]at e1
     refine(Qab e1).trans ?_
     rw[exB]
     show Res.ok (Fl.nx _) ((h++[Ob.lst (xs.map ptW),Ob.dic ks (vs.map W.str)]).set (h.length+1) (Ob.dic ks' (us.map W.str)))=_
     rw[two_set.2]
  have t1:evT cf (.cmp .NotEq (.var 7) (.var 3)) (σ K (some (.bl b)) r9 r10) (hhO xs ks' vs')=.ok (!decide (k=mid)) (hhO xs ks' vs'):=QgH (Qaa (i:=7) rfl) (Qaa (i:=3) rfl)
  by_cases q:k=mid
  ·rw[decide_eq_true q]at t1
   exact⟨σ K (some (.bl b)) r9 r10,hhO xs ks' vs',(Qab (Qaf eb)).trans ((Qab sIf).trans ((Qab (Qbf t1)).trans (by rw[exB]))),_,_,_,_,xs,ks',vs',rfl,rfl,by omega,l2,q1,q2,q3,q4⟩
  ·rw[decide_eq_false q]at t1
   let A:Str:=L.getD (min k mid) ""
   let B:Str:=L.getD (max k mid) ""
   have hA:min k mid<L.length:=by omega
   have hB:max k mid<L.length:=by omega
   let hs:List Str:=[A,B]
   let tr0:List W:=[.tup [nat 1,nat 1,sh 1 1,.tup [.str (L.getD 0 "")]]]
   let x:Pt:=⟨1,2+k,hs,tr0++[.tup [nat (2+k),nat (xs.length+1),shp (1,2+k),.tup (hs.map W.str)]]⟩
   have xst:StP L x:=by
    refine⟨⟨by show 0<2+k;omega,by show 1≤1000;omega,by show 2+k≤1000;omega,by show 1≤2;omega,by show 2≤6;omega,fun s hs=>?_,?_,?_,?_,?_⟩,?_,fun s hs=>?_,Nat.le_refl _,by show 2+k≤109;omega⟩
    ·rcases List.mem_cons.mp hs with rfl | hs
     ·exact ok _ (inL _ hA)
     ·rw[List.mem_singleton.mp hs];exact ok _ (inL _ hB)
    ·exact QcW (by simp[tr0,Qan,Qam]) (by simp[Qan,Qam,hs])
    ·exact Qei (by simp[tr0,okQ,Qdh]) (by simp[okQ,Qdh,hs])
    ·exact Qef (by simp[tr0,dep,QcX]) (by simp[dep,QcX,hs])
    ·simp[x,tr0]
    ·show [A,B].Nodup
     rw[List.nodup_cons]
     exact⟨fun y=>neL _ _ hA hB (by omega) (List.mem_singleton.mp y),by simp⟩
    ·rcases List.mem_cons.mp hs with rfl | hs
     ·exact inL _ hA
     ·rw[List.mem_singleton.mp hs];exact inL _ hB
   refine⟨σ K (some (.bl b)) (some (QaE hs)) (some (.tup tr0)),hhO (xs++[x]) ks' vs',(Qab (Qaf eb)).trans ((Qab sIf).trans ((Qab ((Qea t1).trans ?_)).trans (by rw[exB]))),_,_,_,_,xs++[x],ks',vs',rfl,rfl,by simp;omega,fun y hy=>?_,q1,q2,q3,q4⟩
   ·refine(Qab (Qaf (QaI (QaL (ixL _ _ (min k mid) _ rfl hA (Qgb (Qaa (i:=7) rfl) (Qaa (i:=3) rfl))) (ixL _ _ (max k mid) _ rfl hB (Qmc (Qaa (i:=7) rfl) (Qaa (i:=3) rfl)))) (by show 2≤1000;decide)))).trans ?_
    refine(Qab (Qaf (w:=.tup tr0) (QaI (Qad (QaI (Qad Qaj (Qad Qaj (Qad (QaI (QaL Qaj Qaj) (by show 2≤1000;decide)) (Qad (QaI (Qad (ixL _ _ 0 _ rfl hL Qaj) Qag) (by show 1≤1000;decide)) Qag)))) (by show 4≤1000;decide)) Qag) (by show 1≤1000;decide)))).trans ?_
    have ap:=QbR (cf:=cf) (i:=5) (n:=h.length) (us:=xs.map ptW) (w:=ptW x) (σ:=σ K (some (.bl b)) (some (QaE hs)) (some (.tup tr0))) (h:=hhO xs ks' vs') (e:=.call wi [(.var 10),(.bin .Add (.con (.int 2)) (.var 7)),(.bin .Add (.blt .len [(.var 5)]) (.con (.int 1))),(.tup [(.con (.int 1)),(.bin .Add (.con (.int 2)) (.var 7))]),(.var 9)]) rfl two_get.1 (QaF (Qad (Qaa (i:=10) rfl) (Qad (Qay (m:=2) Qah (Qaa (i:=7) rfl)) (Qad (Qay (n:=1) ((Qbs (Qaa (i:=5) rfl) (Qhi two_get.1)).trans (by rw[List.length_map])) Qah) (Qad (QaI (QaL (y:=nat (2+k)) Qaj (Qay (m:=2) Qah (Qaa (i:=7) rfl))) (by show 2≤1000;decide)) (Qad (Qaa (i:=9) rfl) Qag))))) (bw (2+k) (xs.length+1) (1,2+k) hs tr0 rfl (by show 1≤1000;decide) _)) (Qiz xst.ok) (by rw[List.length_map];omega)
    refine(Qab (Qdy ap)).trans ?_
    rw[exB]
    show Res.ok (Fl.nx _) ((h++[Ob.lst (xs.map ptW),Ob.dic ks' (vs'.map W.str)]).set h.length (Ob.lst (xs.map ptW++[ptW x])))=Res.ok (Fl.nx _) (h++[Ob.lst ((xs++[x]).map ptW),Ob.dic ks' (vs'.map W.str)])
    rw[two_set.1,List.map_append]
    rfl
   ·rcases List.mem_append.mp hy with hy | hy
    ·exact l2 y hy
    ·rw[List.mem_singleton.mp hy];exact xst) ⟨none,none,none,none,[],[],[],rfl,rfl,Nat.le_refl _,fun x hx=>(by cases hx),rfl,Nat.le_refl _,fun v hv=>(by cases hv),fun s hs=>(by cases hs)⟩
 obtain⟨r7,r8,r9,r10,xs,ks,vs,rfl,rfl,l1,l2,l3,l4,l5,l6⟩:=iv
 refine⟨xs,ks,vs,?_,l1,l2,l3,l4,l5,l6⟩
 let n:Option W:=none
 show J.fin h.length (exB cf fw (Qnc a wi) [z,Lw,some (.str nm),n,n,n,n,n,n,n,n] h)=_
 have len:∀ (τ:Qai) (hh:Qac),τ[1]?=some Lw→evE cf (.blt .len [(.var 1)]) τ hh=.ok (nat L.length) hh:=fun τ hh h1=>(Qbs (Qaa h1) rfl).trans (by rw[List.length_map])
 have e:exB cf fw (Qnc a wi) [z,Lw,some (.str nm),n,n,n,n,n,n,n,n] h=.ok (.ret (.lst [.ref h.length,.ref (h.length+1)])) (hhO xs ks vs):=by
  refine(Qab (Qaf (Qax (C:=L.length) (a_ 5 _ _ rfl) (len _ _ rfl) hL em))).trans ?_
  refine(Qab (Qaf (a_ 6 _ _ rfl))).trans ?_
  refine(Qab (σ':=[z,Lw,some (.str nm),some (nat mid),some (.int (cell ns 6)),some (.ref h.length),n,n,n,n,n]) (h':=h++[.lst []]) ?_).trans ?_
  ·rw[exS,evF,evA,bnd_ok,if_pos (by decide),bnd_ok,if_pos (by rw[Qam])]
   rfl
  refine(Qab (σ':=σ n n n n) (h':=hhO [] [] []) ?_).trans ?_
  ·rw[exS]
   show Res.ok (Fl.nx _) (h++[Ob.lst []]++[Ob.dic [] []])=Res.ok (Fl.nx _) (h++[Ob.lst [],Ob.dic [] []])
   rw[List.append_assoc,List.length_append]
   rfl
  refine(Qab ((QcK (n:=L.length) (len _ _ rfl) (Nat.lt_of_le_of_lt hL6 (by decide))).trans lp)).trans ?_
  exact Qal (Qa2 (Qb3 (QaL (Qaa (i:=5) rfl) (Qaa (i:=6) rfl)) (by show 2≤1000;decide)))
 rw[e]
 unfold J.fin
 dsimp only
 have u1:unr (hhO xs ks vs) h.length (.ref h.length)=some (.lst (xs.map ptW)):=by rw[unr,if_neg (Nat.lt_irrefl _),two_get.1]
 have u2:unr (hhO xs ks vs) h.length (.ref (h.length+1))=some (.dic ks (vs.map W.str)):=by rw[unr,if_neg (by omega),two_get.2]
 rw[unr,QcU,u1,QcU,u2,QcU]
 show Res.ok _ (List.take h.length (h++_))=_
 rw[List.take_left]
end J
set_option Elab.async false
set_option linter.all false
set_option maxRecDepth 100000
set_option maxHeartbeats 4000000
namespace Law
open PySem J
def top (i:Nat):Stmt:=PySem.Challenge.pw_jointhold_k15_best_of.main.body.getD i (.Pass ⟨0,0,0,0⟩)
def d0:Df:=⟨"names_without",top 2,["names","gone"],["names","gone"],[],"names_without",0⟩
def d1:Df:=⟨"heir_of",top 4,["name","follows","dead","passed","at"],["name","follows","dead"],["passed"],"heir_of",0⟩
def d2:Df:=⟨"common_divisor",top 7,["one","other","rest"],["one","other"],[],"common_divisor",0⟩
def d3:Df:=⟨"lowest",top 8,["top","below","divisor"],["top","below"],[],"lowest",0⟩
def d4:Df:=⟨"plus_of_lowest",top 9,["one","other","common","top","divisor"],["one","other"],[],"plus_of_lowest",0⟩
def d5:Df:=⟨"piece_of",top 10,["share","many","of"],["share","many","of"],[],"piece_of",0⟩
def d6:Df:=⟨"total_of",top 11,["shares","total","share"],["shares"],[],"total_of",0⟩
def d7:Df:=⟨"stake_in",top 13,["parts","name"],["parts","name"],[],"stake_in",0⟩
def d8:Df:=⟨"holders_after",top 16,["holders","name","heir"],["holders","name","heir"],[],"holders_after",0⟩
def d9:Df:=⟨"after_order",top 17,["parts","order","follows","dead","all_holders","gone","heir","name"],["parts","order","follows","dead"],["gone"],"after_order",0⟩
def d10:Df:=⟨"has_friend",top 18,["holders","friends"],["holders","friends"],[],"has_friend",0⟩
def d11:Df:=⟨"can_be_won",top 19,["holders","people","friends"],["holders","people","friends"],[],"can_be_won",0⟩
def d12:Df:=⟨"is_lost",top 20,["holders","left","friends","living"],["holders","left","friends"],[],"is_lost",0⟩
def d13:Df:=⟨"loses_none",top 21,["name","left","won","friends","others"],["name","left","won","friends"],[],"loses_none",0⟩
def d14:Df:=⟨"first_order",top 22,["people","won","friends","order","name","left"],["people","won","friends"],[],"first_order",0⟩
def d15:Df:=⟨"best_of",top 23,["parts","name","people","follows","dead","won","order","all_dead","friends"],["parts","name","people","follows","dead"],[],"best_of",0⟩
def d16:Df:=⟨"_law_same",top 25,["_law_found","_law_due","_law_alike","_law_k"],["_law_found","_law_due"],[],"_law_same",0⟩
def d17:Df:=⟨"_law_at",top 26,["_law_script","_law_k"],["_law_script","_law_k"],[],"_law_at",0⟩
def d18:Df:=⟨"_law_with",top 27,["_law_trail","_law_deed","_law_number","_law_share","_law_holders"],["_law_trail","_law_deed","_law_number","_law_share","_law_holders"],[],"_law_with",0⟩
def d19:Df:=⟨"_law_count",top 28,["_law_script","_law_crowd","_law_cell"],["_law_script","_law_crowd"],[],"_law_count",0⟩
def d20:Df:=⟨"_law_made",top 29,["_law_script","_law_first","_law_many","_law_people_here","_law_made_here","_law_k","_law_a","_law_b","_law_size","_law_holders","_law_top","_law_share","_law_begun","_law_start"],["_law_script","_law_first","_law_many","_law_people_here"],["_law_made_here"],"_law_made",0⟩
def d21:Df:=⟨"_law_people",top 30,["_law_many","_law_how","_law_shift","_law_letters","_law_fill","_law_ahead","_law_made_here","_law_k","_law_one","_law_two"],["_law_many","_law_how","_law_shift"],["_law_made_here"],"_law_people",0⟩
def d22:Df:=⟨"_law_ways",top 31,["_law_script","_law_first","_law_people_here","_law_named","_law_many","_law_hop","_law_k","_law_cell"],["_law_script","_law_first","_law_people_here"],["_law_named"],"_law_ways",0⟩
def d23:Df:=⟨"_law_heir",top 32,["_law_name","_law_named","_law_gone","_law_at_here","_law_turn"],["_law_name","_law_named","_law_gone"],[],"_law_heir",0⟩
def d24:Df:=⟨"_law_low",top 33,["_law_top","_law_below","_law_a","_law_b"],["_law_top","_law_below"],[],"_law_low",0⟩
def d25:Df:=⟨"_law_same_ways",top 34,["_law_found","_law_due","_law_one"],["_law_found","_law_due"],[],"_law_same_ways",0⟩
def d26:Df:=⟨"_law_orders",top 35,["_law_people_here","_law_rows","_law_turn","_law_longer","_law_row","_law_one"],["_law_people_here"],["_law_longer"],"_law_orders",0⟩
def d27:Df:=⟨"_law_prizes",top 36,["_law_held","_law_name","_law_dying","_law_named","_law_gone","_law_scale","_law_part","_law_sure","_law_prizes_here","_law_share","_law_holders","_law_trail","_law_worth_here","_law_left","_law_wins"],["_law_held","_law_name","_law_dying","_law_named","_law_gone"],["_law_prizes_here"],"_law_prizes",0⟩
def d28:Df:=⟨"_law_worth",top 37,["_law_order","_law_sure","_law_prizes_here","_law_found","_law_place","_law_k","_law_worth_here","_law_holders","_law_wins","_law_last","_law_one"],["_law_order","_law_sure","_law_prizes_here"],["_law_place"],"_law_worth",0⟩
def d29:Df:=⟨"_law_star",top 38,["_law_script","_law_low_here","_law_name","_law_mid","_law_cell","_law_held","_law_named","_law_k","_law_wanted","_law_group","_law_begun"],["_law_script","_law_low_here","_law_name"],["_law_held","_law_named"],"_law_star",0⟩
def d30:Df:=⟨"law",top 39,["_law_script","_law_more","_law_everyone","_law_size","_law_held","_law_named","_law_dying","_law_alive","_law_name","_law_told","_law_ways_here","_law_row","_law_dead_ones","_law_found","_law_scale","_law_sure","_law_prizes_here","_law_most","_law_best","_law_order","_law_worth_here","_law_count_here","_law_down","_law_people_here"],["_law_script"],[],"law",0⟩
noncomputable def ds:List Df:=[d0,d1,d2,d3,d4,d5,d6,d7,d8,d9,d10,d11,d12,d13,d14,d15,d16,d17,d18,d19,d20,d21,d22,d23,d24,d25,d26,d27,d28,d29,d30]
noncomputable def gl:List (Str×Gk):=("names_without",.fn 0 2)::("heir_of",.fn 1 3)::("common_divisor",.fn 2 2)::("lowest",.fn 3 2)::("plus_of_lowest",.fn 4 2)::("piece_of",.fn 5 3)::("total_of",.fn 6 1)::("stake_in",.fn 7 2)::("holders_after",.fn 8 3)::("after_order",.fn 9 4)::("has_friend",.fn 10 2)::("can_be_won",.fn 11 3)::("is_lost",.fn 12 3)::("loses_none",.fn 13 4)::("first_order",.fn 14 3)::("best_of",.fn 15 5)::("_law_same",.fn 16 2)::("_law_at",.fn 17 2)::("_law_with",.fn 18 5)::("_law_count",.fn 19 2)::("_law_made",.fn 20 4)::("_law_people",.fn 21 3)::("_law_ways",.fn 22 3)::("_law_heir",.fn 23 3)::("_law_low",.fn 24 2)::("_law_same_ways",.fn 25 2)::("_law_orders",.fn 26 1)::("_law_prizes",.fn 27 5)::("_law_worth",.fn 28 3)::("_law_star",.fn 29 3)::("law",.fn 30 1)::("CROWN",.con (.str "CROWN"))::("NOUGHT",.con (.tup [(.int 0),(.int 1)]))::("ORDER_MOST",.con (.int 6))::[]
theorem made:Qij ds gl=true:=by decide +kernel
noncomputable def b0:List S:=[.ret (.blt .tuple [(.compS [2] 1 (.var 0) [(.cmp .NotIn (.var 2) (.var 1))] (.var 2))])]
noncomputable def b1 : List S := [.freshD1 3 (.var 0) (.con (.bl true)),
 .asg 4 (.var 0),
 .while_ (.cmp .In (.var 4) (.var 1)) [.asg 4 (.ix (.var 1) (.var 4)),
 .if_ (.cmp .In (.var 4) (.var 3)) [.ret (.con (.str "CROWN"))] [],
 .if_ (.cmp .NotIn (.var 4) (.var 2)) [.ret (.var 4)] [],
 .setix (.var 3) (.var 4) (.con (.bl true))],
 .ret (.con (.str "CROWN"))]
noncomputable def b2 : List S := [.while_ (.cmp .Gt (.var 1) (.con (.int 0))) [.asg 2 (.bin .Mod (.var 0) (.var 1)),
 .asg 0 (.var 1),
 .asg 1 (.var 2)],
 .ret (.var 0)]
noncomputable def b3 : List S := [.asg 2 (.call 2 [(.var 0), (.var 1)]),
 .ret (.tup [(.bin .FloorDiv (.var 0) (.var 2)), (.bin .FloorDiv (.var 1) (.var 2))])]
noncomputable def b4 : List S := [.asg 2 (.call 2 [(.ix (.var 0) (.con (.int 1))), (.ix (.var 1) (.con (.int 1)))]),
 .asg 3 (.bin .Add (.bin .Mult (.ix (.var 0) (.con (.int 0))) (.bin .FloorDiv (.ix (.var 1) (.con (.int 1))) (.var 2))) (.bin .Mult (.ix (.var 1) (.con (.int 0))) (.bin .FloorDiv (.ix (.var 0) (.con (.int 1))) (.var 2)))),
 .asg 4 (.call 2 [(.var 3),(.var 2)]),
 .ret (.tup [(.bin .FloorDiv (.var 3) (.var 4)), (.bin .Mult (.bin .FloorDiv (.ix (.var 0) (.con (.int 1))) (.var 2)) (.bin .FloorDiv (.ix (.var 1) (.con (.int 1))) (.var 4)))])]
noncomputable def b5:List S:=[.ret (.call 3 [(.bin .Mult (.ix (.var 0) (.con (.int 0))) (.var 1)),(.bin .Mult (.ix (.var 0) (.con (.int 1))) (.var 2))])]
noncomputable def b6 : List S := [.asg 1 (.con (.tup [(.int 0), (.int 1)])),
 .for_ [2] (.seq (.var 0)) [.asg 1 (.call 4 [(.var 1),(.call 3 [(.ix (.var 2) (.con (.int 0))),(.ix (.var 2) (.con (.int 1)))])])],
 .ret (.var 1)]
noncomputable def b7:List S:=[.ret (.call 6 [(.compS [2] 1 (.var 0) [(.cmp .In (.var 1) (.ix (.var 2) (.con (.int 1))))] (.call 5 [(.ix (.var 2) (.con (.int 0))),(.con (.int 1)),(.blt .len [(.ix (.var 2) (.con (.int 1)))])]))])]
noncomputable def b8 : List S := [.if_ (.cmp .NotIn (.var 1) (.var 0)) [.ret (.var 0)] [],
 .if_ (.cmp .Eq (.blt .len [(.var 0)]) (.con (.int 1))) [.ret (.tup [(.var 2)])] [],
 .ret (.call 0 [(.var 0), (.tup [(.var 1)])])]
noncomputable def b9 : List S := [.asg 4 (.compS [8] 1 (.var 0) [] (.ix (.var 8) (.con (.int 1)))),
 .fresh 5 (.blt .list [(.var 3)]),
 .for_ [7] (.seq (.var 1)) [.asg 6 (.call 1 [(.var 7),(.var 2),(.var 5)]),
 .asg 4 (.compS [8] 1 (.var 4) [] (.call 8 [(.var 8),(.var 7),(.var 6)])),
 .exp (.meth .append (.var 5) [(.var 7)])],
 .ret (.compS [8, 9] 2 (.zipE (.var 0) (.var 4)) [] (.tup [(.ix (.var 8) (.con (.int 0))), (.var 9)]))]
noncomputable def b10:List S:=[.ret (.blt .any [(.compS [2] 1 (.var 0) [] (.cmp .In (.var 2) (.var 1)))])]
noncomputable def b11:List S:=[.ret (.and_ (.blt .all [(.compS [3] 1 (.var 0) [] (.cmp .In (.var 3) (.var 1)))]) (.call 10 [(.var 0),(.var 2)]))]
noncomputable def b12 : List S := [.asg 3 (.compS [4] 1 (.var 0) [(.cmp .In (.var 4) (.var 1))] (.var 4)),
 .ret (.and_ (.cmp .Gt (.blt .len [(.var 3)]) (.con (.int 0))) (.not_ (.call 10 [(.var 3), (.var 2)])))]
noncomputable def b13 : List S := [.asg 4 (.call 0 [(.var 1), (.tup [(.var 0)])]),
 .ret (.not_ (.blt .any [(.compS [5] 1 (.var 2) [] (.call 12 [(.var 5), (.var 4), (.var 3)]))]))]
noncomputable def b14 : List S := [.asg 3 (.tup []),
 .asg 5 (.blt .tuple [(.blt .sorted [(.var 0)])]),
 .while_ (.cmp .Gt (.blt .len [(.var 5)]) (.con (.int 0))) [.asg 4 (.ix (.compS [6] 1 (.var 5) [(.call 13 [(.var 6),(.var 5),(.var 1),(.var 2)])] (.var 6)) (.con (.int 0))),
 .asg 3 (.bin .Add (.var 3) (.tup [(.var 4)])),
 .asg 5 (.call 0 [(.var 5),(.tup [(.var 4)])])],
 .ret (.var 3)]
noncomputable def b15 : List S := [.asg 7 (.bin .Add (.blt .list [(.var 4)]) (.blt .list [(.var 2)])),
 .asg 8 (.compS [9] 1 (.var 2) [(.cmp .Eq (.call 1 [(.var 9),(.var 3),(.var 7)]) (.var 1))] (.var 9)),
 .asg 5 (.compS [9] 1 (.var 0) [(.call 11 [(.ix (.var 9) (.con (.int 1))),(.var 2),(.var 8)])] (.ix (.var 9) (.con (.int 1)))),
 .asg 6 (.call 14 [(.var 2),(.var 5),(.var 8)]),
 .ret (.tup [(.var 6), (.call 7 [(.call 9 [(.var 0), (.var 6), (.var 3), (.var 4)]), (.var 1)])])]
noncomputable def b16 : List S := [.if_ (.isi (.var 1) [.list, .tuple]) [.asg 2 (.ite (.isi (.var 1) [.list]) (.isi (.var 0) [.list]) (.isi (.var 0) [.tuple])),
 .if_ (.or_ (.not_ (.var 2)) (.cmp .NotEq (.blt .len [(.var 0)]) (.blt .len [(.var 1)]))) [.ret (.con (.bl false))] [],
 .for_ [3] (.rng [(.blt .len [(.var 1)])]) [.if_ (.not_ (.call 16 [(.ix (.var 0) (.var 3)),(.ix (.var 1) (.var 3))])) [.ret (.con (.bl false))] []],
 .ret (.con (.bl true))] [],
 .if_ (.isi (.var 1) [.str]) [.ret (.and_ (.isi (.var 0) [.str]) (.cmp .Eq (.var 0) (.var 1)))] [],
 .ret (.and_ (.isi (.var 0) [.int]) (.and_ (.not_ (.isi (.var 0) [.bool])) (.cmp .Eq (.var 0) (.var 1))))]
noncomputable def b17 : List S := [.if_ (.cmp .Lt (.var 1) (.blt .len [(.var 0)])) [.ret (.ix (.var 0) (.var 1))] [],
 .ret (.con (.int 0))]
noncomputable def b18:List S:=[.ret (.tup [(.var 3),(.var 4),(.bin .Add (.var 0) (.tup [(.tup [(.var 1),(.var 2),(.var 3),(.var 4)])]))])]
noncomputable def b19 : List S := [.asg 2 (.call 17 [(.var 0), (.con (.int 0))]),
 .if_ (.var 1) [.ret (.bin .Sub (.con (.int 60)) (.bin .Mult (.bin .Mod (.var 2) (.con (.int 2))) (.bin .Mod (.bin .FloorDiv (.var 2) (.con (.int 2))) (.con (.int 6)))))] [],
 .ret (.bin .Add (.con (.int 1)) (.bin .Mod (.var 2) (.con (.int 8))))]
noncomputable def b20 : List S := [.fresh 4 (.lst []),
 .for_ [5] (.rng [(.var 2)]) [.asg 6 (.bin .Add (.call 17 [(.var 0),(.bin .Add (.var 1) (.bin .Mod (.var 5) (.con (.int 7))))]) (.bin .FloorDiv (.var 5) (.con (.int 7)))),
 .asg 7 (.call 17 [(.var 0),(.bin .Add (.bin .Add (.var 1) (.con (.int 7))) (.bin .Mod (.var 5) (.con (.int 5))))]),
 .asg 8 (.ix (.lst [(.con (.int 1)),(.con (.int 2)),(.con (.int 3)),(.con (.int 1)),(.con (.int 4)),(.con (.int 6)),(.con (.int 1)),(.con (.int 5)),(.con (.int 2))]) (.bin .Mod (.bin .Add (.var 6) (.var 5)) (.con (.int 9)))),
 .asg 13 (.bin .Add (.bin .FloorDiv (.var 6) (.con (.int 9))) (.bin .Mult (.var 5) (.bin .Mod (.var 7) (.con (.int 5))))),
 .asg 9 (.compR [14] 1 [(.blt .min [(.var 8),(.blt .len [(.var 3)])])] [] (.ix (.var 3) (.bin .Mod (.bin .Add (.var 13) (.var 14)) (.blt .len [(.var 3)])))),
 .if_ (.and_ (.cmp .Eq (.bin .Mod (.bin .Add (.var 6) (.var 5)) (.con (.int 9))) (.con (.int 6))) (.cmp .Eq (.bin .Mod (.var 7) (.con (.int 2))) (.con (.int 0)))) [.asg 9 (.lst [(.con (.str "CROWN"))])] [],
 .asg 10 (.bin .Add (.con (.int 1)) (.bin .Mod (.bin .Add (.bin .FloorDiv (.var 7) (.con (.int 5))) (.var 5)) (.con (.int 9)))),
 .asg 11 (.tup [(.var 10),(.bin .Add (.bin .Mult (.var 10) (.bin .Add (.con (.int 1)) (.bin .Mod (.bin .Add (.bin .FloorDiv (.var 6) (.con (.int 3))) (.var 5)) (.con (.int 12))))) (.con (.int 1)))]),
 .asg 12 (.tup [(.tup [(.con (.int 1)),(.con (.int 1)),(.tup [(.con (.int 1)),(.con (.int 1))]),(.tup [(.ix (.var 3) (.con (.int 0)))])])]),
 .exp (.meth .append (.var 4) [(.call 18 [(.var 12),(.bin .Add (.con (.int 2)) (.var 5)),(.bin .Add (.var 5) (.con (.int 1))),(.var 11),(.blt .tuple [(.blt .sorted [(.var 9)])])])])],
 .ret (.var 4)]
noncomputable def b21 : List S := [.asg 3 (.con (.str "abcdefghijklmnopqrstuvwxyz")),
 .asg 4 (.bin .Mult (.ix (.var 3) (.bin .Mod (.bin .FloorDiv (.var 2) (.con (.int 26))) (.con (.int 26)))) (.bin .Mod (.bin .FloorDiv (.var 1) (.con (.int 3))) (.con (.int 11)))),
 .asg 5 (.bin .Mod (.bin .FloorDiv (.var 1) (.con (.int 33))) (.con (.int 11))),
 .fresh 6 (.lst []),
 .for_ [7] (.rng [(.var 0)]) [.asg 8 (.ix (.var 3) (.bin .Mod (.bin .Add (.bin .Mult (.con (.int 5)) (.var 7)) (.var 2)) (.con (.int 26)))),
 .asg 9 (.ix (.var 3) (.bin .Mod (.bin .Add (.bin .FloorDiv (.var 7) (.con (.int 26))) (.var 2)) (.con (.int 26)))),
 .if_ (.cmp .Lt (.bin .Mod (.var 1) (.con (.int 3))) (.con (.int 2))) [.exp (.meth .append (.var 6) [(.bin .Add (.bin .Add (.bin .Add (.sl (.var 4) none (some (.var 5))) (.var 8)) (.var 9)) (.sl (.var 4) (some (.var 5)) none))])] [.exp (.meth .append (.var 6) [(.bin .Mult (.ix (.var 3) (.bin .Mod (.bin .Add (.bin .FloorDiv (.var 7) (.con (.int 12))) (.var 2)) (.con (.int 26)))) (.bin .Add (.con (.int 1)) (.bin .Mod (.var 7) (.con (.int 12)))))])]],
 .ret (.var 6)]
noncomputable def b22 : List S := [.freshD 3,
 .asg 4 (.blt .len [(.var 2)]),
 .asg 5 (.bin .Add (.con (.int 1)) (.bin .Mod (.bin .FloorDiv (.call 17 [(.var 0),(.var 1)]) (.con (.int 4))) (.con (.int 5)))),
 .for_ [6] (.rng [(.var 4)]) [.asg 7 (.bin .Add (.call 17 [(.var 0),(.bin .Add (.bin .Add (.var 1) (.con (.int 1))) (.bin .Mod (.var 6) (.con (.int 6))))]) (.bin .FloorDiv (.var 6) (.con (.int 6)))),
 .if_ (.and_ (.cmp .Lt (.bin .Mod (.call 17 [(.var 0),(.var 1)]) (.con (.int 4))) (.con (.int 2))) (.cmp .Lt (.bin .Mod (.var 7) (.bin .Add (.var 4) (.con (.int 1)))) (.var 4))) [.setix (.var 3) (.ix (.var 2) (.var 6)) (.ix (.var 2) (.bin .Mod (.var 7) (.bin .Add (.var 4) (.con (.int 1)))))] [],
 .if_ (.and_ (.cmp .Eq (.bin .Mod (.call 17 [(.var 0),(.var 1)]) (.con (.int 4))) (.con (.int 2))) (.cmp .Lt (.bin .Add (.var 6) (.var 5)) (.var 4))) [.setix (.var 3) (.ix (.var 2) (.var 6)) (.ix (.var 2) (.bin .Add (.var 6) (.var 5)))] [],
 .if_ (.cmp .Eq (.bin .Mod (.call 17 [(.var 0),(.var 1)]) (.con (.int 4))) (.con (.int 3))) [.setix (.var 3) (.ix (.var 2) (.var 6)) (.ix (.var 2) (.bin .Mod (.bin .Add (.var 6) (.var 5)) (.var 4)))] []],
 .ret (.var 3)]
noncomputable def b23 : List S := [.asg 3 (.var 0),
 .for_ [4] (.rng [(.con (.int 31))]) [.if_ (.cmp .NotIn (.var 3) (.var 1)) [.ret (.con (.str "CROWN"))] [],
 .asg 3 (.ix (.var 1) (.var 3)),
 .if_ (.and_ (.cmp .NotEq (.var 3) (.var 0)) (.cmp .NotIn (.var 3) (.var 2))) [.ret (.var 3)] []],
 .ret (.con (.str "CROWN"))]
noncomputable def b24 : List S := [.par 2 3 (.var 0) (.var 1),
 .while_ (.cmp .NotEq (.var 3) (.con (.int 0))) [.par 2 3 (.var 3) (.bin .Mod (.var 2) (.var 3))],
 .ret (.tup [(.bin .FloorDiv (.var 0) (.var 2)), (.bin .FloorDiv (.var 1) (.var 2))])]
noncomputable def b25 : List S := [.if_ (.cmp .NotEq (.blt .len [(.var 0)]) (.blt .len [(.var 1)])) [.ret (.con (.bl false))] [],
 .for_ [2] (.seq (.var 1)) [.if_ (.or_ (.cmp .NotIn (.var 2) (.var 0)) (.or_ (.not_ (.isi (.ix (.var 0) (.var 2)) [.str])) (.cmp .NotEq (.ix (.var 0) (.var 2)) (.ix (.var 1) (.var 2))))) [.ret (.con (.bl false))] []],
 .ret (.con (.bl true))]
noncomputable def b26 : List S := [.asg 1 (.lst [(.lst [])]),
 .for_ [2] (.rng [(.blt .len [(.var 0)])]) [.fresh 3 (.lst []),
 .for_ [4] (.seq (.var 1)) [.for_ [5] (.seq (.blt .sorted [(.var 0)])) [.if_ (.cmp .NotIn (.var 5) (.var 4)) [.exp (.meth .append (.var 3) [(.bin .Add (.var 4) (.lst [(.var 5)]))])] []]],
 .asg 1 (.var 3)],
 .ret (.var 1)]
noncomputable def b27 : List S := [.asg 5 (.con (.int 60)),
 .for_ [6] (.seq (.var 0)) [.asg 5 (.bin .Mult (.var 5) (.ix (.ix (.var 6) (.con (.int 0))) (.con (.int 1))))],
 .asg 7 (.con (.int 0)),
 .fresh 8 (.lst []),
 .for_ [9,10,11] (.seq (.var 0)) [.asg 12 (.bin .Mult (.ix (.var 9) (.con (.int 0))) (.bin .FloorDiv (.var 5) (.ix (.var 9) (.con (.int 1))))),
 .asg 13 (.compS [15] 1 (.var 10) [(.cmp .NotIn (.var 15) (.var 2))] (.var 15)),
 .if_ (.cmp .In (.var 1) (.var 13)) [.asg 7 (.bin .Add (.var 7) (.bin .FloorDiv (.var 12) (.blt .len [(.var 13)])))] [],
 .if_ (.cmp .Eq (.var 13) (.lst [])) [.asg 14 (.compS [15] 1 (.var 10) [(.cmp .Eq (.call 23 [(.var 15),(.var 3),(.var 4)]) (.var 1))] (.var 15)),
 .exp (.meth .append (.var 8) [(.lst [(.var 12),(.var 10),(.var 14)])])] []],
 .ret (.lst [(.var 5), (.var 7), (.var 8)])]
noncomputable def b28 : List S := [.asg 3 (.var 1),
 .freshD 4,
 .for_ [5] (.rng [(.blt .len [(.var 0)])]) [.setix (.var 4) (.ix (.var 0) (.var 5)) (.var 5)],
 .for_ [6,7,8] (.seq (.var 2)) [.asg 9 (.ix (.var 7) (.con (.int 0))),
 .for_ [10] (.seq (.var 7)) [.if_ (.cmp .Gt (.ix (.var 4) (.var 10)) (.ix (.var 4) (.var 9))) [.asg 9 (.var 10)] []],
 .if_ (.cmp .In (.var 9) (.var 8)) [.asg 3 (.bin .Add (.var 3) (.var 6))] []],
 .ret (.var 3)]
noncomputable def b29 : List S := [.asg 3 (.bin .Mod (.call 17 [(.var 0), (.con (.int 5))]) (.blt .len [(.var 1)])),
 .asg 4 (.call 17 [(.var 0),(.con (.int 6))]),
 .fresh 5 (.lst []),
 .freshD 6,
 .for_ [7] (.rng [(.blt .len [(.var 1)])]) [.asg 8 (.ix (.lst [(.cmp .NotEq (.var 7) (.var 3)),(.cmp .Eq (.var 7) (.var 3)),(.cmp .Eq (.bin .Mod (.bin .FloorDiv (.var 4) (.bin .Add (.con (.int 1)) (.bin .Mult (.con (.int 2)) (.var 7)))) (.con (.int 2))) (.con (.int 1)))]) (.bin .Mod (.call 17 [(.var 0),(.con (.int 7))]) (.con (.int 3)))),
 .if_ (.var 8) [.setix (.var 6) (.ix (.var 1) (.var 7)) (.var 2)] [],
 .if_ (.cmp .NotEq (.var 7) (.var 3)) [.asg 9 (.tup [(.ix (.var 1) (.blt .min [(.var 7),(.var 3)])),(.ix (.var 1) (.blt .max [(.var 7),(.var 3)]))]),
 .asg 10 (.tup [(.tup [(.con (.int 1)),(.con (.int 1)),(.tup [(.con (.int 1)),(.con (.int 1))]),(.tup [(.ix (.var 1) (.con (.int 0)))])])]),
 .exp (.meth .append (.var 5) [(.call 18 [(.var 10),(.bin .Add (.con (.int 2)) (.var 7)),(.bin .Add (.blt .len [(.var 5)]) (.con (.int 1))),(.tup [(.con (.int 1)),(.bin .Add (.con (.int 2)) (.var 7))]),(.var 9)])])] []],
 .ret (.lst [(.var 5), (.var 6)])]
noncomputable def b30 : List S := [.asg 21 (.bin .Add (.con (.int 2)) (.bin .Mod (.call 17 [(.var 0), (.con (.int 2))]) (.con (.int 7)))),
 .asg 1 (.ix (.lst [(.con (.int 1)),(.con (.int 21))]) (.bin .Mod (.call 17 [(.var 0),(.con (.int 32))]) (.con (.int 2)))),
 .asg 2 (.call 21 [(.bin .Add (.var 21) (.var 1)),(.bin .Mod (.call 17 [(.var 0),(.con (.int 3))]) (.con (.int 363))),(.bin .Mod (.call 17 [(.var 0),(.con (.int 4))]) (.con (.int 676)))]),
 .asg 23 (.sl (.var 2) none (some (.var 21))),
 .asg 3 (.blt .min [(.ix (.lst [(.con (.int 0)),(.con (.int 1)),(.con (.int 2)),(.con (.int 3)),(.con (.int 4)),(.con (.int 2)),(.con (.int 3)),(.con (.int 4)),(.con (.int 5)),(.con (.int 6))]) (.bin .Mod (.call 17 [(.var 0),(.con (.int 26))]) (.con (.int 10)))),(.var 21)]),
 .asg 4 (.call 20 [(.var 0),(.con (.int 5)),(.call 19 [(.var 0),(.and_ (.cmp .Eq (.bin .Mod (.call 17 [(.var 0),(.con (.int 1))]) (.con (.int 4))) (.con (.int 1))) (.cmp .Lt (.var 3) (.con (.int 4))))]),(.var 23)]),
 .asg 5 (.call 22 [(.var 0),(.con (.int 17)),(.var 2)]),
 .asg 22 (.sl (.sl (.var 2) (some (.var 21)) none) none (some (.bin .Mod (.call 17 [(.var 0),(.con (.int 25))]) (.bin .Add (.var 1) (.con (.int 1)))))),
 .asg 6 (.compR [24] 1 [(.var 3)] [] (.ix (.var 23) (.bin .Mod (.bin .Add (.call 17 [(.var 0),(.con (.int 28))]) (.var 24)) (.var 21)))),
 .asg 7 (.compS [24] 1 (.var 2) [(.cmp .NotIn (.var 24) (.var 22))] (.var 24)),
 .asg 8 (.ix (.var 7) (.bin .Mod (.call 17 [(.var 0),(.con (.int 27))]) (.blt .len [(.var 7)]))),
 .if_ (.and_ (.cmp .Eq (.bin .Mod (.call 17 [(.var 0),(.con (.int 1))]) (.con (.int 4))) (.con (.int 2))) (.and_ (.cmp .Gt (.var 3) (.con (.int 1))) (.cmp .NotIn (.var 8) (.var 6)))) [.unp [4,5] (.call 29 [(.var 0),(.blt .sorted [(.var 6)]),(.var 8)])] [],
 .asg 9 (.blt .list [(.var 4)]),
 .asg 10 (.blt .dict [(.var 5)]),
 .asg 11 (.ix (.lst [(.blt .list [(.var 6)]),(.blt .tuple [(.var 6)])]) (.bin .Mod (.call 17 [(.var 0),(.con (.int 31))]) (.con (.int 2)))),
 .asg 12 (.blt .list [(.var 22)]),
 .asg 13 (.call 15 [(.var 9),(.var 8),(.var 11),(.var 10),(.var 12)]),
 .if_ (.or_ (.not_ (.call 16 [(.var 9),(.var 4)])) (.or_ (.not_ (.call 25 [(.var 10),(.var 5)])) (.cmp .NotEq (.blt .list [(.var 11)]) (.var 6)))) [.ret (.con (.bl false))] [],
 .if_ (.not_ (.call 16 [(.var 12),(.var 22)])) [.ret (.con (.bl false))] [],
 .unp [14,15,16] (.call 27 [(.var 4),(.var 8),(.var 6),(.var 5),(.bin .Add (.var 22) (.var 6))]),
 .asg 17 (.neg (.con (.int 1))),
 .asg 18 (.lst []),
 .for_ [19] (.seq (.call 26 [(.var 6)])) [.asg 20 (.call 28 [(.var 19),(.var 15),(.var 16)]),
 .if_ (.cmp .Gt (.var 20) (.var 17)) [.asg 17 (.var 20),
 .asg 18 (.var 19)] []],
 .ret (.and_ (.call 16 [(.con (.int 6)), (.con (.int 6))]) (.call 16 [(.var 13), (.tup [(.blt .tuple [(.var 18)]), (.call 24 [(.var 17), (.var 14)])])]))]
noncomputable def tb:List Fn:=[⟨2,2,b0,none⟩,⟨3,5,b1,none⟩,⟨2,3,b2,none⟩,⟨2,3,b3,none⟩,⟨2,5,b4,none⟩,⟨3,3,b5,none⟩,⟨1,3,b6,none⟩,⟨2,2,b7,none⟩,⟨3,3,b8,none⟩,⟨4,8,b9,none⟩,⟨2,2,b10,none⟩,⟨3,3,b11,none⟩,⟨3,4,b12,none⟩,⟨4,5,b13,none⟩,⟨3,6,b14,none⟩,⟨5,9,b15,none⟩,⟨2,4,b16,none⟩,⟨2,2,b17,none⟩,⟨5,5,b18,none⟩,⟨2,3,b19,none⟩,⟨4,14,b20,none⟩,⟨3,10,b21,none⟩,⟨3,8,b22,none⟩,⟨3,5,b23,none⟩,⟨2,4,b24,none⟩,⟨2,3,b25,none⟩,⟨1,6,b26,none⟩,⟨5,15,b27,none⟩,⟨3,11,b28,none⟩,⟨3,11,b29,none⟩,⟨1,24,b30,none⟩]
theorem tb_eq:tbOf ds gl=tb:=by rfl
end Law
namespace Law
open PySem J
theorem laid {K:PySem.W.Frag}{mg:Str→Option Value}{h:Heap} (X:K.In h) (G:h.Ns mainGlobals mg)  {ti0:Tok}{ca1:Addr}{cod1:Option Addr}{cn1:Nat}{csl1:Array (Option Value)}{ti1_0 ti1_1:Tok}{ti2:Tok}
  (D0:Qa3 K mg d0)
  (D1:Qa3 K mg d1)
  (D2:Qa3 K mg d2)
  (D3:Qa3 K mg d3)
  (D4:Qa3 K mg d4)
  (D5:Qa3 K mg d5)
  (D6:Qa3 K mg d6)
  (D7:Qa3 K mg d7)
  (D8:Qa3 K mg d8)
  (D9:Qa3 K mg d9)
  (D10:Qa3 K mg d10)
  (D11:Qa3 K mg d11)
  (D12:Qa3 K mg d12)
  (D13:Qa3 K mg d13)
  (D14:Qa3 K mg d14)
  (D15:Qa3 K mg d15)
  (D16:Qa3 K mg d16)
  (D17:Qa3 K mg d17)
  (D18:Qa3 K mg d18)
  (D19:Qa3 K mg d19)
  (D20:Qa3 K mg d20)
  (D21:Qa3 K mg d21)
  (D22:Qa3 K mg d22)
  (D23:Qa3 K mg d23)
  (D24:Qa3 K mg d24)
  (D25:Qa3 K mg d25)
  (D26:Qa3 K mg d26)
  (D27:Qa3 K mg d27)
  (D28:Qa3 K mg d28)
  (D29:Qa3 K mg d29)
  (D30:Qa3 K mg d30)
  (q0:PySem.W.nsIn K mainGlobals "CROWN"=some (some (.str "CROWN" ti0)))
  (q1:PySem.W.nsIn K mainGlobals "NOUGHT"=some (some (.ref ca1))) (p1:K.lookup ca1=some ⟨.type "tuple",cod1,.seq #[.int 0 ti1_0,.int 1 ti1_1] cn1,csl1⟩)
  (q2:PySem.W.nsIn K mainGlobals "ORDER_MOST"=some (some (.int 6 ti2)))
  (z0:PySem.W.nsIn K mainGlobals "isinstance"=some none)
  (z1:PySem.W.nsIn K mainGlobals "len"=some none)
  (z2:PySem.W.nsIn K mainGlobals "list"=some none)
  (z3:PySem.W.nsIn K mainGlobals "tuple"=some none)
  (z4:PySem.W.nsIn K mainGlobals "max"=some none)
  (z5:PySem.W.nsIn K mainGlobals "min"=some none)
  (z6:PySem.W.nsIn K mainGlobals "int"=some none)
  (z7:PySem.W.nsIn K mainGlobals "bool"=some none)
  (z8:PySem.W.nsIn K mainGlobals "str"=some none)
  (z9:PySem.W.nsIn K mainGlobals "range"=some none)
  (z10:PySem.W.nsIn K mainGlobals "sorted"=some none)
  (z11:PySem.W.nsIn K mainGlobals "dict"=some none)
  (z12:PySem.W.nsIn K mainGlobals "set"=some none)
  (z13:PySem.W.nsIn K mainGlobals "all"=some none)
  (z14:PySem.W.nsIn K mainGlobals "any"=some none)
  (z15:PySem.W.nsIn K mainGlobals "zip"=some none)
  (z16:PySem.W.nsIn K mainGlobals "enumerate"=some none)
  (z17:PySem.W.nsIn K mainGlobals "reversed"=some none):∃ cl,Laid K mg cl ds gl:=by
 refine⟨(fun c=>([]:List Addr).getD c 0),Qnp (P:=Qa3 K mg) ?_,?_,?_,?_⟩
 ·simp only[ds,List.forall_mem_cons,List.forall_mem_nil,and_true,List.not_mem_nil,false_implies,implies_true]
  exact⟨D0,
   D1,
   D2,
   D3,
   D4,
   D5,
   D6,
   D7,
   D8,
   D9,
   D10,
   D11,
   D12,
   D13,
   D14,
   D15,
   D16,
   D17,
   D18,
   D19,
   D20,
   D21,
   D22,
   D23,
   D24,
   D25,
   D26,
   D27,
   D28,
   D29,
   D30⟩
 ·intro x w hx
  have m:=J.lookup_mem hx
  simp only[gl,List.mem_cons,Prod.mk.injEq,reduceCtorEq,and_false,false_or,or_false,List.not_mem_nil,Gk.con.injEq]at m
  rcases m with ⟨rfl,rfl⟩ | ⟨rfl,rfl⟩ | ⟨rfl,rfl⟩
  ·exact QlT (PySem.W.mg_of X G q0)
  ·exact QmV (is:=[0,1]) (PySem.W.mg_of X G q1) p1 (.cons ⟨_,rfl⟩ (.cons ⟨_,rfl⟩ (.nil)))
  ·exact Qms (PySem.W.mg_of X G q2)
 ·intro x hx _
  simp only[Qcu,List.mem_cons,List.not_mem_nil,or_false]at hx
  rcases hx with rfl | rfl | rfl | rfl | rfl | rfl | rfl | rfl | rfl | rfl | rfl | rfl | rfl | rfl | rfl | rfl | rfl | rfl
  ·exact PySem.W.mg_none_of X G z0
  ·exact PySem.W.mg_none_of X G z1
  ·exact PySem.W.mg_none_of X G z2
  ·exact PySem.W.mg_none_of X G z3
  ·exact PySem.W.mg_none_of X G z4
  ·exact PySem.W.mg_none_of X G z5
  ·exact PySem.W.mg_none_of X G z6
  ·exact PySem.W.mg_none_of X G z7
  ·exact PySem.W.mg_none_of X G z8
  ·exact PySem.W.mg_none_of X G z9
  ·exact PySem.W.mg_none_of X G z10
  ·exact PySem.W.mg_none_of X G z11
  ·exact PySem.W.mg_none_of X G z12
  ·exact PySem.W.mg_none_of X G z13
  ·exact PySem.W.mg_none_of X G z14
  ·exact PySem.W.mg_none_of X G z15
  ·exact PySem.W.mg_none_of X G z16
  ·exact PySem.W.mg_none_of X G z17
 ·intro x c hx
  have m:=J.lookup_mem hx
  simp[gl]at m
end Law
namespace Law
open PySem J
theorem Qia {cf:CF}{fw:Nat}{is:List Nat}{e:E}{σ σ':Qai}{h h1:Qac}{ws:List W} (ee:evE cf e σ h=.ok (.lst ws) h1) (es:Qcj is ws σ=some σ'):exS cf fw (.unp is e) σ h=.ok (.nx σ') h1:=by
 rw[exS,ee,bnd_ok]
 dsimp only
 rw[es]
noncomputable def V10:List Nat:=[0,1,2,3,4,2,3,4,5,6]
theorem V10_le:∀ k,k<10→V10.getD k 0≤6:=by decide
theorem run (ns:List Int) (hl:ns.length≤63):Qae FW (tbOf ds gl) 40 30 [.scr (ns.map W.int)] []=.ok (.bl true) []:=by
 rw[tb_eq,Qak (g:=⟨1,24,b30,none⟩) rfl rfl]
 have c:∀ (k:Nat) (h:Qac),Qae FW tb 39 17 [.scr (ns.map W.int),.int (k:Int)] h=.ok (.int (cell ns k)) h:=fun k h=>Qff (d:=38) rfl ns k h
 have pe:∀ (m how shift:Nat) (h:Qac),m≤1000→shift<100000→Qae FW tb 39 21 [nat m,nat how,nat shift] h=.ok (.lst ((ppl m how shift).map W.str)) h:=fun m how shift h hm hs=>Qhx (d:=38) rfl m how shift h hm hs
 have cn:=fun (b:Bool) (h:Qac)=>QiE (fw:=FW) (tb:=tb) (f:=19) (a:=17) rfl rfl 37 ns b h
 have md:=fun (j0 m:Nat) (P:List Str) (h:Qac)=>QhW (fw:=FW) (tb:=tb) (f:=20) (a:=17) (wi:=18) rfl rfl rfl 37 ns j0 m P h
 have wy:=fun (j0:Nat) (P:List Str) (h:Qac)=>QkQ (fw:=FW) (tb:=tb) (f:=22) (a:=17) rfl rfl 37 ns j0 P h
 have sr:=fun (L:List Str) (nm:Str) (h:Qac)=>Qk2 (fw:=FW) (tb:=tb) (f:=29) (a:=17) (wi:=18) rfl rfl rfl 37 ns L nm h
 have br:=fun (t:W) (xs:List Pt) (nm:Str) (D ks vs dn P:List Str) (h:Qac)=>Qlg (tb:=tb) (f:=15) (hr:=1) (ca:=11) (fo:=14) (st:=7) (af:=9) (hs:=10) (lo:=12) (no:=13) (wi:=0) (ha:=8) (tt:=6) (pc:=5) (l:=3) (p:=4) (g:=2) rfl rfl rfl rfl rfl rfl rfl rfl rfl rfl rfl rfl rfl rfl rfl rfl 34 t xs nm D ks vs dn P h
 have sm:∀ (w:W) (h:Qac),dep w<39→okQ w=true→Qae FW tb 39 16 [w,w] h=.ok (.bl true) h:=fun w h hd ho=>Qg2 rfl 39 w h hd ho
 have sw:=fun (ks vs:List Str) (h:Qac) (hl:ks.length=vs.length)=>Qjt (fw:=FW) (tb:=tb) (f:=25) rfl 38 ks vs h hl
 have pz:=fun (xs:List Pt) (nm:Str) (D ks vs G:List Str) (h:Qac)=>Qh3 (fw:=FW) (tb:=tb) (f:=27) (hl:=23) rfl rfl 37 xs nm D ks vs G h
 have od:=fun (t:W) (D:List Str) (h:Qac) (ht:Seq t (D.map W.str)) (hl:D.length≤6)=>QhM (fw:=FW) (tb:=tb) (f:=26) rfl 38 t D h ht hl (QfC (Qbi (a:=13) (by decide) (by decide)))
 have wo:=fun (o:List Str) (s:Nat) (zs:List Pz) (h:Qac)=>QjK (fw:=FW) (tb:=tb) (f:=28) rfl 38 o s zs h
 have lw:=fun (a b:Nat) (h:Qac) (h0:0<b) (hz:b<2 ^ 9000)=>QjG (fw:=FW) (tb:=tb) (f:=24) rfl 38 a b h (QfC hz) h0 hz
 generalize Qae FW tb 39=cf at *
 have a_:∀ (j:Nat) (σ:Qai) (h:Qac),σ[0]?=some (some (.scr (ns.map W.int)))→evE cf (.call 17 [.var 0,.con (.int (j:Int))]) σ h=.ok (.int (cell ns j)) h:=fun j σ h hs=>QlP (h:=h) (σ:=σ) (i:=0) c hs j
 obtain⟨m7,e2,h2⟩:=QaB (cell ns 2) (show 0<7 by decide)
 obtain⟨g32,e32,h32⟩:=QaB (cell ns 32) (show 0<2 by decide)
 obtain⟨how,e3,h3⟩:=QaB (cell ns 3) (show 0<363 by decide)
 obtain⟨shift,e4,h4⟩:=QaB (cell ns 4) (show 0<676 by decide)
 obtain⟨g26,e26,h26⟩:=QaB (cell ns 26) (show 0<10 by decide)
 obtain⟨g1,e1,h1⟩:=QaB (cell ns 1) (show 0<4 by decide)
 obtain⟨g31,e31,h31⟩:=QaB (cell ns 31) (show 0<2 by decide)
 let cc:Nat:=2+m7
 obtain⟨mo,emo,mo1⟩:∃ mo:Nat,(if g32=0 then nat 1 else nat 21)=nat mo∧(mo=1∨mo=21):=by
  by_cases q:g32=0
  ·rw[if_pos q];exact⟨1,rfl,.inl rfl⟩
  ·rw[if_neg q];exact⟨21,rfl,.inr rfl⟩
 let sz:Nat:=min (V10.getD g26 0) cc
 have sz6:sz≤6:=Nat.le_trans (Nat.min_le_left _ _) (V10_le g26 h26)
 have szc:sz≤cc:=Nat.min_le_right _ _
 obtain⟨m,em,m1,m60⟩:=cn (decide (g1=1)&&decide (sz<4)) []
 let P:List Str:=ppl (cc+mo) how shift
 have pl:P.length=cc+mo:=Qnq
 have p30:P.length≤30:=by rw[pl];show 2+m7+mo≤30;omega
 have pnd:P.Nodup:=ppl_nd (by omega)
 have pnm:∀ s∈P,QeF s:=fun s hs=>ppl_nm s hs
 let Q:List Str:=P.take cc
 have ql:Q.length=cc:=by show (P.take cc).length=cc;rw[List.length_take];omega
 have qP:∀ s∈Q,s∈P:=fun s hs=>List.mem_of_mem_take hs
 have qnd:Q.Nodup:=List.Nodup.sublist (List.take_sublist _ _) pnd
 obtain⟨xs0,ex0,lx0,hxs0⟩:=md 5 m Q [] m60 (by omega) (by omega) (fun s hs=>pnm s (qP s hs))
 obtain⟨ks0,vs0,ew0,wl0,wl20,wv0⟩:=wy 17 P [] (by omega) p30
 obtain⟨j25,f25,k25⟩:=QaB (cell ns 25) (show 0<mo+1 by omega)
 let dn:List Str:=(P.drop cc).take j25
 have dR:∀ s∈dn,s∈P.drop cc:=fun s hs=>List.mem_of_mem_take hs
 have dl:dn.length≤30:=by
  have:dn.length≤P.length:=Nat.le_trans (by show ((P.drop cc).take j25).length≤(P.drop cc).length;rw[List.length_take];omega) (by rw[List.length_drop];omega)
  omega
 let ix:Nat→Int:=fun k=>cell ns 28+(k:Int)
 have ixb:∀ k,((ix k).fmod (cc:Int)).toNat<cc∧(ix k).fmod (cc:Int)=(((ix k).fmod (cc:Int)).toNat:Int):=fun k=>by
  obtain⟨i,e,hi⟩:=QaB (ix k) (show 0<cc by omega)
  rw[e,Int.toNat_natCast]
  exact⟨hi,rfl⟩
 let D:List Str:=(List.range sz).map fun k=>Q.getD ((ix k).fmod (cc:Int)).toNat Qbm
 have Dl:D.length=sz:=by simp[D]
 have Dnd:D.Nodup:=by
  refine QdX qnd (fun j _=>by rw[ql];exact(ixb j).1) fun j hj k hk e=>?_
  have e':(ix j).fmod (cc:Int)=(ix k).fmod (cc:Int):=by rw[(ixb j).2,(ixb k).2,e]
  exact gap (m:=cc) (by omega) (by omega) (.inl (by simp only[ix];omega)) e'
 have DQ:∀ s∈D,s∈Q:=fun s hs=>by
  obtain⟨k,_,rfl⟩:=List.mem_map.mp hs
  have hb:=(ixb k).1
  rw[List.getD,List.getElem?_eq_getElem (by rw[ql];exact hb)]
  exact List.getElem_mem _
 have Dnm:∀ s∈D,QeF s:=fun s hs=>pnm s (qP s (DQ s hs))
 have disj:∀ s∈Q,s∉dn:=fun s hs hd=>by
  have hsp:(P.take cc++P.drop cc).Nodup:=by rw[List.take_append_drop];exact pnd
  exact(List.nodup_append.mp hsp).2.2 s hs s (dR s hd) rfl
 let Al:List Str:=P.filter fun s=>!Qa6 s dn
 have Al0:0<Al.length:=by
  have q0:Q.getD 0 Qbm∈Q:=by
   rw[List.getD,List.getElem?_eq_getElem (by omega)]
   exact List.getElem_mem _
  exact List.length_pos_of_mem (List.mem_filter.mpr ⟨qP _ q0,by rw[Qao,decide_eq_false (disj _ q0)];rfl⟩)
 obtain⟨j27,f27,k27⟩:=QaB (cell ns 27) Al0
 let nm:Str:=Al.getD j27 ""
 have nmP:nm∈P:=by
  have:nm∈Al:=by
   show Al.getD j27 ""∈Al
   rw[List.getD_eq_getElem?_getD,List.getElem?_eq_getElem k27]
   exact List.getElem_mem _
  exact(List.mem_filter.mp this).1
 let z:Option W:=some (.scr (ns.map W.int))
 let n':Option W:=none
 let σ0 (a4 a5 a9 a10 a11 a12 a13 a14 a15 a16 a17 a18 a19 a20:Option W):Qai:=[z,some (nat mo),some (.lst (P.map W.str)),some (nat sz),a4,a5,some (.lst (D.map W.str)),some (.lst (Al.map W.str)),some (.str nm),a9,a10,a11,a12,a13,a14,a15,a16,a17,a18,a19,a20,some (nat cc),some (.lst (dn.map W.str)),some (.lst (Q.map W.str))]
 show J.fin 0 (exB cf FW b30 (z::List.replicate 23 none) [])=_
 suffices H:∃ h,exB cf FW b30 (z::List.replicate 23 none) []=.ok (.ret (.bl true)) h by
  obtain⟨h,H⟩:=H
  rw[H]
  rfl
 have pre:exB cf FW b30 (z::List.replicate 23 none) []=exB cf FW (b30.drop 11) (σ0 (some (.lst (xs0.map ptW))) (some (.dic ks0 (vs0.map W.str))) n' n' n' n' n' n' n' n' n' n' n' n') []:=by
  refine(Qab (Qaf (w:=nat cc) (Qay (m:=2) Qah (Qax (C:=7) (a_ 2 _ _ rfl) Qah (by decide) e2)))).trans ?_
  refine(Qab (Qaf (w:=nat mo) ((Qi5 (Qaj (w:=nat 1)) (Qaj (w:=nat 21)) (Qax (C:=2) (a_ 32 _ _ rfl) Qah (by decide) e32) h32).trans (by rw[emo])))).trans ?_
  refine(Qab (Qaf (w:=.lst (P.map W.str)) (QaF (Qad (Qay (Qaa (i:=21) (w:=nat cc) rfl) (Qaa (i:=1) (w:=nat mo) rfl)) (Qad (Qax (C:=363) (a_ 3 _ _ rfl) Qah (by decide) e3) (Qad (Qax (C:=676) (a_ 4 _ _ rfl) Qah (by decide) e4) Qag))) (pe (cc+mo) how shift [] (by omega) (by omega))))).trans ?_
  refine(Qab (Qaf (w:=.lst (Q.map W.str)) ((QiU (us:=P.map W.str) (Qaa (i:=2) rfl) (Qaa (i:=21) (w:=nat cc) rfl) (by rw[List.length_map];omega)).trans (by rw[map_take])))).trans ?_
  refine(Qab (Qaf (w:=nat sz) (Qgb (QaS (Qb3 (xs:=V10.map nat) (Qad Qaj (Qad Qaj (Qad Qaj (Qad Qaj (Qad Qaj (Qad Qaj (Qad Qaj (Qad Qaj (Qad Qaj (Qad Qaj Qag)))))))))) (by show 10≤1000;decide)) (Qax (C:=10) (a_ 26 _ _ rfl) Qah (by decide) e26) (Qf4 (k:=g26) (t:=.lst (V10.map nat)) (w:=nat (V10.getD g26 0)) rfl (by rw[List.getElem?_map,List.getElem?_eq_getElem (show g26<V10.length from h26),List.getD_eq_getElem?_getD,List.getElem?_eq_getElem (show g26<V10.length from h26)];rfl))) (Qaa (i:=21) rfl)))).trans ?_
  refine(Qab (Qaf (w:=.lst (xs0.map ptW)) (QaF (Qad (Qaa (i:=0) rfl) (Qad Qaj (Qad (Qaq (Qaa (i:=0) rfl) (Qev (Qmm (n:=1) (Qax (C:=4) (a_ 1 _ _ rfl) Qah (by decide) e1) Qah) (QcL (QdE (n:=4) (Qaa (i:=3) rfl) Qah))) em) (Qad (Qaa (i:=23) rfl) Qag)))) ex0))).trans ?_
  refine(Qab (Qaf (w:=.dic ks0 (vs0.map W.str)) (QaF (Qad (Qaa (i:=0) rfl) (Qad Qaj (Qad (Qaa (i:=2) rfl) Qag))) ew0))).trans ?_
  refine(Qab (Qaf (w:=.lst (dn.map W.str)) ((QiU (us:=(P.drop cc).map W.str) ((QiP (us:=P.map W.str) (Qaa (i:=2) rfl) (Qaa (i:=21) (w:=nat cc) rfl) (by rw[List.length_map];omega)).trans (by rw[map_drop])) (Qax (C:=mo+1) (a_ 25 _ _ rfl) (Qay (n:=1) (Qaa (i:=1) rfl) Qah) (by omega) f25) (by rw[List.length_map,List.length_drop];omega)).trans (by rw[map_take])))).trans ?_
  refine(Qab (Qaf (h1:=[]) (w:=.lst (D.map W.str)) ?_)).trans ?_
  ·have q:=QgU (cf:=cf) (is:=[24]) (n:=1) (m:=sz) (a:=.var 3) (elt:=.ix (.var 23) (.bin .Mod (.bin .Add (.call 17 [(.var 0),(.con (.int 28))]) (.var 24)) (.var 21))) (σ:=[z,some (nat mo),some (.lst (P.map W.str)),some (nat sz),some (.lst (xs0.map ptW)),some (.dic ks0 (vs0.map W.str)),n',n',n',n',n',n',n',n',n',n',n',n',n',n',n',some (nat cc),some (.lst (dn.map W.str)),some (.lst (Q.map W.str))]) (h:=[]) (F:=fun k=>.str (Q.getD ((ix k).fmod (cc:Int)).toNat Qbm)) (Qaa (i:=3) rfl) (by omega) (fun k hk=>⟨rfl,fun hh=>?_⟩)
   ·refine q.trans ?_
    rw[List.map_map]
    rfl
   ·have hb:=(ixb k).1
    refine QeD (σ:=[z,some (nat mo),some (.lst (P.map W.str)),some (nat sz),some (.lst (xs0.map ptW)),some (.dic ks0 (vs0.map W.str)),n',n',n',n',n',n',n',n',n',n',n',n',n',n',n',some (nat cc),some (.lst (dn.map W.str)),some (.lst (Q.map W.str)),some (nat k)]) rfl (QaS (Qaa (i:=23) rfl) (Qax (C:=cc) (x:=ix k) (QbA (a_ 28 _ _ rfl) (Qaa (i:=24) rfl)) (Qaa (i:=21) rfl) (by omega) (ixb k).2) ?_)
    rw[List.getD,List.getElem?_eq_getElem (by rw[ql];exact hb)]
    exact Qf4 (t:=.lst (Q.map W.str)) rfl (by rw[List.getElem?_map,List.getElem?_eq_getElem (by rw[ql];exact hb)];rfl)
  refine(Qab (Qaf (w:=.lst (Al.map W.str)) (QbI (i:=24) (n:=1) (ss:=P) (p:=fun s=>!Qa6 s dn) (x:=.lst (P.map W.str)) (Qaa (i:=2) rfl) rfl (by omega) (fun s _ hh=>QcI (Qaa (i:=24) rfl) (Qaa (i:=22) rfl) rfl rfl) (by show 24<24+1;decide)))).trans ?_
  exact Qab (Qaf (w:=.str nm) (QaS (Qaa (i:=7) rfl) (Qax (C:=Al.length) (a_ 27 _ _ rfl) ((Qbs (x:=.lst (Al.map W.str)) (Qaa (i:=7) rfl) rfl).trans (by rw[List.length_map])) Al0 f27) (Qf4 (k:=j27) (t:=.lst (Al.map W.str)) rfl (by rw[List.getElem?_map,List.getElem?_eq_getElem k27];show _=some (W.str (Al.getD j27 ""));rw[List.getD_eq_getElem?_getD,List.getElem?_eq_getElem k27];rfl))))
 rw[pre]
 obtain⟨xs,ks,vs,hxs,lx,wl,wv,s11⟩:∃ (xs:List Pt) (ks vs:List Str),(∀ x∈xs,x.Ok∧x.hs.Nodup∧1≤x.p∧x.q≤109)∧xs.length≤60∧ks.length=vs.length∧(∀ v∈vs,v∈P)∧exS cf FW (.if_ (.and_ (.cmp .Eq (.bin .Mod (.call 17 [(.var 0),(.con (.int 1))]) (.con (.int 4))) (.con (.int 2))) (.and_ (.cmp .Gt (.var 3) (.con (.int 1))) (.cmp .NotIn (.var 8) (.var 6)))) [.unp [4,5] (.call 29 [(.var 0),(.blt .sorted [(.var 6)]),(.var 8)])] []) (σ0 (some (.lst (xs0.map ptW))) (some (.dic ks0 (vs0.map W.str))) n' n' n' n' n' n' n' n' n' n' n' n') []=.ok (.nx (σ0 (some (.lst (xs.map ptW))) (some (.dic ks (vs.map W.str))) n' n' n' n' n' n' n' n' n' n' n' n')) []:=by
  have t:=Qck (QcF (cf:=cf) (σ:=σ0 (some (.lst (xs0.map ptW))) (some (.dic ks0 (vs0.map W.str))) n' n' n' n' n' n' n' n' n' n' n' n') (h:=[]) (n:=2) (Qax (C:=4) (a_ 1 _ _ rfl) Qah (by decide) e1) Qah) (Qck (ev_gtN (n:=1) (Qaa (i:=3) (w:=nat sz) rfl) Qah) (QcI (a:=.var 8) (b:=.var 6) (x:=nm) (y:=.lst (D.map W.str)) (ss:=D) (Qaa (i:=8) rfl) (Qaa (i:=6) rfl) rfl rfl))
  by_cases q:(decide (g1=2)&&(decide (1<sz)&&!Qa6 nm D))=true
  ·rw[q]at t
   simp only[Bool.and_eq_true,decide_eq_true_eq]at q
   obtain⟨xs,ks,vs,es,l1,l2,l3,l4,l5,l6⟩:=sr (srt D) nm [] (by rw[QaO];omega) (by rw[QaO];omega) ((Qa9 D).nodup_iff.mpr Dnd) (fun s hs=>Dnm s (srt_mem.mp hs))
   rw[QaO]at l1
   refine⟨xs,ks,vs,fun x m=>⟨(l2 x m).ok,(l2 x m).nd,(l2 x m).p1,(l2 x m).q1⟩,by omega,l3,fun v hv=>by rw[l5 v hv];exact nmP,(Qea t).trans ((Qab (Qia (QaF (Qad (Qaa (i:=0) rfl) (Qad (QcY (x:=.lst (D.map W.str)) (Qaa (i:=6) rfl) rfl (by omega)) (Qad (Qaa (i:=8) rfl) Qag))) es) rfl)).trans (by rw[exB];rfl))⟩
  ·have q':(decide (g1=2)&&(decide (1<sz)&&!Qa6 nm D))=false:=by simpa using q
   rw[q']at t
   exact⟨xs0,ks0,vs0,fun x m=>⟨(hxs0 x m).1,(hxs0 x m).2.1.1 qnd,(hxs0 x m).2.2.1,(hxs0 x m).2.2.2⟩,by omega,wl0,wv0,Qbf t⟩
 let X:Option W:=some (.lst (xs.map ptW))
 let K:Option W:=some (.dic ks (vs.map W.str))
 obtain⟨row,hrow,s15⟩:∃ row,Seq row (D.map W.str)∧∀ (σ:Qai),σ[0]?=some z→σ[6]?=some (some (.lst (D.map W.str)))→evE cf (.ix (.lst [(.blt .list [(.var 6)]),(.blt .tuple [(.var 6)])]) (.bin .Mod (.call 17 [(.var 0),(.con (.int 31))]) (.con (.int 2)))) σ []=.ok row []:=by
  by_cases q:g31=0
  ·exact⟨.lst (D.map W.str),.inl rfl,fun σ z0 z4=>(Qi5 (Qdf (Qaa z4)) (Qb6 (Qaa z4)) (Qax (C:=2) (a_ 31 _ _ z0) Qah (by decide) e31) h31).trans (by rw[if_pos q])⟩
  ·exact⟨.tup (D.map W.str),.inr rfl,fun σ z0 z4=>(Qi5 (Qdf (Qaa z4)) (Qb6 (Qaa z4)) (Qax (C:=2) (a_ 31 _ _ z0) Qah (by decide) e31) h31).trans (by rw[if_neg q])⟩
 let nx:Str→Option Str:=nxS ks vs
 let o:List Str:=QdC nx xs nm D dn
 let sc:Nat:=QaC xs 60
 let zs:List Pz:=Qba (fun s=>Qbe nx (fun y=>Qa6 y (dn++D)) s 31 s) nm D sc xs
 let S:Nat:=QcB nm D sc xs 0
 have bv:=QkT (nx:=nx) (P:=P) (xs:=xs) (nm:=nm) (D:=D) (dn:=dn) p30 (fun a b e=>wv b (Qep e)) (fun hc=>QjV (QjU _ hc) rfl) (fun x m=>⟨(hxs x m).1,(hxs x m).2.1⟩) Dnd (fun s hs=>⟨qP s (DQ s hs),disj s (DQ s hs)⟩)
 have fnd:=br row xs nm D ks vs dn P [] hrow Dnd (by omega) (fun s hs=>qP s (DQ s hs)) p30 wv wl (fun x m=>(hxs x m).1) lx (by omega) (fun e m=>by
  obtain⟨x,mx,rfl⟩:=List.mem_map.mp m
  obtain⟨ok,_,_,q109⟩:=hxs x mx
  obtain⟨b1,b2⟩:=bv.2 x mx
  refine⟨ok.q0,Nat.lt_of_le_of_lt ok.p1 (by decide),b1,Nat.lt_of_le_of_lt (Nat.mul_le_mul q109 (Nat.le_trans b2 ok.h1)) (by decide)⟩)
 rw[bv.1]at fnd
 let R:W:=.tup [QaE o,shp (low (S+mxM zs) sc)]
 obtain⟨sc0,scb⟩:=Qc1 xs 60 6 (fun x m=>(hxs x m).1) (by decide) (by decide)
 have okH:okQ (.lst (xs.map ptW))=true∧dep (.lst (xs.map ptW))<39:=by
  have a:∀ w∈xs.map ptW,okQ w=true∧dep w≤7:=fun w hw=>by
   obtain⟨y,hy,rfl⟩:=List.mem_map.mp hw
   exact pt_ok (hxs y hy).1
  have b:=Qhj fun w hw=>(a w hw).1
  have c':=Qhh (n:=7) fun w hw=>(a w hw).2
  have hl':xs.length≤100000:=by omega
  constructor
  ·simp[okQ,b,hl']
  ·rw[dep];omega
 have okG:okQ (.lst (dn.map W.str))=true∧dep (.lst (dn.map W.str))<39:=by
  have hl':dn.length≤100000:=by omega
  constructor
  ·simp[okQ,Qcn,hl']
  ·simp[dep,Qcw]
 let σB (a17 a18 a19 a20:Option W):Qai:=σ0 X K X K (some row) (some (.lst (dn.map W.str))) (some R) (some (nat sc)) (some (nat S)) (some (.lst (zs.map pzW))) a17 a18 a19 a20
 have mid:exB cf FW (b30.drop 11) (σ0 (some (.lst (xs0.map ptW))) (some (.dic ks0 (vs0.map W.str))) n' n' n' n' n' n' n' n' n' n' n' n') []=exB cf FW (b30.drop 22) (σB (some (.int (-1))) (some (QaX [])) n' n') []:=by
  refine(Qab s11).trans ?_
  refine(Qab (Qaf (Qdf (Qaa (i:=4) rfl)))).trans ?_
  refine(Qab (Qaf (Qm2 (Qaa (i:=5) rfl)))).trans ?_
  refine(Qab (Qaf (s15 _ rfl rfl))).trans ?_
  refine(Qab (Qaf (Qdf (Qaa (i:=22) rfl)))).trans ?_
  refine(Qab (Qaf (QaF (Qad (Qaa (i:=9) rfl) (Qad (Qaa (i:=8) rfl) (Qad (Qaa (i:=11) rfl) (Qad (Qaa (i:=10) rfl) (Qad (Qaa (i:=12) rfl) Qag))))) fnd))).trans ?_
  refine(Qab (Qbf (Qcr (h1:=[]) (QbF (b:=true) (Qa5 (Qaq (Qaa (i:=9) rfl) (Qaa (i:=4) rfl) (sm _ [] okH.2 okH.1)))) (Qcr (h1:=[]) (QbF (b:=true) (Qa5 (Qaq (Qaa (i:=10) rfl) (Qaa (i:=5) rfl) (sw ks vs [] wl)))) ((ev_neL (QgB (Qaa (i:=11) rfl) hrow) (Qaa (i:=6) rfl) Dnm Dnm).trans (by rw[decide_eq_true rfl];rfl)))))).trans ?_
  refine(Qab (Qbf (QbF (b:=true) (Qa5 (Qaq (Qaa (i:=12) rfl) (Qaa (i:=22) rfl) (sm _ [] okG.2 okG.1)))))).trans ?_
  have pzr:=pz xs nm D ks vs (dn++D) [] (fun x m=>(hxs x m).1) lx
  refine(Qab (Qia (QaF (Qad (Qaa (i:=4) rfl) (Qad (Qaa (i:=8) rfl) (Qad (Qaa (i:=6) rfl) (Qad (Qaa (i:=5) rfl) (Qad ((Qe3 (us:=dn.map W.str) (vs:=D.map W.str) (Qaa (i:=22) rfl) (Qaa (i:=6) rfl) (by rw[List.length_map,List.length_map];omega)).trans (by rw[← List.map_append])) Qag))))) pzr) rfl)).trans ?_
  refine(Qab (Qaf Qnz)).trans ?_
  exact Qab (Qaf (Qb3 Qag (by decide)))
 rw[mid]
 have Dn:(srt D).Nodup:=(Qa9 D).nodup_iff.mpr Dnd
 have lp:∀ (os:List (List Str)) (p:Int×List Str) (r19 r20:Option W),(∀ u∈os,u∈Qcg (srt D) D.length)→∃ b19 b20,fo [19] (exB cf FW [.asg 20 (.call 28 [(.var 19),(.var 15),(.var 16)]),.if_ (.cmp .Gt (.var 20) (.var 17)) [.asg 17 (.var 20),.asg 18 (.var 19)] []]) (os.map QaX) (σB (some (.int p.1)) (some (QaX p.2)) r19 r20) []=.ok (.nx (σB (some (.int (QdA (fun u=>(QaV u zs S:Int)) os p).1)) (some (QaX (QdA (fun u=>(QaV u zs S:Int)) os p).2)) b19 b20)) []:=fun os=>by
  induction os with
  |nil=>intro p r19 r20 _;exact⟨r19,r20,by rw[List.map_nil,fo];rfl⟩
  |cons u os ih =>
   intro p r19 r20 hu
   obtain⟨u1,u2⟩:=Qeq Dn (by rw[QaO];exact hu u List.mem_cons_self)
   have wr:=wo u S zs [] u1 (by rw[(Qb9 (hu u List.mem_cons_self)).2.2];omega) (fun y hy=>by
    obtain⟨x,mx,rfl⟩:=List.mem_map.mp hy
    obtain⟨mx,ml⟩:=List.mem_filter.mp mx
    exact⟨(hxs x mx).1.h0,fun s hs=>(u2 s).mpr (srt_mem.mpr (left_nil.mp (of_decide_eq_true ml) s hs))⟩)
   have eb:QaG [19] (QaX u) (σB (some (.int p.1)) (some (QaX p.2)) r19 r20)=some (σB (some (.int p.1)) (some (QaX p.2)) (some (QaX u)) r20):=rfl
   have f1:exS cf FW (.asg 20 (.call 28 [(.var 19),(.var 15),(.var 16)])) (σB (some (.int p.1)) (some (QaX p.2)) (some (QaX u)) r20) []=.ok (.nx (σB (some (.int p.1)) (some (QaX p.2)) (some (QaX u)) (some (nat (QaV u zs S))))) []:=Qaf (QaF (Qad (Qaa (i:=19) rfl) (Qad (Qaa (i:=15) rfl) (Qad (Qaa (i:=16) rfl) Qag))) wr)
   have t1:evT cf (.cmp .Gt (.var 20) (.var 17)) (σB (some (.int p.1)) (some (QaX p.2)) (some (QaX u)) (some (nat (QaV u zs S)))) []=.ok (decide (p.1<(QaV u zs S:Int))) []:=Qhd (Qaa (i:=20) rfl) (Qaa (i:=17) rfl)
   rw[QdA]
   by_cases q:p.1<(QaV u zs S:Int)
   ·rw[decide_eq_true q]at t1
    obtain⟨b19,b20,e⟩:=ih ((QaV u zs S:Int),u) (some (QaX u)) (some (nat (QaV u zs S))) (fun v hv=>hu v (List.mem_cons_of_mem _ hv))
    refine⟨b19,b20,?_⟩
    rw[List.map_cons,QaP eb ((Qab f1).trans ((Qab ((Qea t1).trans ((Qab (Qaf (Qaa (i:=20) rfl))).trans ((Qab (Qaf (Qaa (i:=19) rfl))).trans (by rw[exB]))))).trans (by rw[exB]))),if_pos q]
    exact e
   ·rw[decide_eq_false q]at t1
    obtain⟨b19,b20,e⟩:=ih p (some (QaX u)) (some (nat (QaV u zs S))) (fun v hv=>hu v (List.mem_cons_of_mem _ hv))
    refine⟨b19,b20,?_⟩
    rw[List.map_cons,QaP eb ((Qab f1).trans ((Qab (Qbf t1)).trans (by rw[exB]))),if_neg q]
    exact e
 obtain⟨b19,b20,lp⟩:=lp (Qcg (srt D) D.length) (-1,[]) n' n' (fun u hu=>hu)
 rw[Qji (nx:=nx) (xs:=xs) (nm:=nm) (D:=D) (dn:=dn) (sc:=sc) (sure:=S) (zs:=zs) rfl Dnd (fun x m=>(hxs x m).1.h0) (fun x m=>by
  obtain⟨k,ek⟩:=Qey xs 60 x m
  unfold QfM
  refine Nat.mul_pos (hxs x m).2.2.1 ?_
  show 0<QaC xs 60 / x.q
  have kp:0<60*k:=Nat.pos_of_ne_zero fun z=>by rw[ek,z,Nat.mul_zero]at sc0;exact absurd sc0 (by decide)
  rw[ek,Nat.mul_div_cancel_left _ (hxs x m).1.q0]
  exact kp)]at lp
 have odr:=od (.lst (D.map W.str)) D [] (.inl rfl) (by omega)
 have scz:sc<2 ^ 9000:=Nat.lt_of_lt_of_le scb (Nat.pow_le_pow_right (by decide) (by omega))
 have lwr:=lw (S+mxM zs) sc [] sc0 scz
 refine⟨[],(Qab ((Qca (t:=.lst ((Qcg (srt D) D.length).map QaX)) (Qg6 (Qaa (i:=6) rfl) odr) (.inl rfl)).trans lp)).trans (Qal (Qa2 ?_))⟩
 have oz:o.length≤100000:=by
  have:=(Qb9 (QeE (won:=Qi1 xs D (frM nx (dn++D) nm D)) (F:=frM nx (dn++D) nm D) Dn (Qhu fun s m=>srt_mem.mpr (List.mem_filter.mp m).1) (k:=D.length) (by rw[QaO];exact Nat.le_refl _))).2.2
  have:o.length=D.length:=this
  omega
 refine Qev (x:=true) (y:=true) (Qaq Qaj Qaj (sm (.int 6) [] (by decide) (by decide))) (Qaq (Qaa (i:=13) (w:=R) rfl) (QaI (QaL (Qb6 (us:=o.map W.str) (Qaa (i:=18) rfl)) (Qaq (Qaa (i:=17) rfl) (Qaa (i:=14) rfl) lwr)) (by show 2≤1000;decide)) (sm R [] ?_ ?_))
 ·simp[R,dep,QcX,Qcw]
 ·simp[R,okQ,Qdh,Qcn,oz]
end Law
namespace PySem.W.Fast
def tw3807423783899868416:=0
def tw5590231503428494688:=0
def tw7858274223058476512:=0
def tw6738923125734051456:=0
def tw6137779728105897920:=0
def tw15695388088155733121:=0
def tw11295152421568621953:=0
def tw11366840408304404929:=0
def tw17829541607157170657:=0
def tw11311838705964769:=0
def tw5774467583936359426:=0
def tw13047084030956649506:=0
def tw15368798819093033186:=0
def tw7524056495259079906:=0
def tw14541089514904856194:=0
def tw14408296953778787106:=0
def tw5042993151752574115:=0
def tw2804845122657350947:=0
def tw4895154423660597635:=0
def tw1554828602650713475:=0
def tw13550356914011740739:=0
def tw6638466396946956963:=0
def tw637273500409483203:=0
def tw7123875557756985604:=0
def tw14156125061283107076:=0
def tw17855321311343449444:=0
def tw13664651612015204836:=0
def tw13076867495117177604:=0
def tw16688740533433969701:=0
def tw4902964011452825765:=0
def tw17087193918362778885:=0
def tw9997340992532047333:=0
def tw12501020009959758501:=0
def tw1072139548048633541:=0
def tw7128823192637499301:=0
def tw4773710437266925541:=0
def tw18256008172843906086:=0
def tw2759290743280452774:=0
def tw16195355926535798310:=0
def tw9991565767299338886:=0
def tw4264524376432465670:=0
def tw3558107492304155430:=0
def tw817280356828108614:=0
def tw6279843105485316934:=0
def tw16207662429644017638:=0
def tw4213100777209344039:=0
def tw3294730549713576135:=0
def tw4554400384243272999:=0
def tw8756891190890470919:=0
def tw8751615920254845511:=0
def tw8689277283922355911:=0
def tw16577247734761923399:=0
def tw3265516191403495720:=0
def tw14318632825341293064:=0
def tw14986137849171049545:=0
def tw12667701460188876265:=0
def tw13751674055847456265:=0
def tw10225031133223617097:=0
def tw16163453345850499689:=0
def tw10572063591375440521:=0
def tw6489043742156666569:=0
def tw17714628058775083785:=0
def tw1214728057165355945:=0
def tw5796453903622454314:=0
def tw6437728529068801194:=0
def tw8328416872391691498:=0
def tw7855175212181591306:=0
def tw14337204308742086922:=0
def tw8360240058724361674:=0
def tw138330597904455114:=0
def tw6201231025709279818:=0
def tw11502625330018930474:=0
def tw15753225513814938859:=0
def tw4920278070069337547:=0
def tw7107024612287234539:=0
def tw17916537012308198123:=0
def tw17834051721842996268:=0
def tw5110636342865346636:=0
def tw6782775147339208812:=0
def tw18067322165994441964:=0
def tw10143590436277139884:=0
def tw12025311161585054316:=0
def tw3048452546755028716:=0
def tw5804727852221356844:=0
def tw12532402894259596140:=0
def tw1303645755547788365:=0
def tw17633515102688369869:=0
def tw10984020418994183917:=0
def tw15872882143553277741:=0
def tw902414453408051149:=0
def tw9541971309099803694:=0
def tw13242126364398507118:=0
def tw8641214210768038318:=0
def tw6447147895007988718:=0
def tw8444813542989047855:=0
def tw17774188088343952463:=0
def tw13884984599144067247:=0
def tw2179846450046656847:=0
def tw4503806567957511855:=0
def tw13377245940803896303:=0
def tw4062687661332490352:=0
def tw2960558699652601968:=0
def tw10445560416845077712:=0
def tw9032852255542786384:=0
def tw1802187964496575888:=0
def tw6197556108723747216:=0
def tw16965904070369529392:=0
def tw12040297449298526960:=0
def tw473543069312025520:=0
def tw5509730358211228721:=0
def tw13512849171383105681:=0
def tw2030938944430885041:=0
def tw13944466994128842001:=0
def tw16063664122423849521:=0
def tw15288323415619002993:=0
def tw962228371557325521:=0
def tw13107703331213852433:=0
def tw13778642659765367729:=0
def tw16801439173636859857:=0
def tw4715878405730043889:=0
def tw13117501525451117618:=0
def tw16673528534258523186:=0
def tw10302080128653959314:=0
def tw12663625491878160626:=0
def tw1256823700379020626:=0
def tw6827531855133898258:=0
def tw11236739243267821138:=0
def tw16368061971747989170:=0
def tw5424995671562796754:=0
def tw17406064453266773842:=0
def tw10787927709622148275:=0
def tw13218274343249992979:=0
def tw1763318100394856883:=0
def tw1911916074454943347:=0
def tw781094668027231923:=0
def tw18277450811048248147:=0
def tw12041119952077332403:=0
def tw5449205063949584339:=0
def tw9924765440925882355:=0
def tw2688828875892523124:=0
def tw5974240713272872180:=0
def tw7863517574106210740:=0
def tw17033377348812071508:=0
def tw3911817443230637940:=0
def tw10724612688855778485:=0
def tw16234772232472159765:=0
def tw8702345353179381429:=0
def tw4317629568805337845:=0
def tw8198940477521211157:=0
def tw10444078710392057621:=0
def tw13246806467481633846:=0
def tw16446944925552283798:=0
def tw2552851653318597078:=0
def tw16003789771819669206:=0
def tw8227908841393843926:=0
def tw12895778386833500279:=0
def tw7239536416189066391:=0
def tw10918947190346454231:=0
def tw14403934123921731831:=0
def tw4469046965275109655:=0
def tw5972979116167536375:=0
def tw4419076369886038775:=0
def tw15601278698085928695:=0
def tw13205342311459801911:=0
def tw29544100842342295:=0
def tw16581442991701885016:=0
def tw599419927141686424:=0
def tw4519409200604256504:=0
def tw14168208717993742648:=0
def tw1320872579304899064:=0
def tw796830121792291480:=0
def tw17021590956093624984:=0
def tw5769292190865352793:=0
def tw3391256349930345722:=0
def tw3837102172397471162:=0
def tw7772228930815155674:=0
def tw12533104845387645466:=0
def tw17610074971640628858:=0
def tw10873220047321450106:=0
def tw5366353729421453978:=0
def tw10507796327936368346:=0
def tw6913531288744791866:=0
def tw15713417830406760635:=0
def tw13553160365686982075:=0
def tw9411591445867606587:=0
def tw4754319356840027931:=0
def tw3967344940309357371:=0
def tw3207434612782020443:=0
def tw2042448942999795611:=0
def tw6396303326697401339:=0
def tw9087474567533021179:=0
def tw18431137716724439068:=0
def tw11598013845770734972:=0
def tw1527841597889153500:=0
def tw6636547115690281596:=0
def tw11972395847537403580:=0
def tw2365533114871554748:=0
def tw6431546898547523292:=0
def tw15946618932431341372:=0
def tw116555931261396924:=0
def tw9529365426766138685:=0
def tw6715254164882865629:=0
def tw1630458341351053949:=0
def tw5256497931910393565:=0
def tw3154087018294325342:=0
def tw467848834076827934:=0
def tw761011298477953470:=0
def tw13829258955561003486:=0
def tw18019261069983075679:=0
def tw5181426156490706303:=0
def tw4240628391888922079:=0
def tw14039525990031126271:=0
def tw10389276025448307487:=0
def tw4510779345428277055:=0
def tw810236966440487807:=0
def tw7211140860227409887:=0
def tw1456407609770783568:=0
def tw376485014522077767:=0
end PySem.W.Fast
open PySem PySem.W PyProof.Rows
set_option maxRecDepth 100000 in
set_option maxHeartbeats 0 in
theorem PySem.Challenge.cw_jointhold_k15_best_of_holds : PySem.Challenge.rw_jointhold_k15_best_of.Holds := by
  w_on;o_law;k_head;(case hw=>w_witness2)
  k_fill
  refine J.walk (l:=PySem.Challenge.rw_jointhold_k15_best_of) (i:=30) (df:=Law.d30) rfl rfl (fun w h Y=>PySem.W.kIn_of Y) (J.made_ok Law.made) rfl rfl rfl rfl ?L (fun ns hl=>Law.run ns hl)
  intro w mg fa h KX G hmg
  refine' Law.laid KX G (J.laid_mk KX G rfl (J.bo2 (fun _ _ _ _ _ _ _ _=>rfl) rfl) ?a0 ?l0 ?c0 ?k0) (J.laid_mk KX G rfl (J.bo3 (fun _ _ _ _ _ _ _ _ _=>rfl) rfl) ?a1 ?l1 ?c1 ?k1) (J.laid_mk KX G rfl (J.bo2 (fun _ _ _ _ _ _ _ _=>rfl) rfl) ?a2 ?l2 ?c2 ?k2) (J.laid_mk KX G rfl (J.bo2 (fun _ _ _ _ _ _ _ _=>rfl) rfl) ?a3 ?l3 ?c3 ?k3) (J.laid_mk KX G rfl (J.bo2 (fun _ _ _ _ _ _ _ _=>rfl) rfl) ?a4 ?l4 ?c4 ?k4) (J.laid_mk KX G rfl (J.bo3 (fun _ _ _ _ _ _ _ _ _=>rfl) rfl) ?a5 ?l5 ?c5 ?k5) (J.laid_mk KX G rfl (J.bo1 (fun _ _ _ _ _ _ _=>rfl) rfl) ?a6 ?l6 ?c6 ?k6) (J.laid_mk KX G rfl (J.bo2 (fun _ _ _ _ _ _ _ _=>rfl) rfl) ?a7 ?l7 ?c7 ?k7) (J.laid_mk KX G rfl (J.bo3 (fun _ _ _ _ _ _ _ _ _=>rfl) rfl) ?a8 ?l8 ?c8 ?k8) (J.laid_mk KX G rfl (J.bo4 (fun _ _ _ _ _ _ _ _ _ _=>rfl) rfl) ?a9 ?l9 ?c9 ?k9) (J.laid_mk KX G rfl (J.bo2 (fun _ _ _ _ _ _ _ _=>rfl) rfl) ?a10 ?l10 ?c10 ?k10) (J.laid_mk KX G rfl (J.bo3 (fun _ _ _ _ _ _ _ _ _=>rfl) rfl) ?a11 ?l11 ?c11 ?k11) (J.laid_mk KX G rfl (J.bo3 (fun _ _ _ _ _ _ _ _ _=>rfl) rfl) ?a12 ?l12 ?c12 ?k12) (J.laid_mk KX G rfl (J.bo4 (fun _ _ _ _ _ _ _ _ _ _=>rfl) rfl) ?a13 ?l13 ?c13 ?k13) (J.laid_mk KX G rfl (J.bo3 (fun _ _ _ _ _ _ _ _ _=>rfl) rfl) ?a14 ?l14 ?c14 ?k14) (J.laid_mk KX G rfl (J.bo5 (fun _ _ _ _ _ _ _ _ _ _ _=>rfl) rfl) ?a15 ?l15 ?c15 ?k15) (J.laid_mk KX G rfl (J.bo2 (fun _ _ _ _ _ _ _ _=>rfl) rfl) ?a16 ?l16 ?c16 ?k16) (J.laid_mk KX G rfl (J.bo2 (fun _ _ _ _ _ _ _ _=>rfl) rfl) ?a17 ?l17 ?c17 ?k17) (J.laid_mk KX G rfl (J.bo5 (fun _ _ _ _ _ _ _ _ _ _ _=>rfl) rfl) ?a18 ?l18 ?c18 ?k18) (J.laid_mk KX G rfl (J.bo2 (fun _ _ _ _ _ _ _ _=>rfl) rfl) ?a19 ?l19 ?c19 ?k19) (J.laid_mk KX G rfl (J.bo4 (fun _ _ _ _ _ _ _ _ _ _=>rfl) rfl) ?a20 ?l20 ?c20 ?k20) (J.laid_mk KX G rfl (J.bo3 (fun _ _ _ _ _ _ _ _ _=>rfl) rfl) ?a21 ?l21 ?c21 ?k21) (J.laid_mk KX G rfl (J.bo3 (fun _ _ _ _ _ _ _ _ _=>rfl) rfl) ?a22 ?l22 ?c22 ?k22) (J.laid_mk KX G rfl (J.bo3 (fun _ _ _ _ _ _ _ _ _=>rfl) rfl) ?a23 ?l23 ?c23 ?k23) (J.laid_mk KX G rfl (J.bo2 (fun _ _ _ _ _ _ _ _=>rfl) rfl) ?a24 ?l24 ?c24 ?k24) (J.laid_mk KX G rfl (J.bo2 (fun _ _ _ _ _ _ _ _=>rfl) rfl) ?a25 ?l25 ?c25 ?k25) (J.laid_mk KX G rfl (J.bo1 (fun _ _ _ _ _ _ _=>rfl) rfl) ?a26 ?l26 ?c26 ?k26) (J.laid_mk KX G rfl (J.bo5 (fun _ _ _ _ _ _ _ _ _ _ _=>rfl) rfl) ?a27 ?l27 ?c27 ?k27) (J.laid_mk KX G rfl (J.bo3 (fun _ _ _ _ _ _ _ _ _=>rfl) rfl) ?a28 ?l28 ?c28 ?k28) (J.laid_mk KX G rfl (J.bo3 (fun _ _ _ _ _ _ _ _ _=>rfl) rfl) ?a29 ?l29 ?c29 ?k29) (J.laid_mk KX G rfl (J.bo1 (fun _ _ _ _ _ _ _=>rfl) rfl) ?a30 ?l30 ?c30 ?k30)  ?q0 ?q1 ?p1 ?q2 ?z0 ?z1 ?z2 ?z3 ?z4 ?z5 ?z6 ?z7 ?z8 ?z9 ?z10 ?z11 ?z12 ?z13 ?z14 ?z15 ?z16 ?z17
  (case a0=>k_is);(case l0=>k_is);(case c0=>k_is);(case k0=>k_is)
  (case a1=>k_is);(case l1=>k_is);(case c1=>k_is);(case k1=>k_is)
  (case a2=>k_is);(case l2=>k_is);(case c2=>k_is);(case k2=>k_is)
  (case a3=>k_is);(case l3=>k_is);(case c3=>k_is);(case k3=>k_is)
  (case a4=>k_is);(case l4=>k_is);(case c4=>k_is);(case k4=>k_is)
  (case a5=>k_is);(case l5=>k_is);(case c5=>k_is);(case k5=>k_is)
  (case a6=>k_is);(case l6=>k_is);(case c6=>k_is);(case k6=>k_is)
  (case a7=>k_is);(case l7=>k_is);(case c7=>k_is);(case k7=>k_is)
  (case a8=>k_is);(case l8=>k_is);(case c8=>k_is);(case k8=>k_is)
  (case a9=>k_is);(case l9=>k_is);(case c9=>k_is);(case k9=>k_is)
  (case a10=>k_is);(case l10=>k_is);(case c10=>k_is);(case k10=>k_is)
  (case a11=>k_is);(case l11=>k_is);(case c11=>k_is);(case k11=>k_is)
  (case a12=>k_is);(case l12=>k_is);(case c12=>k_is);(case k12=>k_is)
  (case a13=>k_is);(case l13=>k_is);(case c13=>k_is);(case k13=>k_is)
  (case a14=>k_is);(case l14=>k_is);(case c14=>k_is);(case k14=>k_is)
  (case a15=>k_is);(case l15=>k_is);(case c15=>k_is);(case k15=>k_is)
  (case a16=>k_is);(case l16=>k_is);(case c16=>k_is);(case k16=>k_is)
  (case a17=>k_is);(case l17=>k_is);(case c17=>k_is);(case k17=>k_is)
  (case a18=>k_is);(case l18=>k_is);(case c18=>k_is);(case k18=>k_is)
  (case a19=>k_is);(case l19=>k_is);(case c19=>k_is);(case k19=>k_is)
  (case a20=>k_is);(case l20=>k_is);(case c20=>k_is);(case k20=>k_is)
  (case a21=>k_is);(case l21=>k_is);(case c21=>k_is);(case k21=>k_is)
  (case a22=>k_is);(case l22=>k_is);(case c22=>k_is);(case k22=>k_is)
  (case a23=>k_is);(case l23=>k_is);(case c23=>k_is);(case k23=>k_is)
  (case a24=>k_is);(case l24=>k_is);(case c24=>k_is);(case k24=>k_is)
  (case a25=>k_is);(case l25=>k_is);(case c25=>k_is);(case k25=>k_is)
  (case a26=>k_is);(case l26=>k_is);(case c26=>k_is);(case k26=>k_is)
  (case a27=>k_is);(case l27=>k_is);(case c27=>k_is);(case k27=>k_is)
  (case a28=>k_is);(case l28=>k_is);(case c28=>k_is);(case k28=>k_is)
  (case a29=>k_is);(case l29=>k_is);(case c29=>k_is);(case k29=>k_is)
  (case a30=>k_is);(case l30=>k_is);(case c30=>k_is);(case k30=>k_is)
  (case q0=>k_is)
  (case q1=>k_is);(case p1=>k_is)
  (case q2=>k_is)
  (case z0=>k_is);(case z1=>k_is);(case z2=>k_is);(case z3=>k_is);(case z4=>k_is);(case z5=>k_is);(case z6=>k_is);(case z7=>k_is);(case z8=>k_is);(case z9=>k_is);(case z10=>k_is);(case z11=>k_is);(case z12=>k_is);(case z13=>k_is);(case z14=>k_is);(case z15=>k_is);(case z16=>k_is);(case z17=>k_is)
