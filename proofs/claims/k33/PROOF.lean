import PyProof.Rows.All
import Wide.All
import OpenK.AllK
import Wide.FinOn
import Lean
import PyProof.EqAt
import PyProof.EqKinds
import PyProof.TupleCall
import PySem.Challenge.RW_jointhold_k33_whole_parts_stay
noncomputable section
theorem zD{p:Prop}(h:p:=by decide):p:=h
theorem zO{p:Prop}(h:p:=by omega):p:=h
theorem zL{p:Prop}(h:p:=by lia):p:=h
theorem zS{p:Prop}(h:p:=by simp):p:=h
abbrev zd:=@PySem.wpAny_bind
abbrev ze:=@List.getElem?_eq_some_iff
abbrev zf:=@Nat.le_trans
abbrev zj:=@List.length_map
abbrev zo:=@List.mem_cons_of_mem
abbrev zA:=@PySem.Heap.get?_push_size
abbrev zB:=@PySem.wpAny_pure
abbrev zC:=@Nat.le_refl
abbrev zE:=@List.getElem?_append_right
abbrev zF:=@if_pos
abbrev zG:=@Nat.lt_of_lt_of_le
abbrev zH:=@List.mem_of_getElem?
abbrev zI:=@Bool.and_eq_true
abbrev zJ:=@List.getElem?_append_left
abbrev zK:=@List.getElem?_eq_getElem
abbrev zM:=@List.length_append
abbrev zN:=@PySem.Heap.lt_size
abbrev zP:=@if_neg
abbrev zQ:=@List.mem_cons_self
abbrev zR:=@List.map_cons
abbrev zT:=@List.mem_singleton
abbrev zU:=@Bool.false_ne_true
abbrev zV:=@List.mem_cons
abbrev zW:=@Nat.ne_of_lt
abbrev zX:=@decide_eq_false
abbrev zY:=@List.map_append
abbrev zZ:=@List.getElem_mem
abbrev z0:=@decide_eq_true
abbrev z9:=@Option.some.inj
abbrev Za:=@List.getElem?_map
abbrev Zb:=@List.getElem?_set_self
abbrev Zc:=@List.getElem?_set_ne
abbrev Zd:=@of_decide_eq_true
abbrev Ze:=@List.mem_append
abbrev Zf:=@Nat.lt_of_le_of_lt
abbrev Zg:=@PySem.wpAny_field
abbrev Zh:=@List.mem_append_right
abbrev Zi:=@List.append_nil
abbrev Zj:=@List.exists_cons_of_length_eq_add_one
abbrev Zk:=@Option.map_eq_some_iff
abbrev Zl:=@List.mem_append_left
abbrev Zm:=@decide_eq_true_eq
abbrev Zn:=@List.length_cons
abbrev Zo:=@List.length_take
abbrev Zp:=@List.size_toArray
abbrev Zq:=@PySem.sizeLine_eq
abbrev Zr:=@List.take_succ_cons
abbrev Zs:=@List.mem_map
abbrev Zt:=@Bool.not_eq_true
abbrev Zu:=@List.length_singleton
abbrev Zv:=@PySem.wpAny_callSpecial?_slot
abbrev Zw:=@List.drop_succ_cons
abbrev Zx:=@List.mem_or_eq_of_mem_set
abbrev Zy:=@List.not_mem_nil
abbrev Zz:=@List.drop_zero
abbrev ZA:=@Nat.pow_le_pow_right
abbrev ZB:=@PySem.wpAny_setField_rec
abbrev ZC:=@PyProof.Rows.callWith_type1
abbrev ZD:=@Nat.zero_le
abbrev ZE:=@List.mem_range
abbrev ZF:=@PySem.wpAny_call_entry
abbrev ZG:=@Nat.lt_irrefl
abbrev ZH:=@PySem.wpAny_holding
abbrev ZI:=@PySem.wpAny_loadPart_at
abbrev ZJ:=@List.lookup_cons
abbrev ZK:=@List.nodup_append
abbrev ZL:=@PySem.wpAny_mono
abbrev ZM:=@List.getElem?_mapIdx
abbrev ZN:=@List.length_set
abbrev ZO:=@List.all_cons
abbrev ZP:=@decide_false
abbrev ZQ:=@List.getElem?_eq_none_iff
abbrev ZR:=@PySem.wpAny_truthy_bool
abbrev ZS:=@Nat.le_succ
abbrev ZT:=@Int.toNat_natCast
abbrev ZU:=@PySem.Heap.get?_update_self
abbrev ZV:=@Option.isSome_iff_exists
abbrev ZW:=@List.take_zero
abbrev ZX:=@Nat.ne_of_gt
abbrev ZY:=@PySem.W.of_hideAll
abbrev ZZ:=@PySem.wpAny_Call_Name_kw
abbrev Z0:=@PySem.F.called_set
abbrev Z1:=@PySem.Heap.size_push
abbrev Z2:=@PySem.wpAny_newObj_type
abbrev Z3:=@List.nodup_cons
abbrev Z4:=@List.cons_append
abbrev Z5:=@List.pairwise_cons
abbrev Z6:=@List.length_mapIdx
abbrev Z7:=@List.map_map
abbrev Z8:=@PySem.wpAny_seqItems
abbrev Z9:=@Nat.mul_pos
abbrev zza:=@Ne.symm
abbrev zzb:=@List.mem_filter
abbrev zzc:=@Nat.mod_lt
abbrev zzd:=@PySem.mem_of_lookup
abbrev zze:=@beq_eq_false_iff_ne
abbrev zzf:=@PyProof.Rows.F.plain_set_update_loop
abbrev zzg:=@PySem.wpAny_isSubtype_exc
abbrev zzh:=@List.map_congr_left
abbrev zzi:=@PySem.Heap.get?_update_other
abbrev zzj:=@List.drop_eq_nil_of_le
abbrev zzk:=@PySem.F.isi_meta_tuple
abbrev zzl:=@List.map_nil
abbrev zzm:=@List.take_length
abbrev zzn:=@List.all_eq_true
abbrev zzo:=@List.zip_cons_cons
abbrev zzp:=@Nat.mul_le_mul
abbrev zzq:=@PySem.F.slot_tuple_iterator_next
abbrev zzr:=@PySem.Obj.data_mapFields
abbrev zzs:=@PySem.F.isi_meta_bool
abbrev zzt:=@PySem.F.isi_meta_list
abbrev zzu:=@PySem.wpAny_passesOwn
abbrev zzv:=@PySem.codeAny_builtin
abbrev zzw:=@Bool.or_eq_true
abbrev zzx:=@List.any_eq_false
abbrev zzy:=@PySem.codeAny_call_builtin
abbrev zzz:=@List.append_assoc
abbrev zzA:=@PySem.wpAny_of_eq
abbrev zzB:=@List.length_range
abbrev zzC:=@PySem.F.isi_meta_int
abbrev zzD:=@PySem.F.isi_meta_str
abbrev zzE:=@PySem.wpAny_attempt
abbrev zzF:=@PySem.W.mg_of
abbrev zzG:=@PyProof.Rows.slot_tuple_getitem
abbrev zzH:=@PySem.Heap.SameBut.update
abbrev zzI:=@Nat.lt_succ_self
abbrev zzJ:=@false_and
abbrev zzK:=@Bool.not_false
abbrev zzL:=@decide_true
abbrev zzM:=@List.mem_filterMap
abbrev zzN:=@PySem.Calls.spliced_cons
abbrev zzO:=@PySem.codeAny_mono
abbrev zzP:=@Nat.lt_trans
abbrev zzQ:=@PySem.tupleKind_room_in1
abbrev zzR:=@PyProof.Rows.boot_list
abbrev zzS:=@List.take_of_length_le
abbrev zzT:=@Nat.zero_add
abbrev zzU:=@PySem.Answers.of_false_tuple
abbrev zzV:=@List.nil_append
abbrev zzW:=@List.find?_cons
abbrev zzX:=@PyProof.Rows.boot_isinstance
abbrev zzY:=@PySem.wpAny_specialOf
abbrev zzZ:=@PySem.Answers.of_true
abbrev zz0:=@Bool.not_true
abbrev zz1:=@PySem.F.slot_enumerate_next
abbrev zz2:=@PySem.Answers.of_false_list
abbrev zz3:=@List.length_filter_le
abbrev zz4:=@PySem.wpAny_pyIter_list
abbrev zz5:=@PySem.W.hideAll_none
abbrev zz6:=@Array.mem_toList_iff
abbrev zz7:=@or_false
abbrev zz8:=@PySem.Answers.of_false_int
abbrev zz9:=@PySem.Answers.of_false_str
abbrev Fg0:=PySem.W.Frag
abbrev hps0:=@PySem.Heap.get?_push_of_some
theorem obs {α β:Type _} {o:Option α} {f:α→Option β} {b:β} (h:o.bind f=some b):∃ a,o=some a∧f a=some b:=Option.bind_eq_some_iff.mp h
set_option genSizeOf false
set_option compiler.extract_closed false
set_option genSizeOf false
set_option compiler.extract_closed false
set_option Elab.async false
set_option linter.all false
set_option maxRecDepth 100000
namespace L2
open PySem PySem.Spec PyProof.Rows
abbrev cu:=Sum Int Str
def nr:cu->Value->Bool
 |.inl k,v=>Value.isInt k v
 |.inr x,v=>Value.isStrOf x v
def Oz(w:World):cu->Int
 |.inl k=>hashInt k
 |.inr x=>hashStr w x
theorem bp:∀{k:cu}{v:Value},nr k v=true->(∃i t,k=Sum.inl i/\v=Value.int i t)\/(∃x t,k=Sum.inr x/\v=Value.str x t)
 |.inl i,v,h=>by obtain⟨t,e⟩:=Value.isInt_shape   h;simp_all
 |.inr x,v,h=>by obtain⟨t,e⟩:=Value.isStrOf_shape   h;simp_all
theorem wX(i)(t):nr (.inl i) (.int i t)=true:=by simp[nr,Value.isInt]
theorem xj(x)(t):nr (.inr x) (.str x t)=true:=by simp[nr,Value.isStrOf]
theorem He(a b):decide ((Sum.inl a:cu)=Sum.inl b)=(a==b):=by grind
theorem HK(a b):decide ((Sum.inr a:cu)=Sum.inr b)=decide (a=b):=zS
theorem Gu(a)(b):decide ((Sum.inl a:cu)=Sum.inr b)=false:=zX (λq=>nomatch q)
theorem Jk(a)(b):decide ((Sum.inr a:cu)=Sum.inl b)=false:=zX (λq=>nomatch q)
noncomputable def bo(prog:Program)(w:World):PySem.KeyKind prog w cu where
 is:=nr
 hash:=Oz w
 inj:=λv a b ha hb=>by rcases bp ha with⟨i,t,rfl,rfl⟩|⟨x,t,rfl,rfl⟩;rcases bp hb with⟨j,u,rfl,e⟩|⟨y,u,rfl,e⟩;injection e with e1 _;rw[e1];exact nomatch e;rcases bp hb with⟨j,u,rfl,e⟩|⟨y,u,rfl,e⟩;exact nomatch e;injection e with e1 _;rw[e1]
 byValue:=λk v h=>by rcases bp h with⟨i,t,rfl,rfl⟩|⟨x,t,rfl,rfl⟩<;>rfl
 pyHash:=λhv h=>by rcases bp hv with⟨i,t,rfl,rfl⟩|⟨x,t,rfl,rfl⟩;exact wpAny_pyHash_int h;exact wpAny_pyHash_str h
 eqBool:=λhu hv h=>by rcases bp hu with⟨i,t,rfl,rfl⟩|⟨x,t,rfl,rfl⟩;rcases bp hv with⟨j,u,rfl,rfl⟩|⟨y,u,rfl,rfl⟩;rw[He]at h;exact wpAny_eqBool_int h;rw[Gu]at h;exact SeqAt.EqAt.int_str i t y u _ _ _ _ h;rcases bp hv with⟨j,u,rfl,rfl⟩|⟨y,u,rfl,rfl⟩;rw[Jk]at h;exact SeqAt.EqAt.str_int x t j u _ _ _ _ h;rw[HK]at h;exact wpAny_eqBool_str h
 «strs»:=λk x t v h=>by rcases bp h with⟨i,u,rfl,e⟩|⟨y,u,rfl,e⟩;exact nomatch e;injection e with e1 _;subst e1;cases v<;>rfl
theorem qG(prog)(w)(i)(t):(bo prog w).is (.inl i) (.int i t)=true:=wX i t
theorem rZ(prog)(w)(x)(t):(bo prog w).is (.inr x) (.str x t)=true:=xj x t
inductive V where
 |non|bl (b:Bool)|int (i:Int)|str (x:Str)|byt (b:Array UInt8)|flt (b:UInt64)|ref (a:Addr)|ty (n:String)
 deriving DecidableEq
def RelV:V->Value->Prop
 |.non,u=>u=Value.none
 |.bl b,u=>u=Value.bool b
 |.int i,u=>∃t,u=Value.int i t
 |.str x,u=>∃t,u=Value.str x t
 |.byt b,u=>∃t,u=Value.bytes b t
 |.flt b,u=>∃t,u=Value.float b t
 |.ref a,u=>u=Value.ref a
 |.ty n,u=>u=Value.type n
abbrev Vals:List V->List Value->Prop:=Paired RelV
theorem Vals.length(r:Vals xs us):xs.length=us.length:=Paired.length r
theorem Vals.get:∀{xs:List V}{us:List Value}{i:Nat}{x:V},Vals xs us->xs[i]?=some x->∃u,us[i]?=some u/\RelV x u
 |_,_,_,_,.nil,e=>by simp at e
 |_,_,0,_,.cons r _,e=>by simp_all
 |_,_,i+1,x,.cons _ t,e=>by obtain⟨u,h1,h2⟩:=Vals.get   t (by assumption);simp_all
theorem Vals.set(r:RelV x u):∀{xs:List V}{us:List Value} (i:Nat),Vals xs us->Vals (xs.set i x) (us.set i u)
 |_,_,_,.nil=>.nil
 |_,_,0,.cons _ t=>.cons r t
 |_,_,i+1,.cons q t=>.cons q (Vals.set r i t)
theorem Vals.append:∀{xs ys:List V}{us ws:List Value},Vals xs us->Vals ys ws->Vals (xs++ys) (us++ws)
 |_,_,_,_,.nil,s=>s
 |_,_,_,_,.cons r t,s=>.cons r (Vals.append t s)
theorem Vals.take:∀{xs:List V}{us:List Value} (n:Nat),Vals xs us->Vals (xs.take n) (us.take n)
 |_,_,0,_=>.nil
 |_,_,_+1,.nil=>.nil
 |_,_,n+1,.cons r t=>.cons r (Vals.take n t)
theorem Vals.drop:∀{xs:List V}{us:List Value} (n:Nat),Vals xs us->Vals (xs.drop n) (us.drop n)
 |_,_,0,r=>r
 |_,_,_+1,.nil=>.nil
 |_,_,n+1,.cons _ t=>Vals.drop n t
def gv:Option V->Option Value->Prop
 |some v,some u=>RelV v u
 |none,none=>True
 |_,_=>False
def KV{κ:Type}:List (κ×V)->List (κ×Value)->Prop:=Paired λ(p:κ×V) (q:κ×Value)=>p.1=q.1/\RelV p.2 q.2
def kV:cu->V
 |.inl i=>.int i
 |.inr x=>.str x
inductive HO where
 /-- a list -/
 |lst (xs:List V)
 /-- a tuple (never changes) -/
 |tup (xs:List V)
 /-- a dict whose keys are ints and texts;one whose keys are tuples of ints and texts (the empty one is both) -/
 |dK (kvs:List (cu×V))|dT (kvs:List (List cu×V))
 /-- a set of ints: its members,its size -/
 |set (S:Int->Bool) (n:Nat)
 /-- an instance of the class at C,its dict at dx,its attributes -/
 |ins (C dx:Addr) (fs:List (Str×V))
 /-- the dict of the instance at x -/
 |own (x:Addr)
 /-- the dict of an exception -/
 |xd (fs:List (Str×V))
 /-- a bound method,f of x -/
 |met (f x:Addr)
 /-- a range object lo,lo+1,.. below hi -/
 |rng (lo hi:Int)
 /-- a thing that is known to the object (the script;a dict while a loop walks it): read,never written while it is so -/
 |frz (o:Obj) (u:HO)
 /-- a code object's table -/
 |tbl (ps:Array Value)
 /-- any other thing,by what is true of its one object (a def of one's own: SetO a S n:=HO.ext λh=>..) -/
 |ext (φ:Heap->Prop)
abbrev Hp:=Addr->Option HO
def aY(H:Hp)(a:Addr)(o:HO):Hp:=λb=>if b=a then some o else H b
theorem aI:aY H a o a=some o:=by unfold aY;grind
theorem aB(h:b≠a):aY H a o b=H b:=by unfold aY;grind
theorem D6:aY (aY H a o) a u=aY H a u:=by unfold aY;grind
theorem MF{H:Hp}(h:H a=some o)(h':H b=some u)(d:o≠u):a≠b:=by intro e;subst e;rw[h]at h';exact d (z9 h')
theorem ba{H:Hp}(h:H a=some o)(h':H b=none):a≠b:=by grind
section
variable (P:Program) (w:World)
def cx(H:Hp)(h:Heap)(a:Addr):HO->Prop
 |.lst xs=>xs.length<=sizeLine/\∃(its:List Value) (n:Nat),Vals xs its/\h.get? a=some { cls:=.type "list",data:=.seq its.toArray n }
 |.tup xs=>xs.length<=sizeLine/\∃its:List Value,Vals xs its/\IsTup h a its.toArray
 |.dK kvs=>kvs.length<=sizeLine/\(a==sysModules)=false/\∃vs,KV kvs vs/\h.DictOf (bo P w) a vs
 |.dT kvs=>kvs.length<=sizeLine/\(a==sysModules)=false/\∃xs:List (List cu×Addr×Value),
  Paired (λ(p:List cu×V) (q:List cu×Addr×Value)=>p.1=q.1/\H q.2.1=some (.tup (p.1.map kV))/\RelV p.2 q.2.2) kvs xs /\
  ∃o es ep,h.get? a=some o/\o.ExactDict/\o.data=.dict es ep/\es.toList=xs.map (entryOfKey (tupleKind (bo P w)))/\(xs.map (·.1)).Nodup
 |.set S n=>h.SetOf (intKind P w) a S n
 |.ins C dx fs=>H dx=some (.own a)/\fs.length<=1000/\dx≠a/\h.get? a=some (PySem.W.instObj C dx) /\
  ∃mA,h.Ns1 dx mA/\(∀f,gv (fs.lookup f) (mA f))/\PySem.Within mA (fs.map (·.1))
 |.own _=>∃o,h.get? a=some o
 |.xd fs=>∃mA,h.Ns1 a mA/\∀f,gv (fs.lookup f) (mA f)
 |.rng lo hi=>∃t u v,h.get? a=some { cls:=.type "range",data:=.fields #[.int lo t,.int hi u,.int 1 v] }
 |.frz o u=>h.get? a=some o/\cx H h a u
 |.tbl ps=>h.get? a=some { cls:=.none,data:=.fields ps }
 |.met f x=>h.get? a=some (PySem.W.methodObj (.ref f) (.ref x))
 |.ext φ=>φ h/\(∃o,h.get? a=some o)/\∀h1 h2:Heap,φ h1->(∀o,h1.get? a=some o->h2.get? a=some o)->φ h2
def eV(H:Hp)(h:Heap):Prop:=∀a o,H a=some o->cx P w H h a o
end
section
variable {P:Program}{w:World}{H H':Hp}{h h':Heap}{a:Addr}{o:HO}
theorem cx.lt(x:cx P w H h a o):a<h.objs.size:=by
 cases o with
 |lst xs=>obtain⟨_,_,_,_,e⟩:=x;exact zN e
 |tup xs=>obtain⟨_,_,_,p⟩:=x;exact p.lt
 |dK kvs=>obtain⟨_,_,_,_,o,_,_,e,_⟩:=x;exact zN e
 |dT kvs=>obtain⟨_,_,_,_,o,_,_,e,_⟩:=x;exact zN e
 |set S n=>obtain⟨o,_,_,_,e,_⟩:=x;exact zN e
 |ins C dx fs=>obtain⟨_,_,_,e,_⟩:=x;exact zN e
 |own y=>obtain⟨_,e⟩:=x;exact zN e
 |xd fs=>obtain⟨_,⟨_,_,_,e,_⟩,_⟩:=x;exact zN e
 |rng lo hi=>obtain⟨_,_,_,e⟩:=x;exact zN e
 |frz ob u=>obtain⟨e,_⟩:=x;exact zN e
 |tbl ps=>exact zN (x)
 |met f y=>exact zN (show h.get? a=some _ from x)
 |ext φ=>obtain⟨_,⟨_,e⟩,_⟩:=x;exact zN e
theorem Paired.mapP:∀{l₁:List α}{l₂:List β},Paired F l₁ l₂->(∀a b,F a b->G a b)->Paired G l₁ l₂
 |_,_,.nil,_=>.nil
 |_,_,.cons r t,f=>.cons (f _ _ r) (Paired.mapP t f)
theorem cx.stay(x:cx P w H h a o)(k:∀b u,(b=a\/H b=some (.own a))->h.get? b=some u->h'.get? b=some u)
  (ho:∀b,H b=some (.own a)->H' b=some (.own a)) (ht:∀b xs,H b=some (.tup xs)->H' b=some (.tup xs)):cx P w H' h' a o:=by
 induction o with
 |lst xs=>obtain⟨z,its,n,r,e⟩:=x;exact⟨z,its,n,r,k _ _ (.inl rfl) e⟩
 |tup xs=>obtain⟨z,its,r,ob,e,c⟩:=x;exact⟨z,its,r,ob,k _ _ (.inl rfl) e,c⟩
 |dK kvs=>obtain⟨z,y,vs,r,ob,es,ep,e,c⟩:=x;exact⟨z,y,vs,r,ob,es,ep,k _ _ (.inl rfl) e,c⟩
 |dT kvs =>
  obtain⟨z,y,xs,r,ob,es,ep,e,c⟩:=x
  exact⟨z,y,xs,Paired.mapP r λp q z=>⟨z.1,ht _ _ z.2.1,z.2.2⟩,ob,es,ep,k _ _ (.inl rfl) e,c⟩
 |set S n=>obtain⟨ob,es,ep,t,e,c⟩:=x;exact⟨ob,es,ep,t,k _ _ (.inl rfl) e,c⟩
 |ins C dx fs =>
  obtain⟨d,z,ne,e,mA,⟨od,es,ep,e2,c⟩,r⟩:=x
  exact⟨ho _ d,z,ne,k _ _ (.inl rfl) e,mA,⟨od,es,ep,k _ _ (.inr d) e2,c⟩,r⟩
 |own y=>obtain⟨ob,e⟩:=x;exact⟨ob,k _ _ (.inl rfl) e⟩
 |xd fs=>obtain⟨mA,⟨od,es,ep,e,c⟩,r⟩:=x;exact⟨mA,⟨od,es,ep,k _ _ (.inl rfl) e,c⟩,r⟩
 |rng lo hi=>obtain⟨t,u,v,e⟩:=x;exact⟨t,u,v,k _ _ (.inl rfl) e⟩
 |frz ob u ih=>obtain⟨e,q⟩:=x;exact⟨k _ _ (.inl rfl) e,ih q⟩
 |tbl ps =>
  have e:h.get? a=some { cls:=.none,data:=.fields ps }:=x
  show h'.get? a=some { cls:=.none,data:=.fields ps }
  exact k a _ (.inl rfl) e
 |met f y =>
  have e:h.get? a=some (PySem.W.methodObj (.ref f) (.ref y)):=x
  show h'.get? a=some (PySem.W.methodObj (.ref f) (.ref y))
  exact k a _ (.inl rfl) e
 |ext φ=>obtain⟨p,⟨o,e⟩,st⟩:=x;exact⟨st _ _ p λo q=>k _ _ (.inl rfl) q,⟨o,k _ _ (.inl rfl) e⟩,st⟩
theorem eV.lt(x:eV P w H h)(e:H a=some o):a<h.objs.size:=(x a o e).lt
theorem eV.fresh(x:eV P w H h)(e:h.objs.size<=a):H a=none:=by
 cases q:H a with
 |none=>rfl
 |some u=>exact absurd (zG (x.lt q) e) (ZG _)
theorem eV.kept(x:eV P w H h)(k:∀b u,h.get? b=some u->h'.get? b=some u):eV P w H h':=λa o e =>
 (x a o e).stay (λb u _ q=>k b u q) (λ_ q=>q) λ_ _ q=>q
theorem eV.laid(x:eV P w H h)(k:∀b u,h.get? b=some u->h'.get? b=some u)(hp:h.objs.size<=a)(new:cx P w (aY H a o) h' a o):eV P w (aY H a o) h':=λb u e=>by have hn:=x.fresh hp;by_cases hb:b=a;subst hb;rw[aI]at e;cases e;exact new;rw[aB hb]at e;exact(x b u e).stay (λc v _ q=>k c v q) (λc q=>by rw[aB (ba q hn)];exact q) λc xs q=>by rw[aB (ba q hn)];exact q
end
def Rd(H:Hp)(a:Addr)(u:HO):Prop:=H a=some u\/∃o,H a=some (.frz o u)
theorem Rd.ok(r:Rd H a u)(x:eV P w H h):cx P w H h a u:=by
 rcases r with r|⟨o,r⟩
 ·exact x a u r
 ·obtain⟨_,q⟩:=x a _ r
  lia
def Ku:Option HO->Prop
 |some (.lst _)=>True
 |some (.dK _)=>True
 |some (.dT _)=>True
 |some (.set _ _)=>True
 |some (.ins _ _ _)=>True
 |some (.ext _)=>True
 |_=>False
section
variable {P:Program}{w:World}{H:Hp}{h h':Heap}{x e:Addr}{o':HO}
theorem eV.write(ok:eV P w H h)(mu:Ku (H x))(he:e=x\/H e=some (.own x))(k:∀b u,b≠e->h.get? b=some u->h'.get? b=some u)(heo:∃u,h'.get? e=some u)
  (new:cx P w (aY H x o') h' x o'):eV P w (aY H x o') h':=λb u q=>by
 have nown:∀c y,H c=some (.own y)->c≠x:=λc y r z=>by subst z;rw[r]at mu;exact mu
 have ntup:∀c xs,H c=some (.tup xs)->c≠x:=λc xs r z=>by subst z;rw[r]at mu;exact mu
 by_cases hb:b=x
 ·subst hb;rw[aI]at q;cases q;exact new
 ·rw[aB hb]at q
  by_cases hbe:b=e
  ·have q':H b=some (.own x):=by rcases he with z|z;exact absurd (hbe.trans z) hb;rw[hbe];exact z
   rw[q]at q';cases q'
   obtain⟨v,hv⟩:=heo
   exact⟨v,by rw[hbe];exact hv⟩
  ·refine(ok b u q).stay (λc v hc r=>k c v ?_ r) (λc r=>by rw[aB (nown c b r)];exact r) λc xs r=>by rw[aB (ntup c xs r)];exact r
   rcases hc with rfl|hc
   ·exact hbe
   ·rintro rfl
    rcases he with z|z
    ·exact nown c b hc z
    ·rw[hc]at z;cases z;exact hb rfl
end
structure Un (fs ex:List Addr) (H H':Hp) (h h':Heap):Prop where
 keep:∀b o,h.get? b=some o->H b=none->b∉fs->b∉ex->h'.get? b=some o
 slot:∀b o,h.get? b=some o->H b=none->b∈fs->b∉ex->∃sl,h'.get? b=some { o with slots:=sl }
 free:∀b o,h.get? b=some o->H b=none->b∉ex->H' b=none
 there:∀b o,h.get? b=some o->b∉ex->∃o',h'.get? b=some o'
 tups:∀b xs,H b=some (.tup xs)->H' b=some (.tup xs)
 frzs:∀b o u,H b=some (.frz o u)->H' b=some (.frz o u)
 tbls:∀b ps,H b=some (.tbl ps)->∃more,H' b=some (.tbl (ps++more))
section
variable {fs fs' ex ex':List Addr}{H H1 H2:Hp}{h h1 h2 h':Heap}{a x e:Addr}{o:HO}
theorem Un.any(u:Un fs ex H H1 h h1)(q:h.get? b=some ob)(n:H b=none)(hx:b∉ex):∃sl,h1.get? b=some { ob with slots:=sl }:=by by_cases hb:b∈fs;exact u.slot b ob q n hb hx;exact⟨ob.slots,u.keep b ob q n hb hx⟩
theorem Un.kept(k:∀b u,h.get? b=some u->h'.get? b=some u):Un fs ex H H h h' :=
 ⟨λb ob q _ _ _=>k b ob q,λb ob q _ _ _=>⟨ob.slots,k b ob q⟩,λ_ _ _ n _=>n,λb ob q _=>⟨ob,k b ob q⟩,λ_ _ q=>q,λ_ _ _ q=>q,λ_ ps q=>⟨#[],by simp_all⟩⟩
theorem Un.refl:Un fs ex H H h h:=Un.kept λ_ _ q=>q
theorem Un.laid(k:∀b u,h.get? b=some u->h'.get? b=some u)(hp:h.objs.size<=a)(hn:H a=none):Un fs ex H (aY H a o) h h' where
 keep:=λb u q _ _ _=>k b u q
 slot:=λb u q _ _ _=>⟨u.slots,k b u q⟩
 free:=λb u q n _=>by rw[aB (zW (zG (zN q) hp))];lia
 there:=λb u q _=>⟨u,k b u q⟩
 tups:=λb xs q=>by rw[aB (ba q hn)];lia
 frzs:=λb u xs q=>by rw[aB (ba q hn)];lia
 tbls:=λb ps q=>⟨#[],by rw[aB (ba q hn),q];rfl⟩
theorem Un.write(mu:Ku (H x))(he:e=x\/H e=some (.own x))(k:∀b u,b≠e->h.get? b=some u->h'.get? b=some u)(heo:∃u,h'.get? e=some u):Un fs ex H (aY H x o) h h':=by
 have hx:∀b,H b=none->b≠x:=λb n z=>by subst z;rw[n]at mu;exact mu
 have hb:∀b,H b=none->b≠e:=λb n z=>by grind
 have hm:∀b u,H b=some u->¬ Ku (some u)->b≠x:=λb u q nm z=>by grind
 refine⟨λb u q n _ _=>k b u (hb b n) q,λb u q n _ _=>⟨u.slots,k b u (hb b n) q⟩,λb u q n _=>by rw[aB (hx b n)];exact n,λb u q _=>?_,
  λb xs q=>by rw[aB (hm b _ q λz=>z)];exact q,λb u xs q=>by rw[aB (hm b _ q λz=>z)];exact q,λb ps q=>⟨#[],by rw[aB (hm b _ q λz=>z),q];simp⟩⟩
 grind
end
def trk(h:Heap)(H:Hp):List Addr:=(List.range h.objs.size).filter λa=>(H a).isSome
def pL(h:Heap)(H:Hp):Heap:=PySem.W.hideAll h (trk h H)
theorem wR(h)(H):(pL h H).objs.size=h.objs.size:=PySem.W.hideAll_size _ _
theorem Aq(e:h.get? b=some o)(n:H b=none):(pL h H).get? b=some o :=
 PySem.W.hideAll_get _ e λhm=>by
  have q :=(zzb.mp hm).2
  grind
theorem DK(e:(pL h H).get? b=some o):h.get? b=some o/\H b=none:=by
 have e' :=ZY (trk h H) e
 refine⟨e',?_⟩
 cases q:H b with
 |none=>rfl
 |some x =>
  have hm:b∈trk h H:=zzb.mpr ⟨ZE.mpr (zN e'),by simp[q]⟩
  have z:(pL h H).get? b=none:=zz5 (trk h H) hm
  grind
noncomputable def DE(g h:Heap)(L:Addr):List (Addr×Obj):=(List.range h.objs.size).filterMap λa=>if a=L\/(g.get? a).isSome=true then none else(h.get? a).map λo=>(a,o)
def cT(g h:Heap)(L d:Addr):List (Addr×Obj):=(DE g h L).filter λp=>decide (p.1≠d)
structure Mod (K:Fg0) (mg:Str->Option Value) (base:Heap):Prop where
 kin:K.In base
 glob:base.Ns mainGlobals mg
 blt:∃mb,base.Ns builtinsNs mb/\∀x:Str,x≠"__name__"->mb x=bootBuiltins x
 nolimit:base.NoLimit
structure Cx where
 prog:Program
 w:World
 K:Fg0
 mg:Str->Option Value
 base:Heap
 A:Around
 N:List Str
 s₀:Shared
 H₀:Hp
 env:Env
 outer:List Env
 stack:List Env
 ex:List Addr
 fn:Str->Bool
 calm:Bool
 pn:List (Addr×Obj)
 xe:Value->Shared->Prop
def gu(l:List Env):List Addr:=l.filterMap (·.frame)
abbrev Cx.fs(X:Cx):List Addr:=gu X.outer
def uX(sc:Scope)(x:Str):Prop:=sc.names.lookup x=some .local\/sc.names.lookup x=some .cell\/sc.names.lookup x=some .free
def sR(sc:Scope)(x:Str):Prop:=sc.names.lookup x=some .local\/sc.names.lookup x=some .cell
def P0(env:Env)(h:Heap)(m:Str->Option Value)(x:Str)(u:Value):Prop :=
 (env.kindOf x=some .local/\m x=some u)\/((env.kindOf x=some .cell\/env.kindOf x=some .free)/\∃c,env.cells.lookup x=some c/\h.IsCell c (some u))
structure Cx.Ok (X:Cx):Prop where
 mod:Mod X.K X.mg X.base
 kind:X.env.scope.kind=.function
 glob:X.env.globals=mainGlobals
 blt:X.env.builtins=builtinsNs
 above:X.s₀.heap.objs.size<=X.env.locals
 inj:∀x y c,X.env.cells.lookup x=some c->X.env.cells.lookup y=some c->x=y
 has:∀x,(X.env.kindOf x=some .cell\/X.env.kindOf x=some .free)->∃c,X.env.cells.lookup x=some c
 cab:∀x c,X.fn x=true->X.env.cells.lookup x=some c->X.s₀.heap.objs.size<=c
 hd:X.calm=true->X.A.handled=none
 frames:X.A.frames=some X.stack
 stk:X.stack=X.outer\/(X.stack=X.env::X.outer/\X.env.frame=some X.env.locals)
 exf:∀b∈X.ex,b≠X.env.locals/\∀x c,X.env.cells.lookup x=some c->c≠b
 bs:∀b o,X.base.get? b=some o->X.s₀.heap.get? b=some o/\X.H₀ b=none
 bsz:X.base.objs.size<=X.s₀.heap.objs.size
 noex:∀b o,X.base.get? b=some o->b∉X.ex
 exfs:∀b∈X.ex,b∉X.fs
 funs:X.s₀.heap.FunFrames X.base X.outer
 frf:∀b∈X.fs,X.H₀ b=none
structure Inv (X:Cx) (pins:List (Addr×Obj)) (σ:List (Option V)) (H:Hp) (s:Shared):Prop where
 ok:X.Ok
 os:s.os=X.s₀.os
 bare:AllBare s.gens
 base:Un X.fs X.ex X.H₀ H X.s₀.heap s.heap
 loc:∃m,s.heap.Ns X.env.locals m/\∀(i:Nat) (x:Str) (v:V),X.N[i]?=some x->σ[i]?=some (some v)->uX X.env.scope x->∃u,RelV v u/\P0 X.env s.heap m x u
 cell:∀x c,X.env.cells.lookup x=some c->∃v,s.heap.IsCell c v
 free:H X.env.locals=none
 freeC:∀x c,X.env.cells.lookup x=some c->H c=none
 pin:∀p∈X.pn++pins,s.heap.get? p.1=some p.2/\H p.1=none/\p.1≠X.env.locals/\p.1∉X.fs/\∀v,p.2.data≠.cell v
 hok:eV X.prog X.w H s.heap
 len:σ.length=X.N.length
section
variable {X:Cx}{pins:List (Addr×Obj)}{σ:List (Option V)}{H H':Hp}{s:Shared}{h':Heap}
theorem Cx.Ok.nofr(ok:X.Ok)(e:X.base.get? b=some o):b∉X.fs:=λhb=>by
 have:=(ok.funs.mem hb).1
 grind
theorem Inv.bs(I:Inv X pins σ H s):∀b o,X.base.get? b=some o->s.heap.get? b=some o/\H b=none:=λb o e =>
 ⟨I.base.keep b o (I.ok.bs b o e).1 (I.ok.bs b o e).2 (I.ok.nofr e) (I.ok.noex b o e),I.base.free b o (I.ok.bs b o e).1 (I.ok.bs b o e).2 (I.ok.noex b o e)⟩
theorem Inv.bk(I:Inv X pins σ H s):∀b o,X.base.get? b=some o->s.heap.get? b=some o:=λb o e=>(I.bs b o e).1
theorem Inv.mod(I:Inv X pins σ H s):Mod X.K X.mg X.base:=I.ok.mod
theorem Inv.kIn(I:Inv X pins σ H s):X.K.In s.heap:=I.ok.mod.kin.keeps I.bk
theorem Inv.lt(I:Inv X pins σ H s):X.env.locals<s.heap.objs.size:=let ⟨_,hn,_⟩:=I.loc;hn.lt
theorem Inv.sz(I:Inv X pins σ H s):X.s₀.heap.objs.size<=s.heap.objs.size:=zf I.ok.above (Nat.le_of_lt I.lt)
theorem Inv.nofs(I:Inv X pins σ H s){a:Addr}(h:s.heap.objs.size<=a):a∉X.fs:=λhb=>by obtain⟨_,o,ho,_⟩:=I.ok.funs.mem hb;exact absurd (zG (zN ho) (zf I.sz h)) (ZG _)
theorem Inv.cne(I:Inv X pins σ H s):∀x c,X.env.cells.lookup x=some c->c≠X.env.locals:=λx c e z=>by
 obtain⟨v,o,ho,hd⟩:=I.cell x c e
 obtain⟨m,⟨o',es,ep,ho',hd',_⟩,_⟩:=I.loc
 grind
theorem Inv.funs(I:Inv X pins σ H s):s.heap.FunFrames X.base X.outer:=by
 have all:∀(l:List Env),(∀b∈gu l,b∈X.fs)->X.s₀.heap.FunFrames X.base l->s.heap.FunFrames X.base l:=by
  intro l;induction l with
  |nil=>intro _ _;trivial
  |cons env r ih=>intro hs hl;obtain⟨hk,⟨L,o,hf,hn,ho,hd⟩,hr⟩:=hl;have hL :=hs L (by unfold gu;simp_all);obtain⟨sl,e⟩:=I.base.slot L o ho (I.ok.frf L hL) hL λz=>I.ok.exfs L z hL;exact⟨hk,⟨L,_,hf,hn,e,hd⟩,ih (λb hb=>hs b (by unfold gu;rw[List.filterMap_cons,hf];exact zo _ hb)) hr⟩
 exact all X.outer (λ_ hb=>hb) I.ok.funs
theorem Inv.stack(I:Inv X pins σ H s):s.heap.FunFrames X.base X.stack:=by rcases I.ok.stk with e|⟨e,hf⟩;rw[e];exact I.funs;rw[e];obtain⟨m,hn,_⟩:=I.loc;refine .cons (by rw[I.ok.kind];decide) hf hn ?_ I.funs;exact Heap.get?_none_of_le (zf I.ok.bsz I.ok.above)
theorem Inv.stkSub(I:Inv X pins σ H s):∀b∈gu X.stack,b∈X.env.locals::X.fs:=λb hb=>by
 rcases I.ok.stk with e|⟨e,hf⟩
 ·grind
 ·rw[e]at hb
  unfold gu at hb
  rw[List.filterMap_cons,hf]at hb
  exact hb
theorem Inv.stkFree(I:Inv X pins σ H s):∀b∈gu X.stack,H b=none:=λb hb=>by rcases zV.mp (I.stkSub b hb) with e|hb;rw[e];exact I.free;obtain⟨_,o,ho,_⟩:=I.ok.funs.mem hb;exact I.base.free b o ho (I.ok.frf b hb) λz=>I.ok.exfs b z hb
theorem Inv.step{g':Array GenState}{t':Nat}{d':Drawn}{ch:List Addr}(I:Inv X pins σ H s)
  (hch:∀b∈ch,(b∈X.ex\/X.s₀.heap.objs.size<=b)/\b≠X.env.locals/\(∀x c,X.env.cells.lookup x=some c->c≠b)/\∀p∈X.pn++pins,p.1≠b)
  (keep:∀b o,b≠X.env.locals->b∉X.fs->b∉ch->s.heap.get? b=some o->H b=none->h'.get? b=some o)
  (slot:∀b o,b≠X.env.locals->b∈X.fs->b∉ch->s.heap.get? b=some o->H b=none->∃sl,h'.get? b=some { o with slots:=sl }) (free:∀b o,b∉ch->s.heap.get? b=some o->H b=none->H' b=none)
  (there:∀b o,b∉ch->s.heap.get? b=some o->∃o',h'.get? b=some o')
  (tups:∀b xs,H b=some (.tup xs)->H' b=some (.tup xs)) (frzs:∀b o u,H b=some (.frz o u)->H' b=some (.frz o u)) (tbls:∀b ps,H b=some (.tbl ps)->∃more,H' b=some (.tbl (ps++more)))
  (ns:∀m,s.heap.Ns X.env.locals m->h'.Ns X.env.locals m) (hok:eV X.prog X.w H' h') (hg:AllBare g') :
  Inv X pins σ H' { s with heap:=h',gens:=g',drawn:=d',toks:=t' }:=by
 have neL:∀b o,X.s₀.heap.get? b=some o->b≠X.env.locals:=λb o e=>zW (zG (zN e) I.ok.above)
 have neC:∀b o,X.s₀.heap.get? b=some o->b∉X.ex->b∉ch:=λb o e hx hb=>by rcases(hch b hb).1 with z|z;exact hx z;exact absurd (zG (zN e) z) (ZG _)
 have cellK:∀x c,X.env.cells.lookup x=some c->∀v,s.heap.IsCell c v->h'.IsCell c v:=λx c e v zq=>by obtain⟨o,ho,hd⟩:=zq;have nch:c∉ch:=λz=>(hch c z).2.2.1 x c e rfl;by_cases hc:c∈X.fs;obtain⟨sl,q⟩:=slot c o (I.cne x c e) hc nch ho (I.freeC x c e);exact⟨_,q,hd⟩;exact⟨o,keep c o (I.cne x c e) hc nch ho (I.freeC x c e),hd⟩
 refine⟨I.ok,I.os,hg,⟨λb o e n hb hx=>?_,λb o e n hb hx=>?_,λb o e n hx=>?_,λb o e hx=>?_,λb xs e=>tups b xs (I.base.tups b xs e),λb o xs e=>frzs b o xs (I.base.frzs b o xs e),λb ps e=>?_⟩,?_,λx c e=>?_,?_,λx c e=>?_,λp hp=>?_,hok,I.len⟩
 ·exact keep b o (neL b o e) hb (neC b o e hx) (I.base.keep b o e n hb hx) (I.base.free b o e n hx)
 ·obtain⟨sl,e1⟩:=I.base.slot b o e n hb hx
  obtain⟨sl',e2⟩:=slot b _ (neL b o e) hb (neC b o e hx) e1 (I.base.free b o e n hx)
  exact⟨sl',e2⟩
 ·obtain⟨o',e1⟩:=I.base.there b o e hx
  exact free b o' (neC b o e hx) e1 (I.base.free b o e n hx)
 ·obtain⟨o',e1⟩:=I.base.there b o e hx
  exact there b o' (neC b o e hx) e1
 ·obtain⟨m1,e1⟩:=I.base.tbls b ps e
  obtain⟨m2,e2⟩:=tbls b _ e1
  exact⟨m1++m2,by rw[e2,Array.append_assoc]⟩
 ·obtain⟨m,hn,hl⟩:=I.loc
  refine⟨m,ns m hn,λi x v e1 e2 e3=>?_⟩
  obtain⟨u,r,l⟩:=hl i x v e1 e2 e3
  refine⟨u,r,?_⟩
  rcases l with l|⟨k,c,e,z⟩
  ·exact .inl l
  ·exact .inr ⟨k,c,e,cellK x c e _ z⟩
 ·obtain⟨v,z⟩:=I.cell x c e
  exact⟨v,cellK x c e v z⟩
 ·obtain⟨m,⟨o,_,_,ho,_⟩,_⟩:=I.loc
  exact free _ o (λz=>(hch _ z).2.1 rfl) ho I.free
 ·obtain⟨v,o,ho,hd⟩:=I.cell x c e
  exact free c o (λz=>(hch c z).2.2.1 x c e rfl) ho (I.freeC x c e)
 ·obtain⟨e,n,ne,nf,d⟩:=I.pin p hp
  have nch:p.1∉ch:=λz=>(hch p.1 z).2.2.2 p hp rfl
  exact⟨keep p.1 p.2 ne nf nch e n,free p.1 p.2 nch e n,ne,nf,d⟩
theorem Inv.un{t':Nat}(I:Inv X pins σ H s)(u:Un X.fs [] H H' s.heap h')(hok:eV X.prog X.w H' h'):Inv X pins σ H' { s with heap:=h',toks:=t' }:=by
 obtain⟨m,⟨o,es,ep,ho,r⟩,_⟩:=id I.loc;obtain⟨sl,hL⟩:=u.any ho I.free zS
 exact I.step (g':=s.gens) (d':=s.drawn) (ch:=[]) (λ_ z=>nomatch z) (λb o _ hb _ e n=>u.keep b o e n hb zS) (λb o _ hb _ e n=>u.slot b o e n hb zS) (λb o _ e n=>u.free b o e n zS) (λb o _ e=>u.there b o e zS) u.tups u.frzs u.tbls (λm' hm=>by
  obtain⟨o',es',ep',ho',r'⟩:=hm
  rw[ho]at ho';cases ho'
  exact⟨_,es',ep',hL,r'⟩) hok I.bare
theorem Inv.call(I:Inv X pins σ H s)(u:Un (gu X.stack) ch H H' s.heap h')(hok:eV X.prog X.w H' h')(hg:AllBare g')
  (hch:∀b∈ch,(b∈X.ex\/X.s₀.heap.objs.size<=b)/\b≠X.env.locals/\(∀x c,X.env.cells.lookup x=some c->c≠b)/\∀p∈X.pn++pins,p.1≠b) :
  Inv X pins σ H' { s with heap:=h',gens:=g',drawn:=d',toks:=t' }:=by
 obtain⟨m,⟨o,es,ep,ho,r⟩,_⟩:=id I.loc
 obtain⟨sl,hL⟩:=u.any ho I.free λz=>(hch _ z).2.1 rfl
 exact I.step (ch:=ch) hch (λb o hL hb hc e n=>u.keep b o e n (λz=>(zV.mp (I.stkSub b z)).elim hL hb) hc) (λb o _ _ hc e n=>u.any e n hc) (λb o hc e n=>u.free b o e n hc) (λb o hc e=>u.there b o e hc) u.tups u.frzs u.tbls (λm' hm=>by
  obtain⟨o',es',ep',ho',r'⟩:=hm
  rw[ho]at ho';cases ho'
  exact⟨_,es',ep',hL,r'⟩) hok hg
theorem Inv.turned{t':Nat}{it:Addr}(I:Inv X pins σ H s)(k:∀b o,b≠it->s.heap.get? b=some o->h'.get? b=some o)(hn:H it=none)(hL:it≠X.env.locals)
  (h1:it∈X.ex\/X.s₀.heap.objs.size<=it) (h2:∀x c,X.env.cells.lookup x=some c->c≠it) (h3:∀p∈X.pn++pins,p.1≠it):Inv X pins σ H { s with heap:=h',toks:=t' }:=by
 have nit:∀b u,H b=some u->b≠it:=λb u e z=>by rw[z,hn]at e;cases e
 refine I.step (g':=s.gens) (d':=s.drawn) (ch:=[it]) (λb hb=>?_) (λb o _ _ hc e _=>k b o (λz=>hc (by simp[z])) e) (λb o _ _ hc e _=>⟨o.slots,k b o (λz=>hc (by simp[z])) e⟩) (λ_ _ _ _ n=>n)
  (λb o hc e=>⟨o,k b o (λz=>hc (by simp[z])) e⟩) (λ_ _ e=>e) (λ_ _ _ e=>e) (λb ps e=>⟨#[],by rw[e];simp⟩) (λm hm=>?_) (λb u e=>?_) I.bare
 ·have e:b=it:=by simpa using hb
  subst e
  exact⟨h1,hL,h2,h3⟩
 ·obtain⟨o,es,ep,ho,r⟩:=hm
  exact⟨o,es,ep,k _ o (zza hL) ho,r⟩
 ·refine(I.hok b u e).stay (λc v hc q=>k c v ?_ q) (λ_ q=>q) λ_ _ q=>q
  rcases hc with z|z
  ·rw[z];exact nit b u e
  ·exact nit c _ z
theorem Inv.tok(I:Inv X pins σ H s)(t):Inv X pins σ H { s with toks:=t }:=I.un   Un.refl I.hok
theorem Inv.kept{t':Nat}(I:Inv X pins σ H s)(k:∀b u,s.heap.get? b=some u->h'.get? b=some u):Inv X pins σ H { s with heap:=h',toks:=t' }:=I.un (Un.kept k) (I.hok.kept k)
theorem Inv.laid{a:Addr}{o:HO}{t':Nat}(I:Inv X pins σ H s)(k:∀b u,s.heap.get? b=some u->h'.get? b=some u)(hp:s.heap.objs.size<=a)(new:cx X.prog X.w (aY H a o) h' a o) :
 Inv X pins σ (aY H a o) { s with heap:=h',toks:=t' }:=I.un (Un.laid k hp (I.hok.fresh hp)) (I.hok.laid k hp new)
theorem Inv.write(I:Inv X pins σ H s)(mu:Ku (H x))(he:e=x\/H e=some (.own x))(k:∀b u,b≠e->s.heap.get? b=some u->h'.get? b=some u)(heo:∃u,h'.get? e=some u)
 (new:cx X.prog X.w (aY H x o) h' x o):Inv X pins σ (aY H x o) { s with heap:=h',toks:=t' }:=I.un (Un.write mu he k heo) (I.hok.write mu he k heo new)
theorem Inv.pins_of(I:Inv X pins σ H s)(h:∀p∈pins',s.heap.get? p.1=some p.2/\H p.1=none/\p.1≠X.env.locals/\p.1∉X.fs/\∀v,p.2.data≠.cell v):Inv X pins' σ H s :=
 ⟨I.ok,I.os,I.bare,I.base,I.loc,I.cell,I.free,I.freeC,λp hp=>(Ze.mp hp).elim (λz=>I.pin p (Zl _ z)) (h p),I.hok,I.len⟩
theorem j4{N:List Str}(hN:N.Nodup){i j:Nat}(a:N[i]?=some x)(b:N[j]?=some x):i=j:=by obtain⟨h1,e1⟩:=ze.mp a;obtain⟨h2,e2⟩:=ze.mp b;exact(List.getElem_inj hN).mp (e1.trans e2.symm)
theorem ng{M:Model}{E:Value->Shared->Prop}(I:Inv X pins σ H s)(hN:X.N.Nodup)(hi:X.N[i]?=some x)(hx:sR X.env.scope x)(r:RelV v u)
  (h:∀s',Inv X pins (σ.set i (some v)) H s'->(∃a,Heap.SameBut a s.heap s'.heap/\(a=X.env.locals\/X.env.cells.lookup x=some a))->Q () s') (hf:X.fn x=true\/X.env.scope.names.lookup x=some .local:=by first|exact .inl rfl|exact .inr rfl|assumption):wpAny M A (storeName X.env x u) Q E s:=by
 obtain⟨m,hn,hl⟩:=id I.loc
 have hcls:(X.env.scope.kind==.class||(X.env.scope.kind==.module&&X.env.locals != X.env.globals))=false:=by rw[I.ok.kind];rfl
 have hiσ:i<σ.length:=by rw[I.len];exact(ze.mp hi).1
 have cne:=I.cne
 have tracked:∀{a:Addr}{h':Heap},(∃o,s.heap.get? a=some o/\H a=none)->Heap.SameBut a s.heap h'->eV X.prog X.w H h':=λ{a h'} ha hs b ob e=>by obtain⟨_,_,hfree⟩:=ha;refine(I.hok b ob e).stay (λc w' hc q=>(hs.2 c ?_).trans q) (λ_ q=>q) λ_ _ q=>q;rintro rfl;rcases hc with rfl|hc;rw[hfree]at e;cases e;rw[hfree]at hc;cases hc
 rcases hx with hk|hk
 ·refine wpAny_storeName_local hk hn (λh' hn' hs=>?_) hcls
  obtain⟨oL,_,_,hoL,_⟩:=id hn
  refine h _ ⟨I.ok,I.os,I.bare,⟨λb o e n hb hx=>?_,λb o e n hb hx=>?_,I.base.free,λb o e hx=>?_,I.base.tups,I.base.frzs,I.base.tbls⟩,⟨_,hn',λj y v' e1 e2 e3=>?_⟩,λy c e=>?_,I.free,I.freeC,λp hp=>?_,tracked ⟨oL,hoL,I.free⟩ hs,by simpa using I.len⟩ ⟨_,hs,.inl rfl⟩
  ·exact(hs.2 b (zW (zG (zN e) I.ok.above))).trans (I.base.keep b o e n hb hx)
  ·obtain⟨sl,e1⟩:=I.base.slot b o e n hb hx
   exact⟨sl,(hs.2 b (zW (zG (zN e) I.ok.above))).trans e1⟩
  ·obtain⟨o',e1⟩:=I.base.there b o e hx
   exact⟨o',(hs.2 b (zW (zG (zN e) I.ok.above))).trans e1⟩
  ·by_cases hj:j=i
   ·subst hj
    rw[hi]at e1;cases e1
    rw[Zb hiσ]at e2
    cases e2
    exact⟨u,r,.inl ⟨hk,zS⟩⟩
   ·rw[Zc (zza hj)]at e2
    obtain⟨u',r',q⟩:=hl j y v' e1 e2 e3
    refine⟨u',r',?_⟩
    rcases q with⟨k,e⟩|⟨k,c,e,z⟩
    ·refine .inl ⟨k,?_⟩
     have:y≠x:=λe=>hj (j4 hN e1 (e▸hi))
     simp[this,e]
    ·exact .inr ⟨k,c,e,z.sameBut hs (cne y c e)⟩
  ·obtain⟨w',z⟩:=I.cell y c e
   exact⟨w',z.sameBut hs (cne y c e)⟩
  ·obtain⟨e,n,ne,nf,d⟩:=I.pin p hp
   exact⟨(hs.2 p.1 ne).trans e,n,ne,nf,d⟩
 ·have hfn:X.fn x=true:=by rcases hf with z|z;exact z;rw[z]at hk;cases hk
  obtain⟨c,hc⟩:=I.ok.has x (.inl hk)
  obtain⟨w',z⟩:=I.cell x c hc
  refine wpAny_storeName_cell I.ok.kind hk hc z (λh' hc' hs=>?_)
  obtain⟨oc,hoc,hocd⟩:=id z
  refine h { s with heap:=h' } ⟨I.ok,I.os,I.bare,⟨λb o e n hb hx=>?_,λb o e n hb hx=>?_,I.base.free,λb o e hx=>?_,I.base.tups,I.base.frzs,I.base.tbls⟩,⟨m,hn.sameBut hs (zza (cne x c hc)),λj y v' e1 e2 e3=>?_⟩,λy c' e=>?_,I.free,I.freeC,λp hp=>?_,tracked ⟨oc,hoc,I.freeC x c hc⟩ hs,by simpa using I.len⟩ ⟨c,hs,.inr hc⟩
  ·exact(hs.2 b (zW (zG (zN e) (I.ok.cab x c hfn hc)))).trans (I.base.keep b o e n hb hx)
  ·obtain⟨sl,e1⟩:=I.base.slot b o e n hb hx
   exact⟨sl,(hs.2 b (zW (zG (zN e) (I.ok.cab x c hfn hc)))).trans e1⟩
  ·obtain⟨o',e1⟩:=I.base.there b o e hx
   exact⟨o',(hs.2 b (zW (zG (zN e) (I.ok.cab x c hfn hc)))).trans e1⟩
  ·by_cases hj:j=i
   ·subst hj
    rw[hi]at e1;cases e1
    rw[Zb hiσ]at e2
    cases e2
    exact⟨u,r,.inr ⟨.inl hk,c,hc,hc'⟩⟩
   ·rw[Zc (zza hj)]at e2
    obtain⟨u',r',q⟩:=hl j y v' e1 e2 e3
    refine⟨u',r',?_⟩
    rcases q with q|⟨k,c',e,z'⟩
    ·exact .inl q
    ·refine .inr ⟨k,c',e,z'.sameBut hs ?_⟩
     rintro rfl
     exact hj (j4 hN e1 (I.ok.inj _ _ _ e hc▸hi))
  ·by_cases hcc:c'=c
   ·subst hcc;exact⟨_,hc'⟩
   ·obtain⟨w2,z2⟩:=I.cell y c' e
    exact⟨w2,z2.sameBut hs hcc⟩
  ·obtain⟨e,n,ne,nf,d⟩:=I.pin p hp
   refine⟨(hs.2 p.1 ?_).trans e,n,ne,nf,d⟩
   intro q
   rw[q,hoc]at e
   have q':oc=p.2:=z9 e
   exact d w' (by rw[<- q'];exact hocd)
theorem jd{M:Model}{A:Around}(I:Inv X pins σ H s)(hN:X.N.Nodup)(hi:X.N[i]?=some x)(hx:sR X.env.scope x)(r:RelV v u)
  (h:∀s',Inv X pins (σ.set i (some v)) H s'->Q () s') (hf:X.fn x=true\/X.env.scope.names.lookup x=some .local:=by rfl):wpAny M A (storeName X.env x u) Q E s :=
 ng I hN hi hx r (λs' I' _=>h s' I') hf
theorem Inv.call'{s':Shared}{ch:List Addr}(I:Inv X pins σ H s)(ho:s'.os=s.os)(u:Un (gu X.stack) ch H H' s.heap s'.heap)(hok:eV X.prog X.w H' s'.heap)(hg:AllBare s'.gens)
  (hch:∀b∈ch,(b∈X.ex\/X.s₀.heap.objs.size<=b)/\b≠X.env.locals/\(∀x c,X.env.cells.lookup x=some c->c≠b)/\∀p∈X.pn++pins,p.1≠b):Inv X pins σ H' s':=by
 obtain⟨h',g',d',t',o'⟩:=s'
 have e:o'=s.os:=ho
 subst e
 exact I.call (g':=g') (t':=t') (d':=d') u hok hg hch
end
abbrev XK:=Value->Option Addr->Hp->Prop
abbrev St:=List (Option V)
abbrev VK:=V->Hp->Prop
abbrev TE:=St->Hp->VK->Prop
abbrev TT:=St->Hp->(Bool->Hp->Prop)->Prop
abbrev TA:=St->Hp->(List V->Hp->Prop)->Prop
structure Ends where
 nx:St->Hp->Prop
 rt:VK
 bk:St->Hp->Prop:=λ_ _=>False
 ct:St->Hp->Prop:=λ_ _=>False
abbrev TS:=Ends->St->Hp->Prop
def EP(X:Cx)(pins:List (Addr×Obj))(σ:St)(Q:VK)(u:Value)(s':Shared):Prop:=∃v H',Inv X pins σ H' s'/\RelV v u/\Q v H'
def TP(X:Cx)(pins:List (Addr×Obj))(σ:St)(Q:Bool->Hp->Prop)(b:Bool)(s':Shared):Prop:=∃H',Inv X pins σ H' s'/\Q b H'
def AP(X:Cx)(pins:List (Addr×Obj))(σ:St)(Q:List V->Hp->Prop)(us:List Value)(s':Shared):Prop:=∃vs H',Inv X pins σ H' s'/\Vals vs us/\Q vs H'
def SP(X:Cx)(pins:List (Addr×Obj))(D:Ends)(f:Flow)(s':Shared):Prop :=
 match f with
 |.next=>∃σ' H',Inv X pins σ' H' s'/\D.nx σ' H'
 |.brk=>∃σ' H',Inv X pins σ' H' s'/\D.bk σ' H'
 |.cont=>∃σ' H',Inv X pins σ' H' s'/\D.ct σ' H'
 |.ret u=>∃v σ' H',Inv X pins σ' H' s'/\RelV v u/\D.rt v H'
def PE(X:Cx)(e:Expr)(t:TE):Prop :=
 ∀(pins:List (Addr×Obj)) (s:Shared) (σ:St) (H:Hp) (Q:VK),Inv X pins σ H s->t σ H Q->wpAny (model X.prog X.w) X.A (eval e X.env) (EP X pins σ Q) X.xe s
def PT(X:Cx)(e:Expr)(t:TT):Prop :=
 ∀(pins:List (Addr×Obj)) (s:Shared) (σ:St) (H:Hp) (Q:Bool->Hp->Prop),Inv X pins σ H s->t σ H Q->wpAny (model X.prog X.w) X.A (isTrue e X.env (eval e X.env)) (TP X pins σ Q) X.xe s
def PW(X:Cx)(e:Expr)(t:TT):Prop :=
 ∀(whole:Sem Value) (pins:List (Addr×Obj)) (s:Shared) (σ:St) (H:Hp) (Q:Bool->Hp->Prop),Inv X pins σ H s->t σ H Q->wpAny (model X.prog X.w) X.A (isTrue e X.env whole) (TP X pins σ Q) X.xe s
theorem PW.pt(h:PW X e t):PT X e t:=h _
def PA(X:Cx)(es:List Expr)(t:TA):Prop :=
 ∀(pos:Pos) (pins:List (Addr×Obj)) (s:Shared) (σ:St) (H:Hp) (Q:List V->Hp->Prop),Inv X pins σ H s->t σ H Q->wpAny (model X.prog X.w) X.A (spliced (backTo pos (starEach es X.env))) (AP X pins σ Q) X.xe s
def PS(X:Cx)(st:Stmt)(t:TS):Prop :=
 ∀(pins:List (Addr×Obj)) (s:Shared) (σ:St) (H:Hp) (D:Ends),Inv X pins σ H s->t D σ H->wpAny (model X.prog X.w) X.A (exec st X.env) (SP X pins D) X.xe s
def PSs(X:Cx)(st:List Stmt)(t:TS):Prop :=
 ∀(pins:List (Addr×Obj)) (s:Shared) (σ:St) (H:Hp) (D:Ends),Inv X pins σ H s->t D σ H->wpAny (model X.prog X.w) X.A (execs st X.env) (SP X pins D) X.xe s
theorem aW{α:Type}{t:Sem α}{Q Q':α->Shared->Prop}{M:Model}{A:Around}{E:Value->Shared->Prop}{s:Shared}(h:wpAny M A t Q E s)(hQ:∀a s,Q a s->Q' a s):wpAny M A t Q' E s:=ZL h hQ λ_ _ x=>x
section
variable {X:Cx}
theorem bin{a b:Expr}{ta tb:TE}(ha:PE X a ta)(hb:PE X b tb){pins:List (Addr×Obj)}{s:Shared}{σ:St}{H:Hp}{R:V->V->Hp->Prop}(I:Inv X pins σ H s)(h:ta σ H λx H1=>tb σ H1 λy H2=>R x y H2)
  {α:Type}{Q:α->Shared->Prop}{f:Value->Value->Sem α}
  (hf:∀v u s2 x y H2,Inv X pins σ H2 s2->RelV x v->RelV y u->R x y H2->wpAny (model X.prog X.w) X.A (f v u) Q X.xe s2) :
  wpAny (model X.prog X.w) X.A (eval a X.env) (λv s₁=>wpAny (model X.prog X.w) X.A (eval b X.env) (λu s₂=>wpAny (model X.prog X.w) X.A (f v u) Q X.xe s₂) X.xe s₁) X.xe s:=by
 refine aW (ha pins s σ H _ I h) λv s1 zq=>?_
 obtain⟨x,H1,I1,r1,q1⟩:=zq
 refine aW (hb pins s1 σ H1 _ I1 q1) λu s2 zq=>?_
 obtain⟨y,H2,I2,r2,q2⟩:=zq
 exact hf v u s2 x y H2 I2 r1 r2 q2
def Jv(i:Nat):TE:=λσ H Q=>∃v,σ[i]?=some (some v)/\Q v H
def tC(v:V):TE:=λ_ H Q=>Q v H
theorem eX{i:Nat}{x:Str}{pos:Pos}(hN:X.N[i]?=some x)(hv:uX X.env.scope x)(hd:(x==("__debug__"))=false:=by decide)(hcd:(x==("__classdict__":Str))=false:=by decide):PE X (.Name x pos) (Jv i):=by intro pins s σ H Q I h;obtain⟨v,e,h⟩:=h;obtain⟨m,hn,hl⟩:=I.loc;obtain⟨u,r,l⟩:=hl i x v hN e hv;have fin:EP X pins σ Q u s:=⟨v,H,I,r,h⟩;rcases l with⟨hk,hm⟩|⟨hk,c,hc,hcell⟩;exact wpAny_Name (wpAny_loadName_local I.ok.kind hk hn hm fin) hd;rcases hk with hk|hk;exact wpAny_Name (wpAny_loadName_cell I.ok.kind hk hc hcell fin) hd;exact wpAny_Name (wpAny_loadName_free I.ok.kind hk hc hcell fin hcd) hd
theorem tH:PE X (.Constant (.int i) j pos) (tC (.int i)):=λ_ _ _ H _ I h=>wpAny_Constant_int ⟨.int i,H,I.tok _,⟨_,rfl⟩,h⟩
theorem KI:PE X (.Constant (.bool b) j pos) (tC (.bl b)):=λ_ _ _ H _ I h=>Constant_bool ⟨.bl b,H,I,rfl,h⟩
theorem G9:PE X (.Constant .none j pos) (tC .non):=λ_ _ _ H _ I h=>Constant_none ⟨.non,H,I,rfl,h⟩
theorem lQ:PE X (.Constant (.str x) j pos) (tC (.str x)):=λ_ _ _ H _ I h=>Calls.Constant_str ⟨.str x,H,I.tok _,⟨_,rfl⟩,h⟩
def Gl(X:Cx)(x:Str):Prop:=X.env.kindOf x=some .globalImplicit
theorem fL{E:Value->Shared->Prop}{pins:List (Addr×Obj)}{s:Shared}{σ:St}{H:Hp}{x:Str}{u:Value}{pos:Pos}{Q:Value->Shared->Prop}(I:Inv X pins σ H s)(hg:Gl X x)(hm:X.mg x=some u)(h:Q u s)
  (hd:(x==("__debug__"))=false:=by rfl):wpAny (model X.prog X.w) X.A (eval (.Name x pos) X.env) Q E s :=
 Calls.Name_function_global I.ok.kind hg (Calls.loadGlobal_global (by rw[I.ok.glob];exact I.mod.glob.keeps I.bk) hm h) hd
theorem ef{E:Value->Shared->Prop}{pins:List (Addr×Obj)}{s:Shared}{σ:St}{H:Hp}{x:Str}{u:Value}{pos:Pos}{Q:Value->Shared->Prop}(I:Inv X pins σ H s)(hg:Gl X x)(hm:X.mg x=none)(hv:bootBuiltins x=some u)(h:Q u s)
  (hn:x≠"__name__":=by decide) (hd:(x==("__debug__"))=false:=by rfl):wpAny (model X.prog X.w) X.A (eval (.Name x pos) X.env) Q E s:=by
 obtain⟨mb,h1,h2⟩:=I.mod.blt
 exact Calls.Name_function_global I.ok.kind hg (Calls.loadGlobal_builtin (by rw[I.ok.glob];exact I.mod.glob.keeps I.bk) hm (by rw[I.ok.blt];exact h1.keeps I.bk) ((h2 x hn).trans hv) h) hd
theorem vw{x:Str}{v:V}{u:Value}{pos:Pos}(hg:Gl X x)(hm:X.mg x=some u)(r:RelV v u)(hd:(x==("__debug__":Str))=false:=by decide):PE X (.Name x pos) (tC v) :=
 λ_ _ _ H _ I h=>fL I hg hm ⟨v,H,I,r,h⟩ hd
theorem vF{x:Str}{v:V}{u:Value}{pos:Pos}(hg:Gl X x)(hm:X.mg x=none)(hv:bootBuiltins x=some u)(r:RelV v u)(hn:x≠"__name__":=by rfl)(hd:(x==("__debug__"))=false:=by rfl):PE X (.Name x pos) (tC v) :=
 λ_ _ _ H _ I h=>ef I hg hm hv ⟨v,H,I,r,h⟩ hn hd
def Rh(ta tb:TE)(k:Int->Int->Hp->Prop):St->Hp->Prop:=λσ H=>ta σ H λx H1=>tb σ H1 λy H2=>∃i j,x=.int i/\y=.int j/\k i j H2
variable {a b:Expr}{ta tb:TE}{pos:Pos}
def Pd(p:Int->Int->Bool)(ta tb:TE):TE:=λσ H Q=>Rh ta tb (λi j H2=>Q (.bl (p i j)) H2) σ H
abbrev P7:TE->TE->TE:=Pd λi j=>decide (j<i)
def tB(t:TE):TT:=λσ H Q=>t σ H λx H1=>∃c,x=.bl c/\Q c H1
theorem Ju(h:PE X e t)(he:∀whole,isTrue e X.env whole=(do let v <- whole;standAt e.pos;holding [v] (truthy v)):=by intro _;rfl):PT X e (tB t):=by intro pins s σ H Q I hw;refine isTrue_plain (aW (h pins s σ H _ I hw) λv s1 ⟨x,H1,I1,r1,q1⟩=>?_) (he _);obtain⟨d,rfl,q⟩:=q1;cases r1;exact ZR ⟨H1,I1,q⟩
variable {tA tB':TT}{cT:List Expr}
def Pb(t u:TT):TT:=λσ H Q=>t σ H λc H1=>if c=true then u σ H1 Q else Q false H1
def QC(t u:TT):TT:=λσ H Q=>t σ H λc H1=>if c=true then Q true H1 else u σ H1 Q
def Pe(t:TT):TT:=λσ H Q=>t σ H λc H1=>Q (!c) H1
theorem Dj(ha:PT X a tA):PW X (.BoolOp .And [a] pos) tA:=by
 intro wh pins s σ H Q I h;refine isTrue_and (aW (ha pins s σ H Q I h) λc s1 e=>?_);cases c with
 |true=>exact isTrue_and_nil e
 |false=>exact e
theorem Jd(ha:PT X a tA):PW X (.BoolOp .Or [a] pos) tA:=by
 intro wh pins s σ H Q I h;refine isTrue_or (aW (ha pins s σ H Q I h) λc s1 e=>?_);cases c with
 |false=>exact isTrue_or_nil e
 |true=>exact e
theorem Ka(ha:PT X a tA)(hb:PW X (.BoolOp .And (b::cT) pos) tB'):PW X (.BoolOp .And (a::b::cT) pos) (Pb tA tB'):=by
 intro wh pins s σ H Q I h;refine isTrue_and (aW (ha pins s σ H _ I h) λc s1 ⟨H1,I1,q1⟩=>?_);cases c with
 |true=>exact hb wh pins s1 σ H1 Q I1 q1
 |false=>assumption
theorem LA(ha:PT X a tA)(hb:PW X (.BoolOp .Or (b::cT) pos) tB'):PW X (.BoolOp .Or (a::b::cT) pos) (QC tA tB'):=by
 intro wh pins s σ H Q I h;refine isTrue_or (aW (ha pins s σ H _ I h) λc s1 ⟨H1,I1,q1⟩=>?_);cases c with
 |true=>assumption
 |false=>exact hb wh pins s1 σ H1 Q I1 q1
theorem J0(ha:PT X a tA):PT X (.UnaryOp .Not a pos) (Pe tA):=by intro pins s σ H Q I h;exact isTrue_not (ha pins s σ H (λc H1=>Q (!c) H1) I h)
def Nf(ta tb:TE):TE:=λσ H Q=>ta σ H λx H1=>∃c,x=.bl c/\if c=true then tb σ H1 Q else Q (.bl false) H1
def Oe(ta tb:TE):TE:=λσ H Q=>ta σ H λx H1=>∃c,x=.bl c/\if c=true then Q (.bl true) H1 else tb σ H1 Q
def Mg(ta:TE):TE:=λσ H Q=>ta σ H λx H1=>∃c,x=.bl c/\Q (.bl (!c)) H1
theorem ID(h:PE X a t):PE X (.BoolOp op [a] pos) t:=λpins s σ H Q I hw=>BoolOp_one (h pins s σ H Q I hw)
theorem Hm(ha:PE X a ta)(hb:PE X (.BoolOp .And (b::cT) pos) tb):PE X (.BoolOp .And (a::b::cT) pos) (Nf ta tb):=by
 intro pins s σ H Q I h;refine BoolOp_and (aW (ha pins s σ H _ I h) λv s1 zq=>?_);obtain⟨x,H1,I1,r1,q1⟩:=zq;obtain⟨c,rfl,q1⟩:=q1;cases r1;refine ZR ?_;cases c with
 |true=>exact hb pins s1 σ H1 Q I1 q1
 |false=>exact⟨.bl false,H1,I1,rfl,q1⟩
theorem LN(ha:PE X a ta)(hb:PE X (.BoolOp .Or (b::cT) pos) tb):PE X (.BoolOp .Or (a::b::cT) pos) (Oe ta tb):=by
 intro pins s σ H Q I h;refine BoolOp_or (aW (ha pins s σ H _ I h) λv s1 zq=>?_);obtain⟨x,H1,I1,r1,q1⟩:=zq;obtain⟨c,rfl,q1⟩:=q1;cases r1;refine ZR ?_;cases c with
 |false=>exact hb pins s1 σ H1 Q I1 q1
 |true=>exact⟨.bl true,H1,I1,rfl,q1⟩
theorem IS(ha:PE X a ta):PE X (.UnaryOp .Not a pos) (Mg ta):=by intro pins s σ H Q I h;refine UnaryOp_ (aW (ha pins s σ H _ I h) λv s1 zq=>?_);obtain⟨x,H1,I1,r1,q1⟩:=zq;obtain⟨c,rfl,q1⟩:=q1;cases r1;exact not_of (ZR ⟨.bl (!c),H1,I1,rfl,q1⟩)
def Rc(t:TT)(ta tb:TE):TE:=λσ H Q=>t σ H λc H1=>if c=true then ta σ H1 Q else tb σ H1 Q
theorem Ai(hc:PT X c tA)(ha:PE X a ta)(hb:PE X b tb):PE X (.IfExp c a b pos) (Rc tA ta tb):=by
 intro pins s σ H Q I h;refine wpAny_IfExp (aW (hc pins s σ H _ I h) λd s1 zq=>?_);obtain⟨H1,I1,q1⟩:=zq;cases d with
 |true=>exact ha pins s1 σ H1 Q I1 q1
 |false=>exact hb pins s1 σ H1 Q I1 q1
end
def iT(K:Fg0)(H:Hp)(a:Addr)(xs:List V):Prop :=
 Rd H a (.lst xs) \/
  ∃(o:Obj) (its:Array Value) (n:Nat),K.lookup a=some o/\o.cls=.type "list"/\o.dict=none/\o.data=.seq its n/\its.size<=sizeLine/\Vals xs its.toList
def kq(K:Fg0)(H:Hp)(a:Addr)(xs:List V):Prop :=
 Rd H a (.tup xs) \/
  ∃(o:Obj) (its:Array Value) (n:Nat),K.lookup a=some o/\o.cls=.type "tuple"/\o.data=.seq its n/\its.size<=sizeLine/\Vals xs its.toList
noncomputable def Qc:Value->Option V
 |.none=>some .non
 |.bool b=>some (.bl b)
 |.int i _=>some (.int i)
 |.str x _=>some (.str x)
 |.bytes b _=>some (.byt b)
 |.float b _=>some (.flt b)
 |.ref a=>some (.ref a)
 |.type n=>some (.ty n)
 |_=>none
theorem RelV.abs(r:RelV x u):Qc u=some x:=by
 cases x with
 |non=>cases r;rfl
 |bl _=>cases r;rfl
 |int _=>obtain⟨t,rfl⟩:=r;rfl
 |str _=>obtain⟨t,rfl⟩:=r;rfl
 |byt _=>obtain⟨t,rfl⟩:=r;rfl
 |flt _=>obtain⟨t,rfl⟩:=r;rfl
 |ref _=>cases r;rfl
 |ty _=>cases r;rfl
theorem RelV.inj(r:RelV x u)(q:RelV y u):x=y:=z9 (r.abs.symm.trans q.abs)
theorem Vals.inj:∀{xs ys:List V}{us:List Value},Vals xs us->Vals ys us->xs=ys
 |_,_,_,.nil,.nil=>rfl
 |_,_,_,.cons r t,.cons r' t'=>by rw[r.inj r',Vals.inj t t']
section
variable {X:Cx}{pins:List (Addr×Obj)}{σ:St}{H:Hp}{s:Shared}{a:Addr}{xs ys:List V}
theorem Inv.list(I:Inv X pins σ H s)(h:iT X.K H a xs):∃its:List Value,Vals xs its/\PlainL s.heap a its.toArray/\xs.length<=sizeLine:=by
 rcases h with h|⟨o,its,n,hk,hc,hd,hs,hz,r⟩
 ·obtain⟨z,its,n,r,e⟩:=h.ok I.hok
  exact⟨its,r,⟨_,n,e,rfl,rfl,rfl⟩,z⟩
 ·refine⟨its.toList,r,⟨o,n,I.kIn a o hk,hc,hd,zO⟩,?_⟩
  have e:=r.length
  grind
theorem Inv.tuple(I:Inv X pins σ H s)(h:kq X.K H a xs):∃its:List Value,Vals xs its/\IsTup s.heap a its.toArray/\xs.length<=sizeLine:=by rcases h with h|⟨o,its,n,hk,hc,hs,hz,r⟩;obtain⟨z,its,r,p⟩:=h.ok I.hok;exact⟨its,r,p,z⟩;refine⟨its.toList,r,⟨o,I.kIn a o hk,hc,n,zO⟩,?_⟩;have e:=r.length;simp_all
theorem Inv.list_inj(I:Inv X pins σ H s)(h:iT X.K H a xs)(h':iT X.K H a ys):xs=ys:=by
 obtain⟨its,r,⟨o,n,e,_,_,d⟩,_⟩:=I.list h;obtain⟨its',r',⟨o',n',e',_,_,d'⟩,_⟩:=I.list h';have:its=its':=by grind
 subst this;exact r.inj r'
theorem Inv.tuple_inj(I:Inv X pins σ H s)(h:kq X.K H a xs)(h':kq X.K H a ys):xs=ys:=by
 obtain⟨its,r,⟨o,e,_,n,d⟩,_⟩:=I.tuple h;obtain⟨its',r',⟨o',e',_,n',d'⟩,_⟩:=I.tuple h';have:its=its':=by grind
 subst this;exact r.inj r'
end
section
variable {X:Cx}{pins:List (Addr×Obj)}{σ:St}{H:Hp}{s:Shared}{E:Value->Shared->Prop}
end
section
variable {X:Cx}{st:Stmt}{cT:List Stmt}{t u:TS}{e:Expr}{te:TE}{pos:Pos}
def Bh:TS:=λD σ H=>D.nx σ H
def NW(t u:TS):TS:=λD σ H=>t { D with nx:=u D } σ H
theorem lb:PSs X [] Bh:=λ_ _ σ H _ I h=>wpAny_execs_nil ⟨σ,H,I,h⟩
theorem dA(h1:PS X st t)(h2:PSs X cT u):PSs X (st::cT) (NW t u):=by
 intro pins s σ H D I h;refine wpAny_execs_cons (aW (h1 pins s σ H { D with nx:=u D } I h) λf s1 q=>?_);cases f with
 |next=>obtain⟨σ',H',I',q⟩:=q;exact h2 pins s1 σ' H' D I' q
 |ret v=>exact q
 |brk=>exact q
 |cont=>exact q
def Je:TS:=λD σ H=>D.bk σ H
def KA:TS:=λD σ H=>D.ct σ H
theorem C9:PS X (.Pass pos) Bh:=λ_ _ σ H _ I h=>wpAny_Pass ⟨σ,H,I,h⟩
theorem ye:PS X (.Break pos) Je:=λ_ _ σ H _ I h=>wpAny_Break ⟨σ,H,I,h⟩
theorem qR:PS X (.Continue pos) KA:=λ_ _ σ H _ I h=>wpAny_Continue ⟨σ,H,I,h⟩
theorem Inv.quiet{pins:List (Addr×Obj)}{σ:St}{H:Hp}{s:Shared}(I:Inv X pins σ H s):interactive X.env=false:=by simp[interactive,I.ok.kind]
theorem G8:PS X (.Expr (.Constant (.str x) j pos) pos') Bh:=λ_ s σ H _ I h=>wpAny_Expr (Calls.Constant_str (show SP X _ _ .next { s with toks:=s.toks+1 } from⟨σ,H,I.tok _,h⟩)) I.quiet
def Lz(te:TE):TS:=λD σ H=>te σ H λ_ H1=>D.nx σ H1
theorem EN(he:PE X e te)(hs:swapsWith e none pos.line X.env=pure false:=by rfl):PS X (.Expr e pos) (Lz te):=by intro pins s σ H D I h;exact wpAny_Expr_any (aW (he pins s σ H _ I h) λv s1 ⟨x,H1,I1,r1,q1⟩=>⟨σ,H1,I1,q1⟩) I.quiet hs
def P2(te:TE):TS:=λD σ H=>te σ H D.rt
theorem uq(he:PE X e te):PS X (.Return (some e) pos) (P2 te):=by intro pins s σ H D I h;exact wpAny_Return_some (aW (he pins s σ H _ I h) λv s1 ⟨x,H1,I1,r1,q1⟩=>⟨x,σ,H1,I1,r1,q1⟩)
def Ko:TS:=λD _ H=>D.rt .non H
theorem DM:PS X (.Return none pos) Ko:=λ_ _ σ H _ I h=>wpAny_Return_none ⟨.non,σ,H,I,rfl,h⟩
def Py(c:TT)(t u:TS):TS:=λD σ H=>c σ H λb H1=>if b=true then t D σ H1 else u D σ H1
theorem Lq(hc:PT X c tc)(ha:PSs X a t)(hb:PSs X b u):PS X (.If c a b pos) (Py tc t u):=by
 intro pins s σ H D I h;refine wpAny_If (aW (hc pins s σ H _ I h) λd s1 zq=>?_);obtain⟨H1,I1,q1⟩:=zq;cases d with
 |true=>exact ha pins s1 σ H1 D I1 q1
 |false=>exact hb pins s1 σ H1 D I1 q1
end
abbrev TG:=V->St->Hp->(St->Hp->Prop)->Prop
abbrev DC:=List V->St->Hp->(St->Hp->Prop)->Prop
def PG(X:Cx)(target:Expr)(t:TG):Prop :=
 ∀(pins:List (Addr×Obj)) (s:Shared) (σ:St) (H:Hp) (v:V) (u:Value) (Q:St->Hp->Prop),Inv X pins σ H s->RelV v u->t v σ H Q ->
  wpAny (model X.prog X.w) X.A (assign target X.env u) (λ_ s'=>∃σ' H',Inv X pins σ' H' s'/\Q σ' H') X.xe s
def PGs(X:Cx)(ts:List Expr)(t:DC):Prop :=
 ∀(pins:List (Addr×Obj)) (s:Shared) (σ:St) (H:Hp) (vs:List V) (us:List Value) (Q:St->Hp->Prop),Inv X pins σ H s->Vals vs us->t vs σ H Q ->
  wpAny (model X.prog X.w) X.A (assignInOrder ((assignEach ts X.env).map (·.2)) us) (λ_ s'=>∃σ' H',Inv X pins σ' H' s'/\Q σ' H') X.xe s
abbrev E9:=V->V->V->Hp->(Hp->Prop)->Prop
def JK(X:Cx)(t:E9):Prop :=
 ∀(pins:List (Addr×Obj)) (s:Shared) (σ:St) (H:Hp) (o i v:V) (ov iv u:Value) (Q:Hp->Prop),Inv X pins σ H s->RelV o ov->RelV i iv->RelV v u->t o i v H Q ->
  wpAny (model X.prog X.w) X.A (setItem ov iv u) (λ_ s'=>∃H',Inv X pins σ H' s'/\Q H') X.xe s
section
variable {X:Cx}{pos:Pos}
def F4(i:Nat):TG:=λv σ H Q=>Q (σ.set i (some v)) H
theorem vA(hN:X.N.Nodup)(hi:X.N[i]?=some x)(hx:sR X.env.scope x)(hf:X.fn x=true\/X.env.scope.names.lookup x=some .local:=by rfl):PG X (.Name x pos) (F4 i):=by intro pins s σ H v u Q I r h;exact wpAny_assign_Name (jd I hN hi hx r (λs' I'=>⟨_,H,I',h⟩) hf)
def PX:DC:=λvs σ H Q=>vs=[]/\Q σ H
def Nn(t:TG)(u:DC):DC:=λvs σ H Q=>∃v r,vs=v::r/\t v σ H λσ' H'=>u r σ' H' Q
theorem EC:PGs X [] PX:=by intro pins s σ H vs us Q I r h;obtain⟨e,h⟩:=h;exact assignInOrder_nil ⟨σ,H,I,h⟩
theorem A9(h1:PG X e t)(h2:PGs X es u)
  (hs:(assignEach (e::es) X.env).map (·.2)=assign e X.env::(assignEach es X.env).map (·.2):=by rfl):PGs X (e::es) (Nn t u):=by
 intro pins s σ H vs us Q I r h
 obtain⟨v,vr,e1,h⟩:=h
 subst e1
 cases r with
 |cons r rr =>
  rw[hs]
  exact assignInOrder_cons (aW (h1 pins s σ H _ _ _ I r h) λ_ s1 ⟨σ1,H1,I1,q1⟩=>(h2 pins s1 σ1 H1 _ _ Q I1 rr q1))
inductive Ms (K:Fg0) (n:Nat) (t:DC) (v:V) (σ:St) (H:Hp) (Q:St->Hp->Prop):Prop
 |mk (a:_) (xs:_) (q0:v=.ref a) (q1:kq K H a xs) (q2:xs.length=n) (q3:t xs σ H Q)
def OU(K:Fg0)(n:Nat)(t:DC):TG:=λv σ H Q=>Ms K n t v σ H Q
theorem HY{es:List Expr}{k:Nat}{t:DC}{n:Nat}(hc:X.calm=true)(h:PGs X es t)
  (hn:(assignEach es X.env).length=n:=by rfl) (hst:(assignEach es X.env).findIdx? (·.1)=none:=by rfl):PG X (.Tuple es k pos) (OU X.K n t):=by
 intro pins s σ H v u Q I r hw
 obtain⟨a,xs,e1,hq,hl,hw⟩:=hw
 subst e1
 cases r
 obtain⟨its,rv,ht,hz⟩:=I.tuple hq
 refine assign_Tuple_tuple (I.ok.hd hc) ht (by simp[hn,<- hl,rv.length]) hst λh' hx=>?_
 have I1 :=I.kept (t':=s.toks) λb o e=>hx b o (zW (zN e)) e
 exact h pins _ σ H xs _ Q I1 zL hw
def Pl(to ti:TE)(t:E9):TG:=λv σ H Q=>to σ H λo H1=>ti σ H1 λi H2=>t o i v H2 λH3=>Q σ H3
theorem B8{o i:Expr}{to ti:TE}{t:E9}(ho:PE X o to)(hi:PE X i ti)(hs:JK X t)
  (ha:∀v,assign (.Subscript o i pos) X.env v=(do
   let ov <- holding [v] (eval o X.env)
   let iv <- holding [v,ov] (eval i X.env)
   standAt pos
   holding [v,ov,iv] (setItem ov iv v)
   release [v,ov,iv] []):=by rfl):PG X (.Subscript o i pos) (Pl to ti t):=by
 intro pins s σ H v u Q I r h
 refine zd (ZH (aW (ho pins s σ H _ I h) λov s1 zq=>?_))
 obtain⟨x,H1,I1,r1,q1⟩:=zq
 refine zd (ZH (aW (hi pins s1 σ H1 _ I1 q1) λiv s2 zq=>?_))
 obtain⟨y,H2,I2,r2,q2⟩:=zq
 exact zd (wpAny_standAt (zd (ZH (aW (hs pins s2 σ H2 x y v ov iv u _ I2 r1 r2 r q2) λ_ s3 ⟨H3,I3,q3⟩=>(wpAny_release ⟨σ,H3,I3,q3⟩)))))
def Np(te:TE)(g:TG):TS:=λD σ H=>te σ H λx H1=>g x σ H1 D.nx
theorem sE{tg e:Expr}{te:TE}{g:TG}(he:PE X e te)(hg:PG X tg g)(hs:swapsWithSole [tg] e pos.line X.env=pure false:=by rfl)(hw:swappedStores [tg] e X.env=pure none:=by rfl)
  (h1:(assignEach [tg] X.env).map (·.2)=[assign tg X.env]:=by rfl):PS X (.Assign [tg] e pos) (Np te g):=by
 intro pins s σ H D I h
 refine wpAny_Assign_stores (aW (he pins s σ H _ I h) λv s1 ⟨x,H1,I1,r1,q1⟩=>?_) hs hw
 rw[h1]
 exact aW (hg pins s1 σ H1 x v _ I1 r1 q1) λ_ s2 q=>q
theorem fR{i:Nat}{x:Str}{e:Expr}{te:TE}{pos':Pos}(hN:X.N.Nodup)(hi:X.N[i]?=some x)(hx:sR X.env.scope x)(he:PE X e te)(hs:swapsWith e (some (.Name x pos')) pos.line X.env=pure false:=by rfl)(hf:X.fn x=true\/X.env.scope.names.lookup x=some .local:=by first|exact .inl rfl|exact .inr rfl|assumption) :
  PS X (.Assign [.Name x pos'] e pos) (Np te (F4 i)):=by
 intro pins s σ H D I h
 refine wpAny_Assign_Name (aW (he pins s σ H _ I h) λv s1 zq=>?_) hs
 obtain⟨y,H1,I1,r1,q1⟩:=zq
 exact jd I1 hN hi hx r1 (λs2 I2=>⟨_,H1,I2,q1⟩) hf
end
section
variable {X:Cx}{pos:Pos}
def J9(c:TT)(tb:TS):TS:=λD σ H=>∃W:Nat->St->Hp->Prop,(∃m,W m σ H)/\∀m σ H,W m σ H ->
 c σ H λb H1=>if b=true then ∃N:St->Hp->Prop,(∀σ' H',N σ' H'->∃m',m'<m/\W m' σ' H')/\tb { D with nx:=N,ct:=N,bk:=D.nx } σ H1 else D.nx σ H1
theorem Bp(hp:PassesOwn (model X.prog X.w) X.A X.env X.xe)(hc:PT X c tc)(hb:PSs X body tb):PS X (.While c body [] pos) (J9 tc tb):=by
 intro pins s σ H D I h;obtain⟨W,⟨m0,w0⟩,tE⟩:=h;refine wpAny_While (codeAny_whileLoop (λn s'=>∃σ' H',Inv X pins σ' H' s'/\W n σ' H') ?_ m0 ⟨σ,H,I,w0⟩);rintro n s1 ⟨σ1,H1,I1,w1⟩;refine zzu hp (aW (hc pins s1 σ1 H1 _ I1 (tE n σ1 H1 w1)) λb s2 zq=>?_);obtain⟨H2,I2,q2⟩:=zq;cases b with
 |true=>
  obtain⟨N,hN,q2⟩:=q2;rw[zF rfl];refine zzu hp (aW (hb pins s2 σ1 H2 _ I2 q2) λf s3 q3=>?_);cases f with
  |next=>obtain⟨σ3,H3,I3,n3⟩:=q3;obtain⟨m',hm,w3⟩:=hN σ3 H3 n3;exact⟨m',hm,σ3,H3,I3,w3⟩
  |cont=>obtain⟨σ3,H3,I3,n3⟩:=q3;obtain⟨m',hm,w3⟩:=hN σ3 H3 n3;exact⟨m',hm,σ3,H3,I3,w3⟩
  |brk=>exact q3
  |ret v=>exact q3
 |false=>exact wpAny_execs_nil ⟨σ1,H2,I2,q2⟩
end
structure It where
 go:Nat->Hp->Prop
 yld:Nat->Hp->V->Hp->Prop
 stop:Nat->Hp->Prop
def jg(X:Cx)(pins:List (Addr×Obj))(H:Hp)(b:Addr):Prop :=
 H b=none/\b≠X.env.locals/\b∉X.fs/\(b∈X.ex\/X.s₀.heap.objs.size<=b)/\(∀x c,X.env.cells.lookup x=some c->c≠b)/\∀p∈X.pn++pins,p.1≠b
theorem Inv.fpOk{X:Cx}{pins:List (Addr×Obj)}{σ:St}{H H':Hp}{s:Shared}{b:Addr}(I:Inv X pins σ H s)(hb:s.heap.objs.size<=b)(hn:H' b=none):jg X pins H' b:=by refine⟨hn,ZX (zG I.lt hb),I.nofs hb,.inr (zf I.sz hb),λx c e z=>?_,λp hp z=>?_⟩;obtain⟨v,q⟩:=I.cell x c e;exact absurd (zG q.lt (by simp_all)) (ZG _);exact absurd (zG (zN (I.pin p hp).1) (by simp_all)) (ZG _)
structure Turn (P:Program) (w:World) (K:Fg0) (tg:Expr) (J:It) (fp:List Addr) (it:Addr) (tn:Nat->Heap->Prop):Prop where
 mem:it∈fp
 obj:∀i h,tn i h->∀b∈fp,∃o,h.get? b=some o/\∀v,o.data≠.cell v
 keep:∀i h h',tn i h->(∀b∈fp,∀o,h.get? b=some o->h'.get? b=some o)->tn i h'
 item:∀(X:Cx),X.prog=P->X.w=w->X.K=K->X.calm=true->∀(i:Nat) (pins:List (Addr×Obj)) (s:Shared) (σ:St) (H:Hp) (E:Value->Shared->Prop),Inv X pins σ H s->(∀b∈fp,jg X pins H b)->tn i s.heap->J.go i H ->
  wpAny (model P w) X.A (pyNext (.ref it)) (λr s1=>∃u,r=some u /\
   wpAny (model P w) X.A (letOwnedTupleGo tg (.ref it) u) (λ_ s2=>∃x H',Inv X pins σ H' s2/\RelV x u/\J.yld i H x H'/\tn (i+1) s2.heap/\∀b∈fp,H' b=none) E s1) E s
 done:∀(X:Cx),X.prog=P->X.w=w->X.K=K->X.calm=true->∀(i:Nat) (pins:List (Addr×Obj)) (s:Shared) (σ:St) (H:Hp) (E:Value->Shared->Prop),Inv X pins σ H s->(∀b∈fp,jg X pins H b)->tn i s.heap->J.stop i H ->
  wpAny (model P w) X.A (pyNext (.ref it)) (λr s1=>r=none/\Inv X pins σ H s1) E s
 self:∀(A:Around) (i:Nat) (s:Shared) (Q:Value->Shared->Prop) (E:Value->Shared->Prop),tn i s.heap->Q (.ref it) s->wpAny (model P w) A (pyIter (.ref it)) Q E s
abbrev TI:=St->Hp->(It->Hp->Prop)->Prop
def NK(X:Cx)(pins:List (Addr×Obj))(σ:St)(tg:Expr)(R:It->Hp->Prop)(itv:Value)(s2:Shared):Prop :=
 ∃(it:Addr) (fp:List Addr) (tn:Nat->Heap->Prop) (J:It) (H':Hp),itv=.ref it/\Inv X pins σ H' s2/\Turn X.prog X.w X.K tg J fp it tn/\tn 0 s2.heap/\(∀b∈fp,jg X pins H' b)/\R J H'
def PI(X:Cx)(tg iter:Expr)(wi:TI):Prop :=
 ∀(pins:List (Addr×Obj)) (s:Shared) (σ:St) (H:Hp) (R:It->Hp->Prop),Inv X pins σ H s->wi σ H R ->
  wpAny (model X.prog X.w) X.A (eval iter X.env) (λv s1=>wpAny (model X.prog X.w) X.A (pyIter v) (NK X pins σ tg R) X.xe s1) X.xe s
theorem qv {M:Model} {A:Around} {E:Value→Shared→Prop} {s:Shared} {tg:Expr} {it:Addr} {u:Value} {o:Obj} {n:String} {vs:Array Value} {Q:Unit→Shared→Prop} (ho:s.heap.get? it=some o) (hc:o.cls=.type n) (hd:o.data=.fields vs)
    (hn:["enumerate","zip","dict_itemiterator","dict_reverseitemiterator","odict_iterator","itertools.zip_longest","itertools.pairwise"].contains n=false) (hQ:Q () s):wpAny M A (letOwnedTupleGo tg (.ref it) u) Q E s:=by
  unfold letOwnedTupleGo
  cases tg <;> first
    | exact zB hQ
    | (cases u <;> first
        | exact zB hQ
        | (refine zd (wpAny_load ho ?_)
           rw [hc,hd]
           show wpAny M A (if (["enumerate","zip","dict_itemiterator","dict_reverseitemiterator","odict_iterator","itertools.zip_longest","itertools.pairwise"].contains n&&vs[0]? == some (rawInt _))=true then _ else _) Q E s
           rw [zP (by intro h;rw [hn,Bool.false_and] at h;cases h)]
           exact zB hQ))

noncomputable def vm(K:Fg0)(a:Addr):It :=
 ⟨λi H=>∃xs x,iT K H a xs/\xs[i]?=some x,λi H x H'=>H'=H/\∀xs,iT K H a xs->xs[i]?=some x,λi H=>∃xs,iT K H a xs/\xs.length<=i⟩
noncomputable def yh(K:Fg0)(a:Addr):It :=
 ⟨λi H=>∃xs x,kq K H a xs/\xs[i]?=some x,λi H x H'=>H'=H/\∀xs,kq K H a xs->xs[i]?=some x,λi H=>∃xs,kq K H a xs/\xs.length<=i⟩
def x9(lo:Int)(n:Nat):It:=⟨λi _=>i<n,λi H x H'=>H'=H/\x=.int (lo+i),λi _=>n<=i⟩
theorem xI{K:Fg0}(a it):Turn P w K tg (vm K a) [it] it (λi h=>h.IsListIter it a i) where
 mem:=zS
 obj:=λi h st b hb=>by
  have e:b=it:=by simpa using hb
  subst e;obtain⟨o,e,c,d⟩:=st;exact⟨o,e,λv z=>by rw[d]at z;cases z⟩
 keep:=λi h h' st k=>st.at λo e=>k it zS o e
 item:=by intro X hP hw hK hc i pins s σ H E I hf st hg;subst hP hw hK;obtain⟨xs,x,hq,hx⟩:=hg;obtain⟨its,rv,p,hz⟩:=I.list hq;obtain⟨u,hu,ru⟩:=rv.get hx;obtain⟨f0,f1,f2,f3,f4,f5⟩:=hf it zS;refine wpAny_pyNext_list_item st p.isList (x:=u) (by simpa using hu) λh' st' sb=>?_;have I1:Inv X pins σ H { s with heap:=h' }:=I.turned (t':=s.toks) (λb o hb e=>(sb.2 b hb).trans e) f0 f1 f3 f4 f5;obtain⟨o,e,c,d⟩:=id st';exact⟨u,rfl,qv (s:={ s with heap:=h' }) e c d zD ⟨x,H,I1,ru,⟨rfl,λys hy=>by rw[I.list_inj hy hq];exact hx⟩,st',λb hb=>(hf b hb).1⟩⟩
 done:=by intro X hP hw hK hc i pins s σ H E I hf st hg;subst hP hw hK;obtain⟨xs,hq,hx⟩:=hg;obtain⟨its,rv,p,hz⟩:=I.list hq;obtain⟨f0,f1,f2,f3,f4,f5⟩:=hf it zS;have hl:=rv.length;exact wpAny_pyNext_list_end (I.ok.hd hc) st p.isList (by simp;lia) λh' eb=>⟨rfl,I.turned (t':=s.toks) (λb o hb e=>eb b o hb e) f0 f1 f3 f4 f5⟩
 self:=λ_ _ _ _ _ st h=>wpAny_pyIter_listiter st h
theorem sY{K:Fg0}(a it):Turn P w K tg (yh K a) [it] it (λi h=>h.IsTupleIter it a i) where
 mem:=zS
 obj:=λi h st b hb=>by
  have e:b=it:=by simpa using hb
  subst e
  obtain⟨o,e,c,d⟩:=st
  grind
 keep:=λi h h' st k=>st.at λo e=>k it zS o e
 item:=by intro X hP hw hK hc i pins s σ H E I hf st hg;subst hP hw hK;obtain⟨xs,x,hq,hx⟩:=hg;obtain⟨its,rv,p,hz⟩:=I.tuple hq;obtain⟨u,hu,ru⟩:=rv.get hx;obtain⟨f0,f1,f2,f3,f4,f5⟩:=hf it zS;refine wpAny_pyNext_tuple_item st (show s.heap.IsTuple a its.toArray from p) (x:=u) (by simpa using hu) λh' st' sb=>?_;have I1:Inv X pins σ H { s with heap:=h' }:=I.turned (t':=s.toks) (λb o hb e=>(sb.2 b hb).trans e) f0 f1 f3 f4 f5;obtain⟨o,e,c,d⟩:=id st';exact⟨u,rfl,qv (s:={ s with heap:=h' }) e c d zD ⟨x,H,I1,ru,⟨rfl,λys hy=>by rw[I.tuple_inj hy hq];exact hx⟩,st',λb hb=>(hf b hb).1⟩⟩
 done:=by intro X hP hw hK hc i pins s σ H E I hf st hg;subst hP hw hK;obtain⟨xs,hq,hx⟩:=hg;obtain⟨its,rv,p,hz⟩:=I.tuple hq;obtain⟨f0,f1,f2,f3,f4,f5⟩:=hf it zS;have hl:=rv.length;exact wpAny_pyNext_tuple_end (I.ok.hd hc) st (show s.heap.IsTuple a its.toArray from p) (by simp;lia) λh' eb=>⟨rfl,I.turned (t':=s.toks) (λb o hb e=>eb b o hb e) f0 f1 f3 f4 f5⟩
 self:=λ_ _ _ _ _ st h=>wpAny_pyIter_tupleiter st h
theorem tG{K:Fg0}(it)(lo)(n):Turn P w K tg (x9 lo n) [it] it (λi h=>IsRangeIter h it (lo+(i:Nat)*1) ((n:Int)-(i:Nat)) 1) where
 mem:=zS
 obj:=λi h st b hb=>by grind
 keep:=λi h h' st k=>k it zS _ st
 item:=by intro X hP hw hK hc i pins s σ H E I hf st hg;subst hP hw hK;obtain⟨f0,f1,f2,f3,f4,f5⟩:=hf it zS;have W:=Walks.range (prog:=X.prog) (w:=X.w) (I.ok.hd hc) it lo 1 n;refine W.item i s _ _ hg st λv h' tk hv st' kk=>?_;obtain⟨t,rfl⟩:=hv;have I1:Inv X pins σ H { s with heap:=h',toks:=tk }:=I.turned (λb o hb e=>kk b o (by simpa using hb) e) f0 f1 f3 f4 f5;refine⟨_,rfl,qv (s:={ s with heap:=h',toks:=tk }) (n:="range_iterator") st' rfl rfl zD ⟨.int (lo+i),H,I1,⟨t,?_⟩,⟨rfl,rfl⟩,st',λb hb=>(hf b hb).1⟩⟩;rw[Int.mul_one]
 done:=by intro X hP hw hK hc i pins s σ H E I hf st hg;subst hP hw hK;obtain⟨f0,f1,f2,f3,f4,f5⟩:=hf it zS;exact wpAny_pyNext_range_end (I.ok.hd hc) st (by have:n<=i:=hg;lia) λh' eb=>⟨rfl,I.turned (t':=s.toks) (λb o hb e=>eb b o hb e) f0 f1 f3 f4 f5⟩
 self:=λ_ _ _ _ _ st h=>wpAny_pyIter_rangeiter st h
section
variable {X:Cx}{tg:Expr}
theorem rX{pins:List (Addr×Obj)}{σ:St}{H:Hp}{s:Shared}{R:It->Hp->Prop}{E:Value->Shared->Prop}{lo hi:Int}{t u v:Tok}{tk:Nat}(I:Inv X pins σ H s)(h1:-(2^62)<=lo)(h2:lo<2^62)(h3:-(2^62)<=hi)(h4:hi<2^62)
  (q:R (x9 lo (hi-lo).toNat) H):wpAny (model X.prog X.w) X.A (pyIter (.ref s.heap.objs.size)) (NK X pins σ tg R) E { s with heap:=s.heap.push { cls:=.type "range",data:=.fields #[.int lo t,.int hi u,.int 1 v] },toks:=tk }:=by
 refine wpAny_pyIter_range (IsRange.new ..) (small_one h1 h2 h3 h4) ?_
 have I1:Inv X pins σ H { s with heap:=s.heap.push { cls:=.type "range",data:=.fields #[.int lo t,.int hi u,.int 1 v] },toks:=tk }:=I.kept λb o e=>hps0 _ e
 refine⟨(s.heap.push { cls:=.type "range",data:=.fields #[.int lo t,.int hi u,.int 1 v] }).objs.size,[(s.heap.push { cls:=.type "range",data:=.fields #[.int lo t,.int hi u,.int 1 v] }).objs.size],_,_,H,rfl,
  I1.kept (t':=tk) λb o e=>hps0 _ e,tG _ lo (hi-lo).toNat,?_,λb hb=>?_,q⟩
 ·have e1:lo+((0:Nat):Int)*1=lo:=zS
  have e2:(((hi-lo).toNat:Nat):Int)-((0:Nat):Int)=Builtin.Range.rangeSize lo hi 1:=by rw[rangeSize_one];split<;>lia
  show IsRangeIter _ _ (lo+((0:Nat):Int)*1) ((((hi-lo).toNat:Nat):Int)-((0:Nat):Int)) 1
  rw[e1,e2]
  exact zA _ rfl
 ·have e:b=(s.heap.push { cls:=.type "range",data:=.fields #[.int lo t,.int hi u,.int 1 v] }).objs.size:=by simpa using hb
  subst e
  exact I1.fpOk (zC _) (I1.hok.fresh (zC _))
def Ge(ta:TA):TI:=λσ H R=>ta σ H λvs H1=>∃j:Int,vs=[.int j]/\-(2^62)<=j/\j<2^62/\R (x9 0 j.toNat) H1
def FJ(ta:TA):TI:=λσ H R=>ta σ H λvs H1=>∃i j:Int,vs=[.int i,.int j]/\(-(2^62)<=i/\i<2^62/\-(2^62)<=j/\j<2^62)/\R (x9 i (j-i).toNat) H1
theorem nS{a:Expr}{ta:TA}{p pos:Pos}(hg:Gl X "range")(hm:X.mg "range"=none)(ha:PA X [a] ta)(hs:starEach [a] X.env=[(false,eval a X.env)]:=by rfl):PI X tg (.Call (.Name "range" p) [a] [] pos) (Ge ta):=by
 intro pins s σ H R I h;refine Call_ (ef I hg hm boot_range (ZC (aW (ha pos pins s σ H _ I h) λus s1 ⟨vs,H1,I1,r1,q1⟩=>?_) hs rfl));obtain⟨j,e,q1,q2,q⟩:=q1;subst e;cases r1 with
 |cons r rr=>cases rr;obtain⟨t,rfl⟩:=r;exact call_range_1 (rX I1 zS zS q1 q2 (by simp_all))
theorem nM(hg:Gl X "range")(hm:X.mg "range"=none)(ha:PA X [a,b] ta)(hs:starEach [a,b] X.env=[(false,eval a X.env),(false,eval b X.env)]:=by rfl)(hs2:starEach [b] X.env=[(false,eval b X.env)]:=by rfl) :
  PI X tg (.Call (.Name "range" p) [a,b] [] pos) (FJ ta):=by
 intro pins s σ H R I h
 refine Call_ (ef I hg hm boot_range (ZC (aW (ha pos pins s σ H _ I h) λus s1 ⟨vs,H1,I1,r1,q1⟩=>?_) (by simp_all) (by rw[hs2];rfl)))
 obtain⟨i,j,e,⟨q1,q2,q3,q4⟩,q⟩:=q1
 subst e
 cases r1 with
 |cons r rr =>
  cases rr with
  |cons r' rr =>
   cases rr
   obtain⟨t,rfl⟩:=r
   obtain⟨t',rfl⟩:=r'
   exact call_range_2 (rX I1 q1 q2 q3 q4 q)
def PH(wi:TI)(g:TG)(tb:TS):TS:=λD σ H=>wi σ H λJ H1=>∃W:Nat->Nat->St->Hp->Prop,(∃m,W 0 m σ H1)/\∀i m σ H,W i m σ H ->
 (J.stop i H/\D.nx σ H)\/(J.go i H/\∃N:St->Hp->Prop,(∀σ' H',N σ' H'->∃m',m'<m/\W (i+1) m' σ' H')/\∀x H',J.yld i H x H'->g x σ H' λσ2 H2=>tb { D with nx:=N,ct:=N,bk:=D.nx } σ2 H2)
def lM(fp:List Addr)(h:Heap):List (Addr×Obj):=fp.filterMap λb=>(h.get? b).map λo=>(b,o)
theorem fY(hb:b∈fp)(e:h.get? b=some o):(b,o)∈lM fp h:=zzM.mpr ⟨b,hb,by simp_all⟩
theorem xD(hp:p∈lM fp h):p.1∈fp/\h.get? p.1=some p.2:=by
 obtain⟨b,hb,e⟩:=zzM.mp hp
 cases q:h.get? b with
 |none=>grind
 |some o =>
  grind
theorem Inv.pinned{pins:List (Addr×Obj)}{σ:St}{H:Hp}{s:Shared}{fp:List Addr}(I:Inv X pins σ H s)(hf:∀b∈fp,jg X pins H b)(ho:∀b∈fp,∃o,s.heap.get? b=some o/\∀v,o.data≠.cell v):Inv X (pins++lM fp s.heap) σ H s :=
 I.pins_of λp hp=>(Ze.mp hp).elim (λz=>I.pin p (Zh _ z)) λz=>by
  obtain⟨hb,e⟩:=xD z
  obtain⟨f0,f1,f2,_⟩:=hf p.1 hb
  grind
theorem Inv.unpinned{pins pl:List (Addr×Obj)}{σ:St}{H:Hp}{s:Shared}(I:Inv X (pins++pl) σ H s):Inv X pins σ H s:=I.pins_of λp hp=>I.pin p (Zh _ (Zl _ hp))
theorem lL(hp:PassesOwn (model X.prog X.w) X.A X.env X.xe)(hc:X.calm=true)(hi:PI X tg iter wi)(hg:PG X tg g)(hb:PSs X body tb)
  (hs:∀x,foldedSetIterable iter X.env x=pure x:=by intro _;rfl):PS X (.For tg iter body [] pos) (PH wi g tb):=by
 intro pins s σ H D I h
 refine wpAny_For (aW (hi pins s σ H _ I h) λv s1 h1=>aW h1 λitv s2 h2=>?_) hs
 obtain⟨it,fp,tn,J,H2,e,I2,T,st2,f2,W,⟨m0,w0⟩,tE⟩:=h2
 subst e
 have stat:∀{H':Hp},(∀b∈fp,H' b=none)->∀b∈fp,jg X pins H' b:=λhn b hb=>⟨hn b hb,(f2 b hb).2⟩
 refine codeAny_forLoop_any (λn s'=>∃i σ' H',Inv X pins σ' H' s'/\tn i s'.heap/\(∀b∈fp,H' b=none)/\W i n σ' H') ?_ m0 ⟨0,σ,H2,I2,st2,λb hb=>(f2 b hb).1,w0⟩
 rintro n s3 ⟨i,σ3,H3,I3,st3,fr3,w3⟩
 rcases tE i n σ3 H3 w3 with⟨stop,qn⟩|⟨go,N,hN,step⟩
 ·refine zzu hp (aW (T.done X rfl rfl rfl hc i pins s3 σ3 H3 X.xe I3 (stat fr3) st3 stop) λr s4 zq=>?_)
  obtain⟨hr,I4⟩:=zq
  subst hr
  exact wpAny_execs_nil ⟨σ3,H3,I4,qn⟩
 ·refine zzu hp (aW (T.item X rfl rfl rfl hc i pins s3 σ3 H3 X.xe I3 (stat fr3) st3 go) λr s4 zq=>?_)
  obtain⟨u,hr,h4⟩:=zq
  subst hr
  refine zzu hp (aW h4 λ_ s5 zq=>?_)
  obtain⟨x,H5,I5,r5,y5,st5,fr5⟩:=zq
  have I5':=I5.pinned (stat fr5) (T.obj _ _ st5)
  refine zzu hp (aW (hg _ s5 σ3 H5 x u _ I5' r5 (step x H5 y5)) λ_ s6 zq=>?_)
  obtain⟨σ6,H6,I6,q6⟩:=zq
  refine zzu hp (aW (hb _ s6 σ6 H6 _ I6 q6) λf s7 q7=>?_)
  have again:∀{σ7:St}{H7:Hp},Inv X (pins++lM fp s5.heap) σ7 H7 s7->N σ7 H7->∃m,m<n/\∃i σ' H',Inv X pins σ' H' s7/\tn i s7.heap/\(∀b∈fp,H' b=none)/\W i m σ' H':=λ{σ7 H7} I7 n7=>by obtain⟨m',hm,w7⟩:=hN σ7 H7 n7;refine⟨m',hm,i+1,σ7,H7,I7.unpinned,T.keep _ _ _ st5 λb hb o e=>(I7.pin (b,o) (Zh _ (Zh _ (fY hb e)))).1,λb hb=>?_,w7⟩;obtain⟨o,e,d⟩:=T.obj _ _ st5 b hb;exact(I7.pin (b,o) (Zh _ (Zh _ (fY hb e)))).2.1
  cases f with
  |next=>obtain⟨σ7,H7,I7,n7⟩:=q7;exact again I7 n7
  |cont=>obtain⟨σ7,H7,I7,n7⟩:=q7;exact again I7 n7
  |brk=>obtain⟨σ7,H7,I7,q7⟩:=q7;exact⟨σ7,H7,I7.unpinned,q7⟩
  |ret v=>obtain⟨x7,σ7,H7,I7,r7,q7⟩:=q7;exact⟨x7,σ7,H7,I7.unpinned,r7,q7⟩
end
theorem yx{K:Fg0}{g:TG}{tb:TS}{D:Ends}(Pv:Nat->St->Hp->Prop)(h0:Pv 0 σ H)(hl:∀i σ H,i<=xs.length->Pv i σ H->iT K H a xs)
  (hs:∀i x σ H,xs[i]?=some x->Pv i σ H->g x σ H λσ2 H2=>tb { D with nx:=Pv (i+1),ct:=Pv (i+1),bk:=D.nx } σ2 H2) (hd:∀σ H,Pv xs.length σ H->D.nx σ H) :
  ∃W:Nat->Nat->St->Hp->Prop,(∃m,W 0 m σ H)/\∀i m σ H,W i m σ H ->
   ((vm K a).stop i H/\D.nx σ H)\/((vm K a).go i H/\∃N:St->Hp->Prop,(∀σ' H',N σ' H'->∃m',m'<m/\W (i+1) m' σ' H')/\∀x H',(vm K a).yld i H x H'->g x σ H' λσ2 H2=>tb { D with nx:=N,ct:=N,bk:=D.nx } σ2 H2):=by
 refine⟨λi m σ H=>m=xs.length-i/\i<=xs.length/\Pv i σ H,⟨xs.length,zS,ZD _,h0⟩,?_⟩
 rintro i m σ H ⟨rfl,hi,p⟩
 have q:=hl i σ H hi p
 by_cases hlt:i<xs.length
 ·refine .inr ⟨⟨xs,xs[i],q,by simp[hlt]⟩,Pv (i+1),λσ' H' p'=>⟨xs.length-(i+1),zL,rfl,hlt,p'⟩,λx H' y=>?_⟩
  obtain⟨e,y⟩:=y
  subst e
  exact hs i x σ _ (y xs q) p
 ·have e:i=xs.length:=zL
  subst e
  exact .inl ⟨⟨xs,q,zC _⟩,hd σ H p⟩
theorem Ew{K:Fg0}{g:TG}{tb:TS}{D:Ends}(Pv:Nat->St->Hp->Prop)(h0:Pv 0 σ H)(hl:∀i σ H,i<=xs.length->Pv i σ H->kq K H a xs)
  (hs:∀i x σ H,xs[i]?=some x->Pv i σ H->g x σ H λσ2 H2=>tb { D with nx:=Pv (i+1),ct:=Pv (i+1),bk:=D.nx } σ2 H2) (hd:∀σ H,Pv xs.length σ H->D.nx σ H) :
  ∃W:Nat->Nat->St->Hp->Prop,(∃m,W 0 m σ H)/\∀i m σ H,W i m σ H ->
   ((yh K a).stop i H/\D.nx σ H)\/((yh K a).go i H/\∃N:St->Hp->Prop,(∀σ' H',N σ' H'->∃m',m'<m/\W (i+1) m' σ' H')/\∀x H',(yh K a).yld i H x H'->g x σ H' λσ2 H2=>tb { D with nx:=N,ct:=N,bk:=D.nx } σ2 H2):=by
 refine⟨λi m σ H=>m=xs.length-i/\i<=xs.length/\Pv i σ H,⟨xs.length,zS,ZD _,h0⟩,?_⟩
 rintro i m σ H ⟨rfl,hi,p⟩
 have q:=hl i σ H hi p
 by_cases hlt:i<xs.length
 ·refine .inr ⟨⟨xs,xs[i],q,zS⟩,Pv (i+1),λσ' H' p'=>⟨xs.length-(i+1),zL,rfl,hlt,p'⟩,λx H' y=>?_⟩
  obtain⟨e,y⟩:=y
  subst e
  exact hs i x σ _ (y xs q) p
 ·have e:i=xs.length:=zL
  subst e
  exact .inl ⟨⟨xs,q,zC _⟩,hd σ H p⟩
theorem wJ{lo:Int}{g:TG}{tb:TS}{D:Ends}(Pv:Nat->St->Hp->Prop)(h0:Pv 0 σ H)
  (hs:∀i σ H,i<n->Pv i σ H->g (.int (lo+i)) σ H λσ2 H2=>tb { D with nx:=Pv (i+1),ct:=Pv (i+1),bk:=D.nx } σ2 H2) (hd:∀σ H,Pv n σ H->D.nx σ H) :
  ∃W:Nat->Nat->St->Hp->Prop,(∃m,W 0 m σ H)/\∀i m σ H,W i m σ H ->
   ((x9 lo n).stop i H/\D.nx σ H)\/((x9 lo n).go i H/\∃N:St->Hp->Prop,(∀σ' H',N σ' H'->∃m',m'<m/\W (i+1) m' σ' H')/\∀x H',(x9 lo n).yld i H x H'->g x σ H' λσ2 H2=>tb { D with nx:=N,ct:=N,bk:=D.nx } σ2 H2):=by
 refine⟨λi m σ H=>m=n-i/\i<=n/\Pv i σ H,⟨n,rfl,ZD _,h0⟩,?_⟩
 rintro i m σ H ⟨rfl,hi,p⟩
 by_cases hlt:i<n
 ·refine .inr ⟨hlt,Pv (i+1),λσ' H' p'=>⟨n-(i+1),zL,rfl,hlt,p'⟩,λx H' y=>?_⟩
  obtain⟨e,y⟩:=y
  simp_all
 ·have e:i=n:=zL
  subst e
  exact .inl ⟨zC _,hd σ H p⟩
abbrev R2:=V->V->Hp->VK->Prop
def hU(X:Cx)(f:Value->Value->Sem Value)(r:R2):Prop :=
 ∀(pins:List (Addr×Obj)) (s:Shared) (σ:St) (H:Hp) (x y:V) (v u:Value) (Q:VK),Inv X pins σ H s->RelV x v->RelV y u->r x y H Q ->
  wpAny (model X.prog X.w) X.A (f v u) (EP X pins σ Q) X.xe s
def Oq(X:Cx)(f:Value->Sem Value)(r:V->Hp->VK->Prop):Prop :=
 ∀(pins:List (Addr×Obj)) (s:Shared) (σ:St) (H:Hp) (x:V) (v:Value) (Q:VK),Inv X pins σ H s->RelV x v->r x H Q ->
  wpAny (model X.prog X.w) X.A (f v) (EP X pins σ Q) X.xe s
def bx(X:Cx)(f:Value)(r:List V->Hp->VK->Prop):Prop :=
 ∀(pins:List (Addr×Obj)) (s:Shared) (σ:St) (H:Hp) (xs:List V) (us:List Value) (Q:VK),Inv X pins σ H s->Vals xs us->r xs H Q ->
  wpAny (model X.prog X.w) X.A (call f us) (EP X pins σ Q) X.xe s
def Kj(r:R2)(ta tb:TE):TE:=λσ H Q=>ta σ H λx H1=>tb σ H1 λy H2=>r x y H2 Q
def RV(r:V->Hp->VK->Prop)(ta:TE):TE:=λσ H Q=>ta σ H λx H1=>r x H1 Q
def rI(C:Int->Int->Prop)(g:Int->Int->V):R2:=λx y H Q=>∃i j,x=.int i/\y=.int j/\C i j/\Q (g i j) H
def Fo(g:Int->Int->V):R2:=λx y H Q=>∃i j,x=.int i/\y=.int j/\Q (g i j) H
def rU(g:Int->V):V->Hp->VK->Prop:=λx H Q=>∃i,x=.int i/\Q (g i) H
section
variable {X:Cx}{a b c:Expr}{ta tb tc:TE}{pos:Pos}
theorem GC(ha:PE X a ta)(hb:PE X b tb){pins:List (Addr×Obj)}{s:Shared}{σ:St}{H:Hp}{R:V->V->Hp->Prop}(I:Inv X pins σ H s)
 (h:ta σ H λx H1=>tb σ H1 λy H2=>R x y H2) {Q:Value->Shared->Prop}{f:Value->Value->Sem Value}
 (hf:∀v u s2 x y H2,Inv X pins σ H2 s2->RelV x v->RelV y u->R x y H2->wpAny (model X.prog X.w) X.A (f v u) Q X.xe s2) :
 wpAny (model X.prog X.w) X.A (eval a X.env) (λv s₁=>wpAny (model X.prog X.w) X.A (eval b X.env) (λu s₂=>wpAny (model X.prog X.w) X.A (f v u) Q X.xe s₂) X.xe s₁) X.xe s:=aW (ha pins s σ H _ I h) λv s1 zq=>by obtain⟨x,H1,I1,r1,q1⟩:=zq;exact(aW (hb pins s1 σ H1 _ I1 q1) λu s2 ⟨y,H2,I2,r2,q2⟩=>(hf v u s2 x y H2 I2 r1 r2 q2))
theorem uZ{op:Operator}{r:R2}(ho:hU X (binaryOp op) r)(ha:PE X a ta)(hb:PE X b tb):PE X (.BinOp a op b pos) (Kj r ta tb):=by intro pins s σ H Q I h;exact wpAny_BinOp (GC ha hb I h λv u s2 x y H2 I2 rx ry q=>ho pins s2 σ H2 x y v u Q I2 rx ry q)
theorem Kn(ho:Oq X (unaryOp op) r)(ha:PE X a ta):PE X (.UnaryOp op a pos) (RV r ta):=by intro pins s σ H Q I h;exact UnaryOp_ (aW (ha pins s σ H _ I h) λv s1 ⟨x,H1,I1,r1,q1⟩=>ho pins s1 σ H1 x v Q I1 r1 q1)
theorem opI{g:Int->Int->Int}
  (rule:∀(i j:Int) (t u:Tok) (s:Shared) (Q:Value->Shared->Prop) (E:Value->Shared->Prop),C i j->Q (.int (g i j) s.toks) { s with toks:=s.toks+1 }->wpAny (model X.prog X.w) X.A (f (.int i t) (.int j u)) Q E s) :
  hU X f (rI C λi j=>.int (g i j)):=by
 intro pins s σ H x y v u Q I rx ry h
 obtain⟨i,j,rfl,rfl,hc,q⟩:=h
 obtain⟨t,rfl⟩:=rx
 obtain⟨t',rfl⟩:=ry
 exact rule i j t t' s _ _ hc ⟨.int (g i j),H,I.tok _,⟨_,rfl⟩,q⟩
theorem Mj{g:Int->Int->Int}
  (rule:∀(i j:Int) (t u:Tok) (s:Shared) (Q:Value->Shared->Prop) (E:Value->Shared->Prop),Q (.int (g i j) s.toks) { s with toks:=s.toks+1 }->wpAny (model X.prog X.w) X.A (f (.int i t) (.int j u)) Q E s) :
  hU X f (Fo λi j=>.int (g i j)):=by
 intro pins s σ H x y v u Q I rx ry h
 obtain⟨i,j,rfl,rfl,q⟩:=h
 obtain⟨t,rfl⟩:=rx
 obtain⟨t',rfl⟩:=ry
 exact rule i j t t' s _ _ ⟨.int (g i j),H,I.tok _,⟨_,rfl⟩,q⟩
theorem EI{g:Int->Int->Bool}
  (rule:∀(i j:Int) (t u:Tok) (s:Shared) (Q:Value->Shared->Prop) (E:Value->Shared->Prop),Q (.bool (g i j)) s->wpAny (model X.prog X.w) X.A (f (.int i t) (.int j u)) Q E s) :
  hU X f (Fo λi j=>.bl (g i j)):=by
 intro pins s σ H x y v u Q I rx ry h
 obtain⟨i,j,rfl,rfl,q⟩:=h
 obtain⟨t,rfl⟩:=rx
 obtain⟨t',rfl⟩:=ry
 exact rule i j t t' s _ _ ⟨.bl (g i j),H,I,rfl,q⟩
def Qf(i j:Int):Prop:=0<=j/\j<=1000000/\i.natAbs<2^64
theorem Gi:hU X (binaryOp .Add) (Fo λi j=>.int (i+j)):=Mj λ_ _ _ _ _ _ _ q=>add_int q
theorem Gm:hU X (binaryOp .Sub) (Fo λi j=>.int (i-j)):=Mj λ_ _ _ _ _ _ _ q=>sub_int q
theorem Ej:hU X (binaryOp .Mod) (rI (λ_ j=>j≠0) λi j=>.int (i.fmod j)):=opI λ_ _ _ _ _ _ _ hc q=>mod_int' hc q
theorem Ha:hU X (binaryOp .Pow) (rI Qf λi j=>.int (i^j.toNat)):=opI λ_ _ _ _ _ _ _ hc q=>pow_int_small hc.1 hc.2.1 hc.2.2 q
theorem NQ{g:Int->Int}
  (rule:∀(i:Int) (t:Tok) (s:Shared) (Q:Value->Shared->Prop) (E:Value->Shared->Prop),Q (.int (g i) s.toks) { s with toks:=s.toks+1 }->wpAny (model X.prog X.w) X.A (f (.int i t)) Q E s) :
  Oq X f (rU λi=>.int (g i)):=by
 intro pins s σ H x v Q I rx h
 obtain⟨i,rfl,q⟩:=h
 obtain⟨t,rfl⟩:=rx
 exact rule i t s _ _ ⟨.int (g i),H,I.tok _,⟨_,rfl⟩,q⟩
theorem JM:Oq X (unaryOp .USub) (rU λi=>.int (-i)):=NQ λ_ _ _ _ _ q=>neg_int q
end
noncomputable def Hr:V->V->Bool
 |.non,.non=>true|.non,.int _=>true|.int _,.non=>true|.non,.bl _=>true|.bl _,.non=>true|.non,.str _=>true|.str _,.non=>true
 |.int _,.int _=>true|.bl _,.bl _=>true|.str _,.str _=>true|.byt _,.byt _=>true
 |.int _,.str _=>true|.str _,.int _=>true|.bl _,.str _=>true|.str _,.bl _=>true
 |_,_=>false
def RM:R2:=λx y H Q=>Hr x y=true/\Q (.bl (decide (x=y))) H
def RO:R2:=λx y H Q=>Hr x y=true/\Q (.bl (!decide (x=y))) H
theorem v5:decide (V.int i=V.int j)=(i==j):=by grind
theorem yV:decide (V.bl i=V.bl j)=(i==j):=by grind
theorem vP:decide (V.str i=V.str j)=(i==j):=by grind
theorem uV:decide (V.byt i=V.byt j)=(i.toList==j.toList):=by rw[Bool.eq_iff_iff];simp_all
section
variable {X:Cx}{a b c:Expr}{ta tb tc:TE}{pos:Pos}
theorem aF{pins:List (Addr×Obj)}{σ:St}{H:Hp}{s:Shared}{Q:VK}{k k':Bool}(I:Inv X pins σ H s)(q:Q (.bl k) H)(e:k=k'):EP X pins σ Q (.bool k') s:=by subst e;exact⟨.bl k,H,I,rfl,q⟩
theorem Ld:hU X (compareOp .Eq) RM:=by
 intro pins s σ H x y v u Q I rx ry h;obtain⟨hs,q⟩:=h;cases x with
 |non=>
  cases rx;cases y with
  |non=>cases ry;exact PySem.EqNone.eq_none_none (aF I q zS)
  |bl j=>cases ry;exact PySem.EqNone.eq_none_bool (aF I q zS)
  |int j=>obtain⟨t',rfl⟩:=ry;exact PySem.EqNone.eq_none_int (aF I q zS)
  |str j=>obtain⟨t',rfl⟩:=ry;exact PySem.EqNone.eq_none_str (aF I q zS)
  |_=>exact absurd (show false=true from hs) zU
 |bl i=>
  cases rx;cases y with
  |non=>cases ry;exact PySem.EqNone.eq_bool_none (aF I q zS)
  |bl j=>cases ry;exact eq_bool (aF I q yV)
  |str j=>obtain⟨t',rfl⟩:=ry;exact PySem.EqMixed.eq_bool_str (aF I q zS)
  |_=>exact absurd (show false=true from hs) zU
 |int i=>
  obtain⟨t,rfl⟩:=rx;cases y with
  |non=>cases ry;exact PySem.EqNone.eq_int_none (aF I q zS)
  |int j=>obtain⟨t',rfl⟩:=ry;exact eq_int (aF I q v5)
  |str j=>obtain⟨t',rfl⟩:=ry;exact PySem.EqMixed.eq_int_str (aF I q zS)
  |_=>exact absurd (show false=true from hs) zU
 |str i=>
  obtain⟨t,rfl⟩:=rx;cases y with
  |non=>cases ry;exact PySem.EqNone.eq_str_none (aF I q zS)
  |bl j=>cases ry;exact PySem.EqMixed.eq_str_bool (aF I q zS)
  |int j=>obtain⟨t',rfl⟩:=ry;exact PySem.EqMixed.eq_str_int (aF I q zS)
  |str j=>obtain⟨t',rfl⟩:=ry;exact eq_str (aF I q vP)
  |_=>exact absurd (show false=true from hs) zU
 |byt i=>
  obtain⟨t,rfl⟩:=rx;cases y with
  |byt j=>obtain⟨t',rfl⟩:=ry;exact PySem.W.eq_bytes (aF I q uV)
  |_=>exact absurd (show false=true from hs) zU
 |_=>cases y<;>exact absurd (show false=true from hs) zU
theorem Mb:hU X (compareOp .NotEq) RO:=by
 intro pins s σ H x y v u Q I rx ry h;obtain⟨hs,q⟩:=h;cases x with
 |non=>
  cases rx;cases y with
  |non=>cases ry;exact PySem.EqNone.ne_none_none (aF I q zS)
  |bl j=>cases ry;exact PySem.EqNone.ne_none_bool (aF I q zS)
  |int j=>obtain⟨t',rfl⟩:=ry;exact PySem.EqNone.ne_none_int (aF I q zS)
  |str j=>obtain⟨t',rfl⟩:=ry;exact PySem.EqNone.ne_none_str (aF I q zS)
  |_=>exact absurd (show false=true from hs) zU
 |bl i=>
  cases rx;cases y with
  |non=>cases ry;exact PySem.EqNone.ne_bool_none (aF I q zS)
  |bl j=>cases ry;exact ne_bool (aF I q (congrArg not yV))
  |str j=>obtain⟨t',rfl⟩:=ry;exact PySem.EqMixed.ne_bool_str (aF I q zS)
  |_=>exact absurd (show false=true from hs) zU
 |int i=>
  obtain⟨t,rfl⟩:=rx;cases y with
  |non=>cases ry;exact PySem.EqNone.ne_int_none (aF I q zS)
  |int j=>obtain⟨t',rfl⟩:=ry;exact ne_int (aF I q (congrArg not v5))
  |str j=>obtain⟨t',rfl⟩:=ry;exact PySem.EqMixed.ne_int_str (aF I q zS)
  |_=>exact absurd (show false=true from hs) zU
 |str i=>
  obtain⟨t,rfl⟩:=rx;cases y with
  |non=>cases ry;exact PySem.EqNone.ne_str_none (aF I q zS)
  |bl j=>cases ry;exact PySem.EqMixed.ne_str_bool (aF I q zS)
  |int j=>obtain⟨t',rfl⟩:=ry;exact PySem.EqMixed.ne_str_int (aF I q zS)
  |str j=>obtain⟨t',rfl⟩:=ry;exact ne_str (aF I q (congrArg not vP))
  |_=>exact absurd (show false=true from hs) zU
 |byt i=>
  obtain⟨t,rfl⟩:=rx;cases y with
  |byt j=>obtain⟨t',rfl⟩:=ry;exact PySem.W.ne_bytes (aF I q (congrArg not uV))
  |_=>exact absurd (show false=true from hs) zU
 |_=>cases y<;>exact absurd (show false=true from hs) zU
theorem Le:hU X (compareOp .Lt) (Fo λi j=>.bl (decide (i<j))):=EI λ_ _ _ _ _ _ _ q=>lt_int q
theorem Lp:hU X (compareOp .LtE) (Fo λi j=>.bl (decide (i<=j))):=EI λ_ _ _ _ _ _ _ q=>le_int q
theorem MG:hU X (compareOp .Gt) (Fo λi j=>.bl (decide (j<i))):=EI λ_ _ _ _ _ _ _ q=>gt_int q
theorem N9:hU X (compareOp .GtE) (Fo λi j=>.bl (decide (j<=i))):=EI λ_ _ _ _ _ _ _ q=>ge_int q
theorem II:hU X (compareOp .Is) (λx y H Q=>y=.non/\Q (.bl (decide (x=.non))) H):=by
 intro pins s σ H x y v u Q I rx ry h;obtain⟨rfl,q⟩:=h;cases ry;refine is_none_gen (aF I q ?_)
 cases x<;>first
  |(cases rx;rfl)
  |(obtain⟨t,rfl⟩:=rx;rfl)
theorem Cp:hU X (compareOp .IsNot) (λx y H Q=>y=.non/\Q (.bl (!decide (x=.non))) H):=by
 intro pins s σ H x y v u Q I rx ry h;obtain⟨rfl,q⟩:=h;cases ry;refine isnot_none_gen (aF I q ?_)
 cases x<;>first
  |rfl
  |(obtain⟨t,rfl⟩:=rx;rfl)
def My:HO->Bool
 |.lst _=>true
 |.ins _ _ _=>true
 |_=>false
theorem mY{pins:List (Addr×Obj)}{s:Shared}{σ:St}{H:Hp}{a:Addr}{o:HO}(I:Inv X pins σ H s)(h:H a=some o)(p:My o=true):∃ob,s.heap.get? a=some ob/\ob.cls≠.type "tuple":=by
 cases o with
 |lst xs =>
  obtain⟨_,its,n,_,e⟩:xs.length<=sizeLine/\∃(its:List Value) (n:Nat),Vals xs its/\s.heap.get? a=some { cls:=.type "list",data:=.seq its.toArray n }:=I.hok a _ h
  grind
 |ins C dx fs =>
  have x:=I.hok a _ h
  obtain⟨_,_,_,e,_⟩:=x
  grind
 |_=>exact absurd (p) zU
theorem D5{op:CmpOp}{r:R2}(ho:hU X (compareOp op) r)(ha:PE X a ta)(hb:PE X b tb)(hm:behindInMarks op b=false):PE X (.Compare a [op] [b] pos) (Kj r ta tb):=by intro pins s σ H Q I h;exact wpAny_Compare1 (GC ha hb I h λv u s2 x y H2 I2 rx ry q=>ho pins s2 σ H2 x y v u Q I2 rx ry q) hm
def FV(t:TE):TT:=λσ H Q=>t σ H λx H'=>∃k,x=.bl k/\Q k H'
theorem De(ho:hU X (compareOp op) r)(ha:PE X a ta)(hb:PE X b tb)(hm:behindInMarks op b=false):PT X (.Compare a [op] [b] pos) (FV (Kj r ta tb)):=by
 intro pins s σ H Q I h
 refine wpAny_isTrue_Compare1 (aW (ha pins s σ H _ I h) λv s1 ⟨x,H1,I1,r1,q1⟩=>aW (hb pins s1 σ H1 _ I1 q1) λu s2 ⟨y,H2,I2,r2,q2⟩ =>
  aW (ho pins s2 σ H2 x y v u _ I2 r1 r2 q2) λc s3 zq=>?_) hm
 obtain⟨z,H3,I3,r3,k,e,q3⟩:=zq;subst e;cases r3;exact ZR ⟨H3,I3,q3⟩
def uo(r r':R2)(ta tb tc:TE):TE:=λσ H Q=>ta σ H λx H1=>tb σ H1 λy H2=>r x y H2 λz H3=>∃k,z=.bl k /\
 (if k=true then tc σ H3 λw' H4=>r' y w' H4 Q else Q (.bl false) H3)
theorem AA(ho:hU X (compareOp op) r)(ho':hU X (compareOp op') r')(ha:PE X a ta)(hb:PE X b tb)(hc:PE X c tc)
  (hm:lastMarks [op,op'] [b,c]=false:=by rfl):PE X (.Compare a [op,op'] [b,c] pos) (uo r r' ta tb tc):=by
 intro pins s σ H Q I h
 refine Compare_chain (aW (ha pins s σ H _ I h) λv s1 ⟨x,H1,I1,r1,q1⟩=>chain_link (aW (hb pins s1 σ H1 _ I1 q1) λu s2 ⟨y,H2,I2,r2,q2⟩ =>
  aW (ho pins s2 σ H2 x y v u _ I2 r1 r2 q2) λd s3 zq=>?_)) hm
 obtain⟨z,H3,I3,r3,k,e,q3⟩:=zq
 subst e
 cases r3
 refine ZR ?_
 cases k with
 |false=>exact ite_ff ⟨.bl false,H3,I3,rfl,q3⟩
 |true=>exact ite_tt (chain_last (aW (hc pins s3 σ H3 _ I3 q3) λw' s4 ⟨z',H4,I4,r4,q4⟩=>ho' pins s4 σ H4 y z' u w' Q I4 r2 r4 q4))
theorem AQ(ho:hU X (compareOp op) r)(ho':hU X (compareOp op') r')(ha:PE X a ta)(hb:PE X b tb)(hc:PE X c tc)
  (hm:lastMarks [op,op'] [b,c]=false:=by rfl):PT X (.Compare a [op,op'] [b,c] pos) (FV (uo r r' ta tb tc)):=by
 intro pins s σ H Q I h
 refine isTrue_chain (aW (ha pins s σ H _ I h) λv s1 ⟨x,H1,I1,r1,q1⟩=>test_link (aW (hb pins s1 σ H1 _ I1 q1) λu s2 ⟨y,H2,I2,r2,q2⟩ =>
  aW (ho pins s2 σ H2 x y v u _ I2 r1 r2 q2) λd s3 zq=>?_)) hm
 obtain⟨z,H3,I3,r3,k,e,q3⟩:=zq
 subst e
 cases r3
 refine ZR ?_
 cases k with
 |false =>
  obtain⟨k',e',q'⟩:=q3
  cases e'
  exact ite_ff ⟨H3,I3,q'⟩
 |true =>
  refine ite_tt (test_last (aW (hc pins s3 σ H3 _ I3 q3) λw' s4 ⟨z',H4,I4,r4,q4⟩=>aW (ho' pins s4 σ H4 y z' u w' _ I4 r2 r4 q4) λd' s5 zq=>?_))
  obtain⟨z2,H5,I5,r5,k2,e2,q5⟩:=zq
  subst e2
  cases r5
  exact ZR ⟨H5,I5,q5⟩
theorem jH:(sizeLine)<2^63:=zD
theorem tj:hU X (binaryOp .Add) (λx y H Q=>∃i j,x=.str i/\y=.str j/\i.length+j.length<=sizeLine/\Q (.str (i++j)) H):=by intro pins s σ H x y v u Q I rx ry h;obtain⟨i,j,rfl,rfl,hz,q⟩:=h;obtain⟨t,rfl⟩:=rx;obtain⟨t',rfl⟩:=ry;exact add_str (λt' tk=>⟨.str (i++j),H,I.tok _,⟨_,rfl⟩,q⟩) hz
theorem nk(r:Vals [x] us):∃u,us=[u]/\RelV x u:=by
 cases r with
 |cons r1 r2=>cases r2;grind
theorem vH(r:Vals [x,y] us):∃u w',us=[u,w']/\RelV x u/\RelV y w':=by
 cases r with
 |cons r1 r2=>
  cases r2 with
  |cons r3 r4=>cases r4;exact⟨_,_,rfl,r1,r3⟩
theorem wA(hc:X.calm=true):bx X (.builtin "max") (λxs H Q=>∃i j,xs=[.int i,.int j]/\Q (.int (if j>i then j else i)) H):=by intro pins s σ H xs us Q I r h;obtain⟨i,j,rfl,q⟩:=h;obtain⟨u,w',rfl,⟨t,rfl⟩,⟨t',rfl⟩⟩:=vH r;refine max_two_ints (I.ok.hd hc) λh' tk k=>⟨_,H,I.kept k,?_,q⟩;by_cases hj:j>i;rw[zF hj,zF hj];exact⟨_,rfl⟩;rw[zP hj,zP hj];exact⟨_,rfl⟩
theorem xC(hc:X.calm=true):bx X (.builtin "min") (λxs H Q=>∃i j,xs=[.int i,.int j]/\Q (.int (if j<i then j else i)) H):=by intro pins s σ H xs us Q I r h;obtain⟨i,j,rfl,q⟩:=h;obtain⟨u,w',rfl,⟨t,rfl⟩,⟨t',rfl⟩⟩:=vH r;refine min_two_ints (I.ok.hd hc) λh' tk k=>⟨_,H,I.kept k,?_,q⟩;by_cases hj:j<i;rw[zF hj,zF hj];exact⟨_,rfl⟩;rw[zP hj,zP hj];exact⟨_,rfl⟩
theorem nH:bx X (.type "int") (λxs H Q=>(∃i,xs=[.int i]/\Q (.int i) H)\/∃k,xs=[.bl k]/\Q (.int (if k then 1 else 0)) H):=by intro pins s σ H xs us Q I r h;rcases h with⟨i,rfl,q⟩|⟨k,rfl,q⟩;obtain⟨u,rfl,t,rfl⟩:=nk r;exact call_int_int ⟨.int i,H,I,⟨_,rfl⟩,q⟩;obtain⟨u,rfl,r1⟩:=nk r;cases r1;exact call_int_bool ⟨.int (if k then 1 else 0),H,I.tok _,⟨_,rfl⟩,q⟩
end
structure sS (h:Heap) (x dx C:Addr) (mA:Str->Option Value):Prop where
 obj:h.get? x=some (PySem.W.instObj C dx)
 ns:h.Ns1 dx mA
 ne:dx≠x
theorem xE{h:Heap}(n:h.Ns1 dx mA):∃od,h.get? dx=some od/\∀name,PySem.W.lookIn name od=some (mA name):=by
 obtain⟨o,es,ep,ho,hd,hk,_,hm⟩:=n
 refine⟨o,ho,λname=>?_⟩
 have e:=hm name
 unfold nsFind findBy at e
 rw[<- Array.find?_toList]at e
 unfold PySem.W.lookIn
 rw[hd]
 dsimp only
 split
 ·grind
 ·rename_i q
  rw[q]at e
  have a:es.toList.any (·.refKey)=false:=by
   rw[zzx]
   intro y hy
   obtain⟨z,t,hkey⟩:=hk y (zz6.mp hy)
   simp[DictEntry.refKey,hkey]
  grind
theorem sS.look(I:sS h x dx C mA):∃od,PySem.W.InstAt h x (PySem.W.instObj C dx) C (some od)/\∀name,PySem.W.lookIn name od=some (mA name) :=
 let ⟨od,ho,hl⟩:=xE I.ns
 ⟨od,⟨I.obj,rfl,rfl,ho⟩,hl⟩
section
variable {prog:Program}{w:World}{A:Around}{E:Value->Shared->Prop}{s:Shared}{K:Fg0}{x dx C f:Addr}{mA:Str->Option Value}{name:Str}{v:Value}
theorem CL(X:K.In s.heap)(I:sS s.heap x dx C mA)(hg:PySem.W.plainGet K C name=true)(hh:PySem.W.hasDictIn K C=true)
  (ha:PySem.W.findIn K (.ref C) name=some none) (hv:mA name=some v) (hv':PySem.W.handedIn v=true) (h:Q v { s with toks:=s.toks+1 }) :
  wpAny (model prog w) A (getAttr (.ref x) name expr) Q E s:=by
 obtain⟨od,J,hl⟩:=I.look
 exact PySem.W.get_value X J (PySem.W.plainGet_of hg).1 (PySem.W.findObj_own hh ha rfl (by simp_all)) hv' h
theorem AB(X:K.In s.heap)(I:sS s.heap x dx C mA)(hg:PySem.W.plainGet K C name=true)
  (hf:PySem.W.findIn K (.ref C) name=some (some (.ref f))) (ht:PySem.W.isFn K (.ref f)=true) (hv:mA name=none) (h:Q (.ref f,[.ref x]) s) :
  wpAny (model prog w) A (getMethod (.ref x) name pl) Q E s:=by
 obtain⟨od,J,hl⟩:=I.look
 exact PySem.W.method_fn X J (PySem.W.plainGet_of hg).1 (PySem.W.plainGet_of hg).2 hf (beq_iff_eq.mp ht) (by show(PySem.W.lookIn name od).map (·.isSome)=some false;simp_all) h
theorem ER(X:K.In s.heap)(I:sS s.heap x dx C mA)
  (hs:PySem.W.findIn K (.ref C) "__setattr__"=some (some (.builtin "object.__setattr__"))) (hp:PySem.W.plainOver K C=true) (ht:PySem.W.takerIn K C name=some none) (hh:PySem.W.hasDictIn K C=true)
  (hw:PySem.Within mA ns) (hsz:ns.length<=sizeLine)
  (h:∀h',sS h' x dx C (λy=>if y=name then some v else mA y)->Heap.SameBut dx s.heap h'->Q () { s with heap:=h',toks:=s.toks+2 }) :
  wpAny (model prog w) A (setAttr (.ref x) name v) Q E s:=by
 obtain⟨od,J,hl⟩:=I.look
 refine PySem.W.set_plain X J hs (PySem.W.osa_open (s:={ s with toks:=s.toks+1 }) (r:=none) X J hp ht λb=>?_)
 obtain⟨cd,hc,hd'⟩:=PySem.W.any_some hh
 have hx :=I.obj
 refine zd (zB (zd (zd (wpAny_loadPart hx (zd (PySem.W.Looks.here (s:={ s with toks:=s.toks+1 }) (PySem.W.looks_clsIn X hc) ?_))))))
 rw[hd']
 refine zB (a:=some dx) (zd (zB (zd ?_)))
 refine wpAny_nsSet1 (s:={ s with toks:=s.toks+1 }) I.ns λh' hn2 hs2=>?_
 obtain⟨oD,esD,epD,hoD,hdD,hcD⟩:=hn2.count (PySem.Within.cons name v hw)
 refine zd (wpAny_lookBehind hoD (by rw[hdD];exact pastItsLine_dict (zf hcD (by rw[Zn];lia))) ?_)
 exact zB (h _ ⟨(hs2.2 _ (zza I.ne)).trans I.obj,hn2,I.ne⟩ hs2)
theorem BL (X:K.In s.heap) (hm:PySem.W.makesIn K C=true)
    (hi:PySem.W.findIn K (.ref C) "__init__"=some (some (.ref f))) (hf:PySem.W.typeIn K (.ref f)=some (.type "function"))
    (h:codeAny (model prog w) (A.under (.builtin "type.__call__" ⟨.ref C::vs,kw⟩)) (.call (.ref f) ⟨.ref (s.heap.objs.size+1)::vs,kw⟩) (PySem.W.InitBack (s.heap.objs.size+1) R)
      { s with heap:=(s.heap.push PySem.W.emptyDict).push (PySem.W.instObj C s.heap.objs.size) }) :
    codeAny (model prog w) A (.call (.ref C) ⟨vs,kw⟩) R s:=by
  obtain ⟨hh,g,d,t,os⟩:=s
  exact PySem.W.make_core (PySem.W.makes_of X hm) (PySem.W.looks_findIn X hi) (fun self=>PySem.W.bind_fn X self hf) (.inl rfl) h
end
def gZ(f:Str)(v:V):List (Str×V)->List (Str×V)
 |[]=>[(f,v)]
 |(g,x)::r=>if g=f then(g,v)::r else(g,x)::gZ f v r
theorem ko(f g)(v):∀fs:List (Str×V),(gZ f v fs).lookup g=if g=f then some v else fs.lookup g
 |[]=>by
  show List.lookup g [(f,v)]=_
  grind
 |(k,x)::r=>by
  have ih:=ko f g v r
  rw[show gZ f v ((k,x)::r)=(if k=f then(k,v)::r else(k,x)::gZ f v r) from rfl]
  grind
theorem jY(f)(v):∀fs:List (Str×V),f∈(gZ f v fs).map (·.1)/\∀g,g∈fs.map (·.1)->g∈(gZ f v fs).map (·.1)
 |[]=>⟨by simp[gZ],λg h=>by simp_all⟩
 |(k,x)::r=>by
  obtain⟨i1,i2⟩:=jY f v r
  rw[show gZ f v ((k,x)::r)=(if k=f then(k,v)::r else(k,x)::gZ f v r) from rfl]
  grind
theorem km(f)(v):∀fs:List (Str×V),(gZ f v fs).length<=fs.length+1
 |[]=>by simp[gZ]
 |(k,x)::r=>by
  have ih:=km f v r
  rw[show gZ f v ((k,x)::r)=(if k=f then(k,v)::r else(k,x)::gZ f v r) from rfl]
  grind
theorem gv.some_of(r:gv (some v) o):∃u,o=some u/\RelV v u:=by
 cases o with
 |none=>exact(r).elim
 |some u=>exact⟨u,rfl,r⟩
theorem gv.none_of(r:gv none o):o=none:=by
 cases o with
 |none=>rfl
 |some u=>exact(r).elim
theorem xr(r:RelV v u):PySem.W.handedIn u=true:=by
 cases v with
 |non=>cases (show u=Value.none from r);rfl
 |bl b=>cases (r);rfl
 |int i=>obtain⟨t,e⟩:=(r);cases e;rfl
 |str x=>obtain⟨t,e⟩:=(r);cases e;rfl
 |byt b=>obtain⟨t,e⟩:=(r);cases e;rfl
 |flt b=>obtain⟨t,e⟩:=(r);cases e;rfl
 |ref a=>cases (show u=Value.ref a from r);rfl
 |ty n=>cases (r);rfl
section
variable {P:Program}{w:World}{H H':Hp}{h h':Heap}{a C dx:Addr}{fs fs':List (Str×V)}
theorem pI(hok:eV P w H h)(e:H a=some (.ins C dx fs)):∃mA,sS h a dx C mA/\(∀f,gv (fs.lookup f) (mA f))/\PySem.Within mA (fs.map (·.1))/\fs.length<=1000/\H dx=some (.own a):=by obtain⟨d,z,ne,ob,mA,n,r,q⟩:=(hok a _ e);exact⟨mA,⟨ob,n,ne⟩,r,q,z,d⟩
end
structure yi (K:Fg0) (C:Addr):Prop where
 pg:PySem.W.plainGet K C Str.empty=true
 hd:PySem.W.hasDictIn K C=true
 po:PySem.W.plainOver K C=true
 sa:PySem.W.findIn K (.ref C) "__setattr__"=some (some (.builtin "object.__setattr__"))
theorem yi.get{K:Fg0}{C:Addr}(c:yi K C)(f:Str):PySem.W.plainGet K C f=true:=c.pg
def iM(K:Fg0)(C:Addr)(f:Str):Prop:=PySem.W.findIn K (.ref C) f=some none
theorem iM.taker{K:Fg0}(n:iM K C f):PySem.W.takerIn K C f=some none:=by unfold PySem.W.takerIn;rw[n];rfl
structure SQ (K:Fg0) (C:Addr) (f:Str) (v:V) (u:Value):Prop where
 at_:PySem.W.findIn K (.ref C) f=some (some u)
 rel:RelV v u
 get:PySem.W.specialIn K u "__get__"=some none
 cp:PySem.W.copiedNames.contains f=false
structure Meth (K:Fg0) (C:Addr) (m:Str) (f:Addr):Prop where
 at_:PySem.W.findIn K (.ref C) m=some (some (.ref f))
 fn:PySem.W.isFn K (.ref f)=true
 kp:PySem.W.keepIn K (.ref f)=true
section
variable {X:Cx}{pins:List (Addr×Obj)}{σ:St}{H:Hp}{s:Shared}{a C dx:Addr}{fs:List (Str×V)}{f:Str}{v:V}{A:Around}{E:Value->Shared->Prop}
theorem ub{b:Bool}{Q:Value->Shared->Prop}(I:Inv X pins σ H s)(e:H a=some (.ins C dx fs))(c:yi X.K C)(n:iM X.K C f)(l:fs.lookup f=some v)
  (h:∀u s',Inv X pins σ H s'->RelV v u->Q u s'):wpAny (model X.prog X.w) A (getAttr (.ref a) f b) Q E s:=by
 obtain⟨mA,O,r,_,_,_⟩:=pI I.hok e
 obtain⟨u,hu,ru⟩:=gv.some_of (v:=v) (o:=mA f) (by grind)
 exact CL I.kIn O (c.get f) c.hd n hu (xr ru) (h u _ (I.tok _) ru)
theorem lI{m:Str}{g:Addr}{pl:Sem Bool}{Q:Value×List Value->Shared->Prop}(I:Inv X pins σ H s)(e:H a=some (.ins C dx fs))(c:yi X.K C)(k:Meth X.K C m g)(l:fs.lookup m=none)
  (h:Q (.ref g,[.ref a]) s):wpAny (model X.prog X.w) A (getMethod (.ref a) m pl) Q E s:=by
 obtain⟨mA,O,r,_,_,_⟩:=pI I.hok e
 have hn:mA m=none:=gv.none_of (by grind)
 exact AB I.kIn O (c.get m) k.at_ k.fn hn h
theorem uc{y:V}{u:Value}{Q:Unit->Shared->Prop}(I:Inv X pins σ H s)(e:H a=some (.ins C dx fs))(c:yi X.K C)(n:iM X.K C f)(hl:fs.length<1000)(ry:RelV y u)
  (h:∀s',Inv X pins σ (aY H a (.ins C dx (gZ f y fs))) s'->Q () s'):wpAny (model X.prog X.w) A (setAttr (.ref a) f u) Q E s:=by
 obtain⟨mA,O,r,wi,_,ho⟩:=pI I.hok e
 have hz:(fs.map (·.1)).length<=sizeLine:=by rw[zj,Zq];lia
 refine ER I.kIn O c.sa c.po n.taker c.hd wi hz λh' O' sb=>h _ ?_
 have hd:∃o,h'.get? dx=some o:=let ⟨o,_,_,e',_⟩:=O'.ns;⟨o,e'⟩
 refine I.write (x:=a) (e:=dx) (by rw[e];exact True.intro) (.inr ho) (λb q hb z=>(sb.2 b hb).trans z) hd ?_
 refine⟨by rw[aB O.ne];exact ho,?_,O.ne,O'.obj,_,O'.ns,λg=>?_,λg hg=>?_⟩
 ·have:=km f y fs;lia
 ·rw[ko]
  by_cases q:g=f
  ·rw[zF q,zF q];exact ry
  ·rw[zP q,zP q];exact r g
 ·by_cases q:g=f
  ·rw[q];exact(jY f y fs).1
  ·refine(jY f y fs).2 g (wi g λz=>hg ?_)
   show(if g=f then some u else mA g)=none
   rw[zP q];exact z
theorem Inv.made (I:Inv X pins σ H s):Inv X pins σ (aY (aY H s.heap.objs.size (.own (s.heap.objs.size+1))) (s.heap.objs.size+1) (.ins C s.heap.objs.size []))
    { s with heap:=(s.heap.push PySem.W.emptyDict).push (PySem.W.instObj C s.heap.objs.size) }:=by
  have e1:(s.heap.push PySem.W.emptyDict).get? s.heap.objs.size=some PySem.W.emptyDict:=zA s.heap rfl
  have e2:((s.heap.push PySem.W.emptyDict).push (PySem.W.instObj C s.heap.objs.size)).get? (s.heap.objs.size+1)=some (PySem.W.instObj C s.heap.objs.size):=by
    have:=zA (s.heap.push PySem.W.emptyDict) (o:=PySem.W.instObj C s.heap.objs.size) rfl
    rwa [Z1] at this
  have e3:(s.heap.push PySem.W.emptyDict).Ns s.heap.objs.size (fun _=>none):=⟨PySem.W.emptyDict,#[],_,e1,rfl,(fun e he=>absurd he zS),fun _=>rfl⟩
  have I1:=I.laid (a:=s.heap.objs.size) (o:=.own (s.heap.objs.size+1)) (h':=s.heap.push PySem.W.emptyDict) (t':=s.toks) (fun b u q=>hps0 _ q) (zC _) ⟨_,e1⟩
  refine I1.laid (a:=s.heap.objs.size+1) (o:=.ins C s.heap.objs.size []) (t':=s.toks) (fun b u q=>hps0 _ q) (Nat.le_of_eq (Z1 _ _)) ?_
  have ne:s.heap.objs.size≠s.heap.objs.size+1:=zW (zzI _)
  refine ⟨by rw [aB ne,aI],ZD _,ne,e2,fun _=>none,(Heap.Ns1.of_empty e3).at fun o q=>hps0 _ q,fun _=>True.intro,fun y hy=>absurd rfl hy⟩

theorem DB(hb:attributeBase e f env (eval e env)=eval e env)
  (h:wpAny (model prog w) A (eval e env) (λo s₁=>wpAny (model prog w) A (getAttr o f true) Q E s₁) E s):wpAny (model prog w) A (eval (.Attribute e f pos) env) Q E s :=
 Attribute_any_ h (by rw[arm_eval_Attribute,hb])
end
inductive MB (K:Fg0) (f:Str) (Q:VK) (H1:Hp) (x:V):Prop
 |mk (a:_) (C:_) (dx:_) (fs:_) (v:_) (q0:x=.ref a) (q1:H1 a=some (.ins C dx fs)) (q2:yi K C) (q3:iM K C f) (q4:fs.lookup f=some v) (q5:Q v H1)
def Qj(K:Fg0)(ta:TE)(f:Str):TE:=λσ H Q=>ta σ H λx H1=>MB K f Q H1 x
inductive FZ (K:Fg0) (f:Str) (N:Hp->Prop) (y:V) (H2:Hp) (x:V):Prop
 |mk (a:_) (C:_) (dx:_) (fs:_) (q0:x=.ref a) (q1:H2 a=some (.ins C dx fs)) (q2:yi K C) (q3:iM K C f) (q4:fs.length<1000) (q5:N (aY H2 a (.ins C dx (gZ f y fs))))
def NY(K:Fg0)(ta tv:TE)(f:Str):TS:=λD σ H=>tv σ H λy H1=>ta σ H1 λx H2=>FZ K f (D.nx σ) y H2 x
section
variable {X:Cx}{o e value:Expr}{f:Str}{pos pos' tpos:Pos}{ta tv:TE}
theorem Ir(he:PE X e ta)(hb:attributeBase e f X.env (eval e X.env)=eval e X.env):PE X (.Attribute e f pos) (Qj X.K ta f):=by intro pins s σ H Q I h;refine DB hb (aW (he pins s σ H _ I h) λu s1 zq=>?_);obtain⟨x,H1,I1,rx,a,C,dx,fs,v,ex,ea,c,n,l,q⟩:=zq;subst ex;obtain rfl:u=Value.ref a:=rx;exact ub I1 ea c n l λu' s2 I2 ru=>⟨v,H1,I2,ru,q⟩
theorem BK(ha:PE X o ta)(hv:PE X value tv)(hs:swapsWith value (some (.Attribute o f pos')) pos.line X.env=pure false):PS X (.Assign [.Attribute o f pos'] value pos) (NY X.K ta tv f):=by intro pins s σ H D I h;refine plainObj_wpAny_Assign_Attribute (aW (hv pins s σ H _ I h) λu s1 ⟨y,H1,I1,ry,q⟩=>aW (ha pins s1 σ H1 _ I1 q) λov s2 zq=>?_) hs;obtain⟨x,H2,I2,rx,a,C,dx,fs,ex,ea,c,n,l,q2⟩:=zq;subst ex;obtain rfl:ov=Value.ref a:=rx;exact uc I2 ea c n l ry λs3 I3=>⟨σ,_,I3,q2⟩
end
section
variable {X:Cx}{pins:List (Addr×Obj)}{σ:St}{H:Hp}{s:Shared}{A:Around}{E:Value->Shared->Prop}{Q:Value->Shared->Prop}{c:Value}{b:Bool}
inductive mv (K:Fg0) (H:Hp):V->Value->Prop where
 |non:mv K H .non (.type "NoneType")
 |bl (x:Bool):mv K H (.bl x) (.type "bool")
 |int (i:Int):mv K H (.int i) (.type "int")
 |str (x:Str):mv K H (.str x) (.type "str")
 |flt (x:UInt64):mv K H (.flt x) (.type "float")
 |lst {a:Addr}{xs:List V} (e:H a=some (.lst xs)):mv K H (.ref a) (.type "list")
 |frz {a:Addr}{o:Obj}{xs:List V} (e:H a=some (.frz o (.lst xs))):mv K H (.ref a) (.type "list")
 |tup {a:Addr}{xs:List V} (e:H a=some (.tup xs)):mv K H (.ref a) (.type "tuple")
 |dK {a:Addr}{kvs:List (cu×V)} (e:H a=some (.dK kvs)):mv K H (.ref a) (.type "dict")
 |dT {a:Addr}{kvs:List (List cu×V)} (e:H a=some (.dT kvs)):mv K H (.ref a) (.type "dict")
 |ins {a C dx:Addr}{fs:List (Str×V)} (e:H a=some (.ins C dx fs)) (cl:yi K C) (ha:PySem.W.findIn K (.ref C) "__class__"=some (some (.builtin "object.__class__")))
  (hn:PySem.W.specialIn K (.builtin "object.__class__") "__get__"=some (some (.builtin "getset_descriptor.__get__"))) (htk:PySem.W.takesIn K (.builtin "object.__class__")=some true)
  (hm:PySem.W.mroIn K C (.type "object")=some true):mv K H (.ref a) (.ref C)
end
structure bX (k:Nat) (A:Around):Prop where
 hd:A.handled=none
 dp:A.depth+3*k+5<recursionLimit
 un:A.units+16*k+200<cLine
theorem bX.mono(r:bX k A)(h:j<=k):bX j A:=⟨r.hd,by have:=r.dp;lia,by have:=r.un;lia⟩
theorem bX.deeper(r:bX (k+1) A)(env):bX k (A.deeper env) :=
 ⟨r.hd,by have:=r.dp;show A.depth+1+3*k+5<_;lia,by have:=r.un;show A.units+3+16*k+200<_;lia⟩
theorem ua{A:Around}:(A.under (.builtin "type.__call__" ⟨.ref C::us,kw⟩)).depth=A.depth+1:=rfl
theorem tP{A:Around}:(A.under (.builtin "type.__call__" ⟨.ref C::us,kw⟩)).units=A.units+1:=rfl
theorem bX.make(r:bX (k+1) A)(C)(us)(kw):bX k (A.under (.builtin "type.__call__" ⟨.ref C::us,kw⟩)) :=
 ⟨r.hd,by have:=r.dp;rw[ua];lia,by have:=r.un;rw[tP];lia⟩
theorem bX.depth(r:bX k A):A.depth<recursionLimit:=by have:=r.dp;lia
theorem bX.units(r:bX k A):A.units+64<cLine:=by have:=r.un;lia
def IW:TA:=λ_ H Q=>Q [] H
def F0(ta:TE)(tr:TA):TA:=λσ H Q=>ta σ H λx H1=>tr σ H1 λxs H2=>Q (x::xs) H2
section
variable {X:Cx}{e:Expr}{es:List Expr}{te:TE}{t:TA}{pos:Pos}
theorem bF:PA X [] IW:=λ_ _ _ _ H Q I h=>Calls.spliced_nil ⟨[],H,I,.nil,h⟩
theorem aM(ha:PE X e te)(hr:PA X es t)(hs:starEach (e::es) X.env=(false,eval e X.env)::starEach es X.env:=by rfl):PA X (e::es) (F0 te t):=by intro pos pins s σ H Q I h;rw[hs];refine zzN (aW (ha pins s σ H _ I h) λu s1 zq=>?_);obtain⟨x,H1,I1,r1,q1⟩:=zq;exact aW (hr pos pins s1 σ H1 _ I1 q1) λus s2 zq=>by obtain⟨xs,H2,I2,r2,q2⟩:=zq;exact⟨x::xs,H2,I2,.cons r1 r2,q2⟩
def Oy(t:TA):TE:=λσ H Q=>t σ H λxs H1=>xs.length<=sizeLine/\∀p,H1 p=none->Q (.ref p) (aY H1 p (.tup xs))
def P6(t:TA):TE:=λσ H Q=>t σ H λxs H1=>xs.length<=sizeLine/\∀p,H1 p=none->Q (.ref p) (aY H1 p (.lst xs))
theorem Jf(h:PA X es t):PE X (.Tuple es x1 pos) (Oy t):=by intro pins s σ H Q I hq;refine wpAny_Tuple_spliced (aW (h pos pins s σ H _ I hq) λus s1 ⟨xs,H1,I1,r,z,q⟩=>⟨by rw[<- r.length];lia,?_⟩);have hf :=I1.hok.fresh (zC _);refine⟨.ref s1.heap.objs.size,aY H1 s1.heap.objs.size (.tup xs),I1.laid  (λb u e=>hps0 _ e) (zC _) ?_,rfl,q _ hf⟩;exact⟨z,us,r,⟨_,zA _ rfl,rfl,_,rfl⟩⟩
theorem oE(h:PA X es t):PE X (.List es pos) (P6 t):=by intro pins s σ H Q I hq;refine wpAny_List_spliced (aW (h pos pins s σ H _ I hq) λus s1 ⟨xs,H1,I1,r,z,q⟩=>⟨by rw[<- r.length];lia,?_⟩);have hf :=I1.hok.fresh (zC _);refine⟨.ref s1.heap.objs.size,aY H1 s1.heap.objs.size (.lst xs),I1.laid  (λb u e=>hps0 _ e) (zC _) ?_,rfl,q _ hf⟩;exact⟨z,us,0,r,zA _ rfl⟩
end
abbrev Sp:=List V->Hp->VK->XK->Prop
abbrev BX:=List Env->Hp->Shared->XK->Value->Shared->Prop
structure uj (P:Program) (w:World) (K:Fg0) (mg:Str->Option Value) (base:Heap) (A:Around) (outer:List Env) (s:Shared) (H:Hp):Prop where
 frames:A.frames=some outer
 mod:Mod K mg base
 bs:∀b o,base.get? b=some o->s.heap.get? b=some o/\H b=none
 bsz:base.objs.size<=s.heap.objs.size
 funs:s.heap.FunFrames base outer
 frf:∀b∈gu outer,H b=none
 hok:eV P w H s.heap
 bare:AllBare s.gens
def CE(outer:List Env)(P:Program)(w:World)(H:Hp)(s:Shared)(Q:VK)(u:Value)(s':Shared):Prop :=
 ∃v H',s'.os=s.os/\AllBare s'.gens/\Un (gu outer) [] H H' s.heap s'.heap/\eV P w H' s'.heap/\RelV v u/\Q v H'
def CR(CX:BX)(outer:List Env)(P:Program)(w:World)(H:Hp)(s:Shared)(Q:VK)(E:XK)(r:Result)(s':Shared):Prop :=
 match r with
 |.ok (.ret u)=>CE outer P w H s Q u s'
 |.ok _=>False
 |.error e=>CX outer H s E e s'
structure eF (P:Program) (w:World) (K:Fg0) (mg:Str->Option Value) (base:Heap) (CX:BX) (k:Nat) (f:Addr) (fd:FuncData) (ps:List Str) (sp:Sp):Prop where
 len:∀vs H Q E,sp vs H Q E->vs.length=ps.length
 run:∀(A:Around) (outer:List Env) (s:Shared) (H:Hp) (args:Args) (us:List Value) (vs:List V) (Q:VK) (E:XK),bX k A->uj P w K mg base A outer s H->BindsTo s fd args (ps.zip us)->Vals vs us->sp vs H Q E ->
  codeAny (model P w) A (.call (.ref f) args) (CR CX outer P w H s Q E) s
theorem eF.imp{K:Fg0}(F:eF P w K mg base CX k f fd ps sp)
  (h:∀vs H Q E,sp' vs H Q E->sp vs H Q E):eF P w K mg base CX k f fd ps sp' :=
 ⟨λvs H Q E q=>F.len vs H Q E (h _ _ _ _ q),λA outer s H args us vs Q E hr he hb hv hs=>F.run A outer s H args us vs Q E hr he hb hv (h _ _ _ _ hs)⟩
theorem uj.make{K:Fg0}(e:uj P w K mg base A outer s H)(C)(us:List Value)(kw:List (Str×Value)) :
 uj P w K mg base (A.under (.builtin "type.__call__" ⟨.ref C::us,kw⟩)) outer s H:=⟨by first|exact e.frames|rfl,e.mod,e.bs,e.bsz,e.funs,e.frf,e.hok,e.bare⟩
section
variable {X:Cx}{pins:List (Addr×Obj)}{σ:St}{H:Hp}{s s':Shared}
theorem Inv.env0(I:Inv X pins σ H s):uj X.prog X.w X.K X.mg X.base X.A X.stack s H :=
 ⟨I.ok.frames,I.ok.mod,I.bs,zf I.ok.bsz I.sz,I.stack,I.stkFree,I.hok,I.bare⟩
theorem Inv.after(I:Inv X pins σ H s)(h:CE X.stack X.prog X.w H s Q u s'):EP X pins σ Q u s':=by obtain⟨v,H',os,bare,un,hok,r,q⟩:=h;obtain⟨hh,g,d,t,os'⟩:=s';obtain rfl:os'=s.os:=os;exact⟨v,H',I.call (h':=hh) (g':=g) (d':=d) (t':=t) (ch:=[]) un hok bare (λb z=>absurd z zS),r,q⟩
end
def Kv(sp:Sp)(dvs:List V)(E:XK)(t:TA):TE:=λσ H Q=>t σ H λvs H1=>sp (vs++dvs) H1 Q E
inductive Jt (C:Addr) (m:Str) (sp:Sp) (dvs:List V) (E:XK) (t:TA) (σ:St) (H1:Hp) (Q:VK) (x:V):Prop
 |mk (a:_) (dx:_) (fs:_) (q0:x=.ref a) (q1:H1 a=some (.ins C dx fs)) (q2:fs.lookup m=none) (q3:t σ H1 λvs H2=>sp (x::(vs++dvs)) H2 Q E)
def AY(C:Addr)(m:Str)(sp:Sp)(dvs:List V)(E:XK)(ta:TE)(t:TA):TE:=λσ H Q=>ta σ H λx H1=>Jt C m sp dvs E t σ H1 Q x
def Ma(C:Addr)(sp:Sp)(dvs:List V)(E:XK)(t:TA):TE:=λσ H Q=>t σ H λvs H1=>∀x dx,H1 x=none->H1 dx=none->dx≠x ->
 sp (.ref x::(vs++dvs)) (aY (aY H1 dx (.own x)) x (.ins C dx [])) (λv H2=>v=.non/\Q (.ref x) H2) E
def Binds(K:Fg0)(fd:FuncData)(ps:List Str)(ds:List Value):Prop :=
 ∀(s:Shared) (us:List Value),K.In s.heap->(us++ds).length=ps.length->BindsTo s fd ⟨us,[]⟩ (ps.zip (us++ds))
theorem Binds.all{K:Fg0}(h:∀us,us.length=ps.length->bindArgs fd ⟨us,[]⟩=pure (ps.zip us)):Binds K fd ps []:=λs us _ hl=>by rw[Zi]at hl ⊢;exact .of_eq (h us hl)
def iS(CX:BX)(X:Cx)(E:XK):Prop:=∀(pins:List (Addr×Obj)) (σ:St) (H:Hp) (s:Shared) (e:Value) (s':Shared),Inv X pins σ H s->CX X.stack H s E e s'->X.xe e s'
section
variable {X:Cx}{CX:BX}{k:Nat}{f C:Addr}{fd:FuncData}{ps:List Str}{sp:Sp}{dvs:List V}{ds:List Value}{E:XK}{x m:Str}{p pos apos:Pos}{e o:Expr}{es:List Expr}{ta:TE}{t:TA}
theorem t8{pins:List (Addr×Obj)}{σ:St}{H:Hp}{s:Shared}{Q:VK}{us:List Value}{vs:List V}(F:eF X.prog X.w X.K X.mg X.base CX k f fd ps sp)(hr:bX k X.A)(hb:Binds X.K fd ps ds)(hd:Vals dvs ds)(hx:iS CX X E)
  (I:Inv X pins σ H s) (r:Vals vs us) (h:sp (vs++dvs) H Q E):wpAny (model X.prog X.w) X.A (call (.ref f) us) (EP X pins σ Q) X.xe s:=by
 have r2:Vals (vs++dvs) (us++ds):=r.append hd
 have hl:(us++ds).length=ps.length:=by rw[<- r2.length];exact F.len _ _ _ _ h
 refine wpAny_call (zzO (F.run X.A X.stack s H ⟨us,[]⟩ (us++ds) (vs++dvs) Q E hr I.env0 (hb s us I.kIn hl) r2 h) λr s' hq=>?_)
 cases r with
 |error e=>exact hx pins σ H s e s' I hq
 |ok fl =>
  cases fl with
  |ret u=>exact I.after hq
  |next=>exact False.elim hq
  |brk=>exact False.elim hq
  |cont=>exact False.elim hq
theorem C1(F:eF X.prog X.w X.K X.mg X.base CX k f fd ps sp)(hr:bX k X.A)(hg:Gl X x)(hm:X.mg x=some (.ref f))(hk:PySem.W.keepIn X.K (.ref f)=true)(hb:Binds X.K fd ps ds)(hd:Vals dvs ds)(hx:iS CX X E)
  (ha:PA X (e::es) t) (hdb:(x==("__debug__"))=false:=by rfl) (he:starEach (e::es) X.env=(false,eval e X.env)::starEach es X.env:=by rfl) (hpl:(backTo pos (starEach es X.env)).any (·.1)=false:=by rfl) :
  PE X (.Call (.Name x p) (e::es) [] pos) (Kv sp dvs E t):=by
 intro pins s σ H Q I h
 exact ZZ (fL I hg hm (PySem.W.callWith_K  I.ok.mod.kin hk (aW (ha pos pins s σ H _ I h) λus s1 ⟨vs,H1,I1,r,q⟩=>⟨I1.kIn,(t8 F hr hb hd hx I1 r q)⟩) he hpl) hdb)
theorem DA{pl:Sem Bool}(he:PE X o ta)(c:yi X.K C)(hm:Meth X.K C m f)(F:eF X.prog X.w X.K X.mg X.base CX k f fd ps sp)(hr:bX k X.A)(hb:Binds X.K fd ps ds)(hd:Vals dvs ds)(hx:iS CX X E)(ha:PA X (e::es) t)
  (hst:starEach (e::es) X.env=(false,eval e X.env)::starEach es X.env:=by rfl) (hpl:(backTo pos (starEach es X.env)).any (·.1)=false:=by rfl)
  (ht:eval (.Call (.Attribute o m apos) (e::es) [] pos) X.env=(do
   let ov <- eval o X.env
   standAt apos.atName
   let (f,first) <- holding [ov] (getMethod ov m pl)
   callWith pos f first (backTo pos (starEach (e::es) X.env)) (backToKw pos (keywordEach [] X.env))):=by rfl) :
  PE X (.Call (.Attribute o m apos) (e::es) [] pos) (AY C m sp dvs E ta t):=by
 intro pins s σ H Q I h
 refine PySem.W.methodCall_KW (pl:=pl) (aW (he pins s σ H _ I h) λu s1 zq=>?_) ht
 obtain⟨x,H1,I1,rx,a,dx,fs,ex,ea,l,q⟩:=zq
 subst ex
 obtain rfl:u=Value.ref a:=rx
 refine lI I1 ea c hm l ?_
 refine PySem.W.callWith_K (first:=[.ref a]) (h₀:=X.base) I.ok.mod.kin hm.kp (aW (ha pos pins s1 σ H1 _ I1 q) λus s2 ⟨vs,H2,I2,r,q2⟩=>⟨I2.kIn,?_⟩) hst hpl
 exact t8 (us:=.ref a::us) (vs:=.ref a::vs) F hr hb hd hx I2 (.cons rfl r) q2
theorem Af{pl:Sem Bool}(he:PE X o ta)(c:yi X.K C)(hm:Meth X.K C m f)(F:eF X.prog X.w X.K X.mg X.base CX k f fd ps sp)(hr:bX k X.A)(hb:Binds X.K fd ps ds)(hd:Vals dvs ds)(hx:iS CX X E)
  (ht:eval (.Call (.Attribute o m apos) [] [] pos) X.env=(do
   let ov <- eval o X.env
   standAt apos.atName
   let (f,first) <- holding [ov] (getMethod ov m pl)
   callWith pos f first (backTo pos (starEach [] X.env)) (backToKw pos (keywordEach [] X.env))):=by rfl) :
  PE X (.Call (.Attribute o m apos) [] [] pos) (AY C m sp dvs E ta IW):=by
 intro pins s σ H Q I h
 refine PySem.W.methodCall_KW (pl:=pl) (aW (he pins s σ H _ I h) λu s1 zq=>?_) ht
 obtain⟨x,H1,I1,rx,a,dx,fs,ex,ea,l,q⟩:=zq
 subst ex
 obtain rfl:u=Value.ref a:=rx
 refine lI I1 ea c hm l ?_
 exact PySem.W.callWith_K0 (first:=[.ref a]) I1.kIn hm.kp (t8 (us:=[.ref a]) (vs:=[.ref a]) F hr hb hd hx I1 (.cons rfl .nil) q)
structure Mk (K:Fg0) (C f:Addr):Prop where
 makes:PySem.W.makesIn K C=true
 init:PySem.W.findIn K (.ref C) "__init__"=some (some (.ref f))
 fn:PySem.W.isFn K (.ref f)=true
 kp:PySem.W.keepIn K (.ref C)=true
theorem AI{σ:St}{H:Hp}{s:Shared}{Q:VK}{us:List Value}{vs:List V}(M:Mk X.K C f)(F:eF X.prog X.w X.K X.mg X.base CX k f fd ps sp)(hr:bX (k+1) X.A)(hb:Binds X.K fd ps ds)(hd:Vals dvs ds)
  (hx:iS CX X E) (I:Inv X pins σ H s) (r:Vals vs us)
  (h:∀x dx,H x=none->H dx=none->dx≠x->sp (.ref x::(vs++dvs)) (aY (aY H dx (.own x)) x (.ins C dx [])) (λv H2=>v=.non/\Q (.ref x) H2) E) :
  wpAny (model X.prog X.w) X.A (call (.ref C) us) (EP X pins σ Q) X.xe s:=by
 have hq:=h (s.heap.objs.size+1) s.heap.objs.size (I.hok.fresh (ZS _)) (I.hok.fresh (zC _)) (zW (zzI _))
 have I2:=Inv.made (C:=C) I
 have r2:Vals (V.ref (s.heap.objs.size+1)::(vs++dvs)) (Value.ref (s.heap.objs.size+1)::(us++ds)):=.cons rfl (r.append hd)
 have hl :=by have e:=r2.length;rw[F.len _ _ _ _ hq]at e;exact e.symm
 refine wpAny_call (BL (f:=f) I.kIn M.makes M.init (beq_iff_eq.mp M.fn) (zzO (F.run _ X.stack _ _ ⟨Value.ref (s.heap.objs.size+1)::us,[]⟩ (Value.ref (s.heap.objs.size+1)::(us++ds)) _ _ E (hr.make C us [])
  (I2.env0.make C us []) (hb _ (Value.ref (s.heap.objs.size+1)::us) I2.kIn hl) r2 hq) λr s' hq'=>?_))
 cases r with
 |error e=>exact hx pins σ _ _ e s' I2 hq'
 |ok fl =>
  cases fl with
  |ret u =>
   obtain⟨v,H',I3,rv,ev,q3⟩:=I2.after hq'
   subst ev
   exact⟨rv,⟨V.ref (s.heap.objs.size+1),H',I3,rfl,q3⟩⟩
  |next=>exact False.elim hq'
  |brk=>exact False.elim hq'
  |cont=>exact False.elim hq'
theorem EH(M:Mk X.K C f)(F:eF X.prog X.w X.K X.mg X.base CX k f fd ps sp)(hr:bX (k+1) X.A)(hg:Gl X x)(hm:X.mg x=some (.ref C))(hb:Binds X.K fd ps ds)(hd:Vals dvs ds)(hx:iS CX X E)
  (ha:PA X (e::es) t) (hdb:(x==("__debug__"))=false:=by rfl) (he:starEach (e::es) X.env=(false,eval e X.env)::starEach es X.env:=by rfl) (hpl:(backTo pos (starEach es X.env)).any (·.1)=false:=by rfl) :
  PE X (.Call (.Name x p) (e::es) [] pos) (Ma C sp dvs E t):=by
 intro pins s σ H Q I h
 exact ZZ (fL I hg hm (PySem.W.callWith_K  I.ok.mod.kin M.kp (aW (ha pos pins s σ H _ I h) λus s1 ⟨vs,H1,I1,r,q⟩=>⟨I1.kIn,(AI M F hr hb hd hx I1 r q)⟩) he hpl) hdb)
end
def PK(X:Cx)(kws:List Keyword)(t:TA):Prop :=
 ∀(pos:Pos) (pins:List (Addr×Obj)) (s:Shared) (σ:St) (H:Hp) (Q:List V->Hp->Prop),Inv X pins σ H s->t σ H Q->wpAny (model X.prog X.w) X.A (evalAll ((backToKw pos (keywordEach kws X.env)).map (·.2))) (AP X pins σ Q) X.xe s
section
variable {X:Cx}{CX:BX}{k:Nat}{f C:Addr}{fd:FuncData}{ps ks:List Str}{sp:Sp}{E:XK}{x m:Str}{p pos apos kpos:Pos}{e o:Expr}{es:List Expr}{kws:List Keyword}{te ta:TE}{t tk:TA}{nm:Option Str}
theorem GU:PK X [] IW:=λ_ _ _ _ H Q I h=>wpAny_evalAll_nil ⟨[],H,I,.nil,h⟩
theorem Ef(ha:PE X e te)(hr:PK X kws t):PK X (⟨nm,e,kpos⟩::kws) (F0 te t):=by intro pos pins s σ H Q I h;exact wpAny_evalAll_cons (zd (aW (ha pins s σ H _ I h) λu s1 ⟨x,H1,I1,r1,q1⟩=>zd (wpAny_standAt (zB (aW (hr pos pins s1 σ H1 _ I1 q1) λus s2 ⟨xs,H2,I2,r2,q2⟩=>⟨x::xs,H2,I2,.cons r1 r2,q2⟩)))))
structure OV (K:Fg0) (fd:FuncData) (ps ks:List Str) (g:List Value->List Value->List Value) (gV:List V->List V->List V):Prop where
 to:∀(s:Shared) (us ws:List Value),K.In s.heap->(g us ws).length=ps.length->BindsTo s fd ⟨us,ks.zip ws⟩ (ps.zip (g us ws))
 rel:∀{vs:List V}{us:List Value}{zs:List V}{ws:List Value},Vals vs us->Vals zs ws->Vals (gV vs zs) (g us ws)
variable {g:List Value->List Value->List Value}{gV:List V->List V->List V}
end
structure fJ (N P:List Str) (sc:Scope):Prop where
 kind:sc.kind=.function
 co:sc.isCoroutine=false
 gen:sc.isGenerator=false
 nd:N.Nodup
 pre:N.take P.length=P
 par:∀x∈P,sc.names.lookup x=some .local\/sc.names.lookup x=some .cell
 nofree:∀y∈sc.names,y.2≠.free
theorem n8{kindOf:Str->Option NameKind}:∀{binds:List (Str×Value)}{m:Str->Option Value},(∀v,(x,v)∉binds)->bindL kindOf binds m x=m x
 |[],_,_=>rfl
 |(n,v)::r,m,h=>by
  unfold bindL
  rw[n8 λw hw=>h w (zo _ hw)]
  split
  ·grind
  rfl
theorem nR{kindOf:Str->Option NameKind}:∀{binds:List (Str×Value)}{m:Str->Option Value},(∀v,(x,v)∉binds)->bindC kindOf binds m x=m x
 |[],_,_=>rfl
 |(n,v)::r,m,h=>by
  unfold bindC
  rw[nR λw hw=>h w (zo _ hw)]
  split
  ·rfl
  grind
theorem nh{kindOf:Str->Option NameKind}:∀{P:List Str}{vs:List Value}{i:Nat}{m:Str->Option Value},P.Nodup->P[i]?=some x->vs[i]?=some v->kindOf x=some .local ->
  bindL kindOf (P.zip vs) m x=some v
 |[],_,_,_,_,h,_,_=>by simp at h
 |_::_,[],_,_,_,_,h,_=>by simp at h
 |p::P,w::vs,0,m,nd,h1,h2,hk=>by simp at h1 h2;subst h1;subst h2;show bindL kindOf ((p,w)::P.zip vs) m p=_;unfold bindL;rw[n8 λv hv=>(Z3.mp nd).1 (List.of_mem_zip hv).1,zF hk];simp
 |p::P,w::vs,i+1,m,nd,h1,h2,hk=>by unfold bindL;exact nh (i:=i) (Z3.mp nd).2 (by simpa using h1) (by simpa using h2) hk
theorem nK{kindOf:Str->Option NameKind}:∀{P:List Str}{vs:List Value}{i:Nat}{m:Str->Option Value},P.Nodup->P[i]?=some x->vs[i]?=some v->kindOf x≠some .local ->
  bindC kindOf (P.zip vs) m x=some v
 |[],_,_,_,_,h,_,_=>by simp at h
 |_::_,[],_,_,_,_,h,_=>by simp at h
 |p::P,w::vs,0,m,nd,h1,h2,hk=>by simp at h1 h2;subst h1;subst h2;show bindC kindOf ((p,w)::P.zip vs) m p=_;unfold bindC;rw[nR λv hv=>(Z3.mp nd).1 (List.of_mem_zip hv).1,zP hk];simp
 |p::P,w::vs,i+1,m,nd,h1,h2,hk=>by unfold bindC;exact nK (i:=i) (Z3.mp nd).2 (by simpa using h1) (by simpa using h2) hk
def start(N:List Str)(vs:List V):St:=vs.map some++List.replicate (N.length-vs.length) none
noncomputable def lV(CX:BX)(P:Program)(w:World)(K:Fg0)(mg:Str->Option Value)(base:Heap)(N:List Str)(qual:Str)(scope:Scope)(f:Addr)(cd:Value)(A:Around)(outer:List Env)(s:Shared)(H:Hp)(E:XK):Cx where
 prog:=P
 w:=w
 K:=K
 mg:=mg
 base:=base
 A:=A.deeper (envOfC qual scope s.heap.objs.size f cd)
 N:=N
 s₀:=s
 H₀:=H
 env:=envOfC qual scope s.heap.objs.size f cd
 outer:=outer
 stack:=envOfC qual scope s.heap.objs.size f cd::outer
 ex:=[]
 calm:=true
 fn:=λ_=>true
 pn:=[]
 xe:=λe s'=>wpAny (model P w) (A.deeper (envOfC qual scope s.heap.objs.size f cd)) (leaving (envOfC qual scope s.heap.objs.size f cd) e) (λ_ s''=>CX outer H s E e s'') (λe' s''=>CX outer H s E e' s'') s'
theorem rO{sc:Scope}(h:sc.names.lookup x=some .cell):∃c,(cellsFrom n sc.names []).lookup x=some c:=by have q:=PySem.W.cellsFrom_some sc.names n [] (.inl h);exact ZV.mp q
theorem wM{K:Fg0}{qual:Str}{scope:Scope}{f:Addr}{cd:Value}{A:Around}{outer:List Env}{s s1:Shared}{H:Hp}{E:XK}{us:List Value}{vs:List V}
  (S:fJ N ps scope) (hd:A.handled=none) (e0:uj P w K mg base A outer s H) (hl:vs.length=ps.length) (r:Vals vs us)
  (x:InCallC s s.heap.objs.size (bindL (envOfC qual scope s.heap.objs.size f cd).kindOf (ps.zip us) λ_=>none) (cellsFrom (s.heap.objs.size+1) scope.names []) (bindC (envOfC qual scope s.heap.objs.size f cd).kindOf (ps.zip us) λ_=>none) s1) :
  Inv (lV CX P w K mg base N qual scope f cd A outer s H E) [] (start N vs) H s1:=by
 have hpl:ps.length<=N.length:=by have:=congrArg List.length S.pre;rw[Zo]at this;lia
 obtain⟨h1,tk,rfl,hk⟩:=x.done
 have noA:∀b:Addr,b∉(lV CX P w K mg base N qual scope f cd A outer s H E).ex:=λb z=>absurd (show b∈([]:List Addr) from z) zS
 refine⟨⟨e0.mod,S.kind,rfl,rfl,zC _,λy z c h1 h2=>?_,λy hy=>?_,λy c _ h=>?_,λ_=>hd,Around.frames_deeper e0.frames,.inr ⟨rfl,rfl⟩,λb z=>absurd z (noA b),e0.bs,e0.bsz,λb _ _=>noA b,λb z=>absurd z (noA b),e0.funs,e0.frf⟩,
  rfl,e0.bare,Un.kept hk,⟨_,x.toInCall.ns,λi y v h1 h2 h3=>?_⟩,λy c h=>⟨_,x.cell y c h⟩,e0.hok.fresh (zC _),λy c h=>?_,λp hp=>absurd (show p∈([]:List (Addr×Obj)) from hp) zS,e0.hok.kept hk,?_⟩
 ·exact name_of_addr x.apart (zzd h1) (zzd h2)
 ·have hy:scope.names.lookup y=some .cell\/scope.names.lookup y=some .free:=hy
  rcases hy with hy|hy
  ·exact rO hy
  ·exact absurd rfl (S.nofree _ (zzd hy))
 ·exact Nat.le_of_lt (x.above y c (zzd h))
 ·have hi:i<vs.length:=by unfold start at h2;by_cases hi:i<vs.length;exact hi;rw[zE (by simpa using hi)]at h2;rw[List.getElem?_replicate]at h2;split at h2<;>cases h2
  have ha:vs[i]?=some v:=by
   unfold start at h2;rw[zJ (by simpa using hi),Za]at h2;cases e:vs[i]? with
   |none=>rw[e]at h2;cases h2
   |some a=>rw[e]at h2;cases h2;rfl
  obtain⟨u,hu,rv⟩:=r.get ha
  have hp:ps[i]?=some y:=by rw[<- S.pre,List.getElem?_take_of_lt zL];exact h1
  have ndP:ps.Nodup:=by rw[<- S.pre];exact S.nd.sublist (List.take_sublist _ _)
  refine⟨u,rv,?_⟩
  rcases S.par y (zH hp) with k|k
  ·exact .inl ⟨k,nh ndP hp hu k⟩
  ·obtain⟨c,e⟩:=rO (n:=s.heap.objs.size+1) k
   refine .inr ⟨.inl k,c,e,?_⟩
   have q:=x.cell y c e
   rw[nK ndP hp hu (by show scope.names.lookup y≠_;rw[k];decide)]at q
   exact q
 ·exact e0.hok.fresh (Nat.le_of_lt (x.above y c (zzd h)))
 ·unfold start
  show _=N.length
  rw[zM,zj,List.length_replicate]
  lia
theorem Ba{K:Fg0}{k:Nat}{f:Addr}{name qual:Str}{params:Arguments}{body:List Stmt}{scope:Scope}{dV kV doc pm cdv ct oc:Value}{an od:Option Addr}
  {osl:Array (Option Value)}{N ps:List Str}{sp:Sp} (lk:K.lookup f=some ⟨oc,od,.func (PySem.W.fnOf name qual params body scope dV kV doc pm an cdv ct),osl⟩) (hcd:PySem.W.codeIn K cdv qual=true) (S:fJ N ps scope)
  (len:∀vs H Q E,sp vs H Q E->vs.length=ps.length)
  (hbody:∀(A:Around) (outer:List Env) (s:Shared) (H:Hp) (vs:List V) (Q:VK) (E:XK),bX k (A.deeper (envOfC qual scope s.heap.objs.size f cdv))->sp vs H Q E ->
   ∃t,PSs (lV CX P w K mg base N qual scope f cdv A outer s H E) body t/\t { nx:=λ_ H'=>Q .non H',rt:=Q } (start N vs) H) :
  eF P w K mg base CX (k+1) f (PySem.W.fnOf name qual params body scope dV kV doc pm an cdv ct) ps sp:=by
 refine⟨len,λA outer s H args us vs Q E hr e0 hb r hsp=>?_⟩
 have hl:=len _ _ _ _ hsp
 have KX:K.In s.heap:=e0.mod.kin.keeps λb o e=>(e0.bs b o e).1
 have lim:s.heap.NoLimit:=e0.mod.nolimit.keeps λb o e=>(e0.bs b o e).1
 have hkind:∀y∈ps.zip us,scope.names.lookup y.1=some .local\/(scope.names.lookup y.1=some .cell/\((cellsFrom (s.heap.objs.size+1) scope.names []).lookup y.1).isSome=true):=λ⟨n,v⟩ hy=>by rcases S.par n (List.of_mem_zip hy).1 with q|q;exact .inl q;exact .inr ⟨q,PySem.W.cellsFrom_some _ _ _ (.inl q)⟩
 refine codeAny_call_function hr.depth (KX _ _ lk) rfl S.co S.gen rfl (PySem.W.codeRec_of KX hcd) (hb _ _ _ _ ?_)
 refine wpAny_newFunctionEnv_cells S.kind hkind λenv he s1 x=>?_
 subst he
 refine⟨lim.keeps x.toInCall.keep,codeAny_func ?_⟩
 obtain⟨t,ht,hq⟩:=hbody A outer s H vs Q E (hr.deeper _) hsp
 have I:Inv (lV CX P w K mg base N qual scope f cdv A outer s H E) [] (start N vs) H s1:=wM S hr.hd e0 hl r x
 refine ZL (ht [] s1 (start N vs) H _ I hq) (λfl s' hs=>?_) λe s' hs=>hs
 have fin:∀{σ':St}{H':Hp}{v:V}{u:Value},Inv (lV CX P w K mg base N qual scope f cdv A outer s H E) [] σ' H' s'->RelV v u->Q v H'->CE outer P w H s Q u s' :=
  λ{σ' H' v u} J rv q=>⟨v,H',J.os,J.bare,J.base,J.hok,rv,q⟩
 cases fl with
 |ret u =>
  obtain⟨v,σ',H',J,rv,q⟩:=hs
  exact fin J rv q
 |next =>
  obtain⟨σ',H',J,q⟩:=hs
  exact fin (v:=V.non) (u:=Value.none) J rfl q
 |brk =>
  obtain⟨_,_,_,q⟩:=hs
  exact False.elim q
 |cont =>
  obtain⟨_,_,_,q⟩:=hs
  exact False.elim q
section
variable {X:Cx}{x:Str}{p pos:Pos}{e:Expr}{es:List Expr}{t:TA}{id T:String}{r:List V->Hp->VK->Prop}
def O9(r:List V->Hp->VK->Prop)(t:TA):TE:=λσ H Q=>t σ H λvs H1=>r vs H1 Q
theorem cG(hc:bx X (.builtin id) r)(hg:Gl X x)(hm:X.mg x=none)(hv:bootBuiltins x=some (.builtin id))(ha:PA X (e::es) t)(hn:x≠"__name__":=by decide)(hdb:(x==("__debug__":Str))=false:=by decide)
  (he:starEach (e::es) X.env=(false,eval e X.env)::starEach es X.env:=by rfl) (hpl:(backTo pos (starEach es X.env)).any (·.1)=false:=by rfl):PE X (.Call (.Name x p) (e::es) [] pos) (O9 r t):=by
 intro pins s σ H Q I h
 refine ZZ (ef I hg hm hv ?_ hn hdb)
 exact PyProof.Rows.callWith_builtin1 (aW (ha pos pins s σ H _ I h) λus s1 ⟨vs,H1,I1,r1,q1⟩=>hc pins s1 σ H1 vs us Q I1 r1 q1) he hpl
theorem bR(hc:bx X (.type T) r)(hg:Gl X x)(hm:X.mg x=none)(hv:bootBuiltins x=some (.type T))(ha:PA X (e::es) t)(hn:x≠"__name__":=by decide)(hdb:(x==("__debug__":Str))=false:=by decide)
  (he:starEach (e::es) X.env=(false,eval e X.env)::starEach es X.env:=by rfl) (hpl:(backTo pos (starEach es X.env)).any (·.1)=false:=by rfl):PE X (.Call (.Name x p) (e::es) [] pos) (O9 r t):=by
 intro pins s σ H Q I h
 refine ZZ (ef I hg hm hv ?_ hn hdb)
 exact ZC (aW (ha pos pins s σ H _ I h) λus s1 ⟨vs,H1,I1,r1,q1⟩=>hc pins s1 σ H1 vs us Q I1 r1 q1) he hpl
end
end L2
namespace HT
open PySem PyProof.Rows
def L4:List Int->List Int->Bool
 |[],[]=>false
 |[],_::_=>true
 |_::_,[]=>false
 |x::xs,y::ys=>if x=y then L4 xs ys else decide (x<y)
section
open PySem.SeqAt
open PySem.AutoSeq1 (wpAny_loadPart')
open PySem.MeetsSeq PySem.MeetsSeq2 PySem.MeetsSeq3
end
section
variable {prog:Program}{w:World}{A:Around}{E:Value->Shared->Prop}{s:Shared}
theorem cat_tup(ht:IsTup s.heap t vs.toArray)(hb:IsTup s.heap b ws.toArray)(hv:vs≠[])
  (h1:ws=[]->Q (.ref t) s) (h2:ws≠[]->Q (.ref s.heap.objs.size) { s with heap:=s.heap.push { cls:=.type "tuple",data:=.seq (vs++ws).toArray } })
  (hsz:vs.length+ws.length<=sizeLine):wpAny (model prog w) A (binaryOp .Add (.ref t) (.ref b)) Q E s:=by
 obtain⟨⟨cls,dd,data,sl⟩,ho,hc,n,hd⟩:=id ht
 obtain⟨⟨cls2,dd2,data2,sl2⟩,ho2,hc2,n2,hd2⟩:=id hb
 simp only at hc hd hc2 hd2
 subst hc hd hc2 hd2
 have e:vs.toArray++ws.toArray=(vs++ws).toArray:=zS
 by_cases hw:ws=[]
 ·exact concat_meets ⟨_,ho,rfl⟩ ⟨_,ho2,rfl⟩ noFill_tuple_add seq_tuple_add PySem.F.slot_tuple_add PySem.F.entry_tuple_add (PySem.F.args_tuple_add_2 _ _)
   (tuple_addW1 t b vs.toArray ws.toArray n n2 dd dd2 sl sl2 (by simpa using hv) (by simp[hw])) ⟨ho,ho2,h1 hw⟩
 ·refine concat_meets ⟨_,ho,rfl⟩ ⟨_,ho2,rfl⟩ noFill_tuple_add seq_tuple_add PySem.F.slot_tuple_add PySem.F.entry_tuple_add (PySem.F.args_tuple_add_2 _ _)
   (tuple_addW2 t b vs.toArray ws.toArray n n2 dd dd2 sl sl2 (by simpa using hv) (by simpa using hw) (by rw[Zp,Zp];exact hsz)) ⟨ho,ho2,?_⟩
  rw[e]
  exact h2 hw
def sIx(n d:Nat):Option Int->Nat
 |none=>d
 |some v=>if v<0 then(v+(n:Int)).toNat else min v.toNat n
theorem sIx_none(n d):sIx n d none=d:=rfl
theorem sIx_nat(n d k:Nat):sIx n d (some (k))=min k n:=rfl
theorem Ij(n d)(hd:d<=n)(o):sIx n d o<=n:=by
 cases o with
 |none=>exact hd
 |some v =>
  show(if v<0 then(v+(n)).toNat else min v.toNat n)<=n
  grind
theorem uL(v)(n d:Nat):(if v<0 then max (v+(n:Int)) 0 else min v (n:Int))=((sIx n d (some v):Nat):Int):=by
 show(if v<0 then max (v+(n)) 0 else min v (n))=(((if v<0 then(v+(n)).toNat else min v.toNat n)))
 grind
theorem uk(lo hi)(n:Nat):Builtin.Slice.sliceAdjust lo hi 1 (n:Int)=(((sIx n 0 lo:Nat):Int),((sIx n n hi:Nat):Int)):=by
 refine Prod.ext ?_ ?_;cases lo with
 |none=>rfl
 |some v=>exact uL v n 0
 cases hi with
 |none=>rfl
 |some v=>exact uL v n n
theorem sT(i j:Nat):Builtin.Slice.slicePlaces (i) (j) 1=j-i:=by
 unfold Builtin.Slice.slicePlaces
 grind
theorem m3(p:IsPart v o)(h:Q o s):wpAny (model prog w) A (Builtin.Slice.slicePartIndex v) Q E s:=by
 cases p with
 |none=>exact slicePart_none h
 |int i t=>exact slicePart_int h
theorem jW{lo hi:Option Int}{Q:Int×Int×Nat->Shared->Prop}(hs:s.heap.IsSliceOf sl vl vu .none)(pl:IsPart vl lo)(pu:IsPart vu hi)
  (h:Q (((sIx n 0 lo:Nat):Int),1,sIx n n hi-sIx n 0 lo) s):wpAny (model prog w) A (Builtin.Slice.sliceApplied (.ref sl) (pure (n:Int))) Q E s:=by
 obtain⟨os,hos,hcs,hds⟩:=id hs
 refine zd (zd (Zg hos hds (x:=vl) rfl (zd (Zg hos hds (x:=vu) rfl (zd (Zg hos hds  rfl (zB ?_)))))))
 refine zd (slicePart_none ?_)
 refine zd (m3 pl (zd (m3 pu (zd (zB ?_)))))
 show wpAny _ _ (match Builtin.Slice.sliceAdjust lo hi 1 (n:Int) with|(lo,hi)=>pure (lo,(1:Int),Builtin.Slice.slicePlaces lo hi 1)) _ _ s
 rw[uk lo hi n]
 show wpAny _ _ (pure (((sIx n 0 lo:Nat):Int),(1:Int),Builtin.Slice.slicePlaces ((sIx n 0 lo:Nat):Int) ((sIx n n hi:Nat):Int) 1)) _ _ s
 rw[sT]
 exact zB h
theorem Aj(xs:Array Value)(i k:Nat):((List.range k).filterMap λ(m:Nat)=>xs[((i:Int)+(m:Int)*1).toNat]?).toArray=((xs.toList.drop i).take k).toArray:=by
 have e:(λ(m:Nat)=>xs[((i:Int)+(m:Int)*1).toNat]?)=λm=>xs[i+m]?:=by funext m;have:((i:Int)+(m:Int)*1).toNat=i+m:=zL;rw[this]
 rw[e];have:=pick_run xs i k;rw[List.filterMap_map]at this;have e2:((λx=>xs[x]?) ∘ λx=>i+x)=λm=>xs[i+m]?:=rfl;rw[e2]at this;rw[this]
theorem getItem_tuple_cut{t sl:Addr}{lo hi:Option Int}(ht:IsTup s.heap t items)(hs:s.heap.IsSliceOf sl vl vu .none)(pl:IsPart vl lo)(pu:IsPart vu hi)
  (hw:¬ (sIx items.size 0 lo=0/\sIx items.size items.size hi=items.size))
  (h:Q (.ref s.heap.objs.size) { s with heap:=s.heap.push { cls:=.type "tuple",data:=.seq ((items.toList.drop (sIx items.size 0 lo)).take (sIx items.size items.size hi-sIx items.size 0 lo)).toArray } })
  (hsz:items.size<=sizeLine):wpAny (model prog w) A (getItem (.ref t) (.ref sl)) Q E s:=by
 have htake:sizeOk (.seq ((items.toList.drop (sIx items.size 0 lo)).take (sIx items.size items.size hi-sIx items.size 0 lo)).toArray):=by
  show((items.toList.drop (sIx items.size 0 lo)).take (sIx items.size items.size hi-sIx items.size 0 lo)).toArray.size<=sizeLine
  rw[Zp,Zo,List.length_drop,Array.length_toList]
  lia
 have hj:sIx items.size items.size hi<=items.size:=Ij _ _ (zC _) hi
 obtain⟨os,hos,hcs,hds⟩:=id hs
 have hTs:s.TypeIs (.ref sl) "slice":=⟨os,hos,hcs⟩
 unfold getItem
 try with_reducible refine ZH ?_
 first|refine zd (zB ?_)|skip
 refine zd (wpAny_sequenceKey ht.typeIs zD ?_)
 refine zd (Zv (name:=Str.ofString "__getitem__") ht.typeIs zzG
  (ZF zzG ht.typeIs entry_tuple_getitem ?_ (args_tuple_getitem _ _)))
 show wpAny _ _ (Builtin.Tuple.tupleItemsOf (.ref t) >>= _) _ _ s
 refine zd (tupleItemsOf_ ht ?_)
 refine zd (wpAny_typeOf hTs ?_)
 rw[zF zD]
 refine zd (jW hs pl pu ?_)
 have hno:¬ ((((sIx items.size 0 lo:Nat):Int)==0&&(1:Int)==1&&(sIx items.size items.size hi-sIx items.size 0 lo)==items.size)=true):=by grind
 show wpAny _ _ (if(((sIx items.size 0 lo:Nat):Int)==0&&(1:Int)==1&&(sIx items.size items.size hi-sIx items.size 0 lo)==items.size)=true then _ else _) _ _ s
 rw[zP hno,Aj]
 first
  |exact zd (m:=Builtin.Tuple.tupleExact _) (Z2 (zB ⟨_,rfl,zB h⟩) htake)
  |rfl
  |rfl
  |exact zd (zd (m:=Builtin.Tuple.tupleExact _) (Z2 (zB ⟨_,rfl,zB h⟩) htake))
end
end HT
namespace L2
open PySem PySem.Spec PyProof.Rows
abbrev TO:=St->Hp->(Option Int->Hp->Prop)->Prop
def PO(X:Cx)(e:Option Expr)(t:TO):Prop :=
 ∀(pins:List (Addr×Obj)) (s:Shared) (σ:St) (H:Hp) (Q:Option Int->Hp->Prop),Inv X pins σ H s->t σ H Q ->
  wpAny (model X.prog X.w) X.A (evalPart e X.env) (λu s'=>∃o H',Inv X pins σ H' s'/\IsPart u o/\Q o H') X.xe s
def CZ:TO:=λ_ H Q=>Q none H
def LQ(t:TE):TO:=λσ H Q=>t σ H λx H1=>∃i,x=.int i/\Q (some i) H1
section
variable {X:Cx}{e:Expr}{te:TE}{lo hi:Option Expr}{tl th:TO}{pos p2:Pos}
theorem ET:PO X none CZ:=by intro pins s σ H Q I h;exact zB ⟨none,H,I,.none,h⟩
theorem D3(h:PE X e te):PO X (some e) (LQ te):=by intro pins s σ H Q I hw;refine aW (h pins s σ H _ I hw) λu s1 zq=>?_;obtain⟨x,H1,I1,r1,q1⟩:=zq;obtain⟨i,rfl,q⟩:=q1;obtain⟨t,rfl⟩:=r1;exact⟨some i,H1,I1,.int i t,q⟩
def NR(X:Cx)(r:V->Option Int->Option Int->Hp->VK->Prop):Prop :=
 ∀(pins:List (Addr×Obj)) (s:Shared) (σ:St) (H:Hp) (x:V) (v vl vu:Value) (lo hi:Option Int) (sl:Addr) (Q:VK),Inv X pins σ H s->RelV x v->s.heap.IsSliceOf sl vl vu .none->IsPart vl lo->IsPart vu hi->r x lo hi H Q ->
  ∃T id,typeLookup (.type T) "__getitem__"=pure (some (.builtin id))/\s.TypeIs v T/\wpAny (model X.prog X.w) X.A (getItem v (.ref sl)) (EP X pins σ Q) X.xe s
def S2(r:V->Option Int->Option Int->Hp->VK->Prop)(te:TE)(tl th:TO):TE:=λσ H Q=>te σ H λx H1=>tl σ H1 λl H2=>th σ H2 λu H3=>r x l u H3 Q
theorem Av(hr:NR X r)(he:PE X e te)(hl:PO X lo tl)(hu:PO X hi th):PE X (.Subscript e (.Slice lo hi none p2) pos) (S2 r te tl th):=by intro pins s σ H Q I h;refine Subscript_ (aW (he pins s σ H _ I h) λv s1 zq=>?_);obtain⟨x,H1,I1,r1,q1⟩:=zq;refine wpAny_Slice (aW (hl pins s1 σ H1 _ I1 q1) λvl s2 ⟨l,H2,I2,pl,q2⟩=>aW (hu pins s2 σ H2 _ I2 q2) λvu s3 zq=>?_);obtain⟨u,H3,I3,pu,q3⟩:=zq;rw[evalPart_none];refine zB ?_;have I4:Inv X pins σ H3 { s3 with heap:=s3.heap.push { cls:=.type "slice",data:=.fields #[vl,vu,.none] } }:=I3.kept (t':=s3.toks) λb ob q=>hps0 _ q;obtain⟨T,id,hT,ht,hg⟩:=hr pins { s3 with heap:=s3.heap.push { cls:=.type "slice",data:=.fields #[vl,vu,.none] } } σ H3 x v vl vu l u s3.heap.objs.size Q I4 r1 (Heap.IsSliceOf.new ..) pl pu q3;show wpAny (model X.prog X.w) X.A (subscriptTail e (.Slice lo hi none p2) v (.ref s3.heap.objs.size)) (EP X pins σ Q) X.xe { s3 with heap:=s3.heap.push { cls:=.type "slice",data:=.fields #[vl,vu,.none] } };exact tail_any (ops:=[.ref s3.heap.objs.size,v]) ht hT hg (by with_unfolding_all rfl)
noncomputable def xA(xs:List V)(lo hi:Option Int):List V:=(xs.drop (HT.sIx xs.length 0 lo)).take (HT.sIx xs.length xs.length hi-HT.sIx xs.length 0 lo)
theorem kx(xs)(lo hi):(xA xs lo hi).length<=xs.length:=by
 unfold xA
 rw[Zo,List.length_drop]
 lia
inductive MI (K:Fg0) (x:V) (lo hi:Option Int) (H:Hp) (Q:VK):Prop
 |mk (a:_) (xs:_) (q0:x=.ref a) (q1:kq K H a xs) (q2:¬ (HT.sIx xs.length 0 lo=0/\HT.sIx xs.length xs.length hi=xs.length)) (q3:∀p,H p=none->Q (.ref p) (aY H p (.tup (xA xs lo hi))))
def PJ(K:Fg0):V->Option Int->Option Int->Hp->VK->Prop:=λx lo hi H Q=>MI K x lo hi H Q
theorem Hb:NR X (PJ X.K):=by
 intro pins s σ H x v vl vu lo hi sl Q I rx hs pl pu h;obtain⟨a,xs,rfl,hx,hw,q⟩:=h;cases rx;obtain⟨its,r,ht,hz⟩:=I.tuple hx;have hlen:its.toArray.size=xs.length:=by exact r.length.symm
 refine⟨"tuple",_,zzG.lookup,ht.typeIs,?_⟩;refine HT.getItem_tuple_cut ht hs pl pu (by rw[hlen];exact hw) ?_ (by simp_all);rw[hlen];refine⟨.ref s.heap.objs.size,_,I.laid   (λb ob q=>hps0 _ q) (zC _) ?_,rfl,q _ (I.hok.fresh (zC _))⟩;exact⟨zf (kx xs lo hi) hz,_,(r.drop (HT.sIx xs.length 0 lo)).take (HT.sIx xs.length xs.length hi-HT.sIx xs.length 0 lo),IsTup.new _ _⟩
inductive Jw (K:Fg0) (x y:V) (H:Hp) (Q:VK):Prop
 |mk (a:_) (b:_) (xs:_) (ys:_) (q0:x=.ref a) (q1:y=.ref b) (q2:kq K H a xs) (q3:kq K H b ys) (q4:xs≠[]) (q5:xs.length+ys.length<=sizeLine) (q6:(ys=[]->Q (.ref a) H)) (q7:(ys≠[]->∀p,H p=none->Q (.ref p) (aY H p (.tup (xs++ys)))))
def Nw(K:Fg0):R2:=λx y H Q=>Jw K x y H Q
theorem Vals.nil_iff(r:Vals xs us):us=[]↔xs=[]:=by
 cases r with
 |nil=>simp
 |cons _ _=>simp
theorem E7:hU X (binaryOp .Add) (Nw X.K):=by intro pins s σ H x y v u Q I rx ry h;obtain⟨a,b,xs,ys,rfl,rfl,ha,hb,hx,hz,q1,q2⟩:=h;cases rx;cases ry;obtain⟨its,r1,p1,_⟩:=I.tuple ha;obtain⟨its2,r2,p2,_⟩:=I.tuple hb;refine HT.cat_tup p1 p2 (λz=>hx (r1.nil_iff.mp z)) (λz=>⟨.ref a,H,I,rfl,q1 (r2.nil_iff.mp z)⟩) (λz=>(⟨.ref s.heap.objs.size,_,I.laid   (λb ob q=>hps0 _ q) (zC _) ?_,rfl,q2 (λw=>z (r2.nil_iff.mpr w)) _ (I.hok.fresh (zC _))⟩)) (by rw[<- r1.length,<- r2.length];exact hz);exact⟨by simp_all,_,r1.append r2,IsTup.new _ _⟩
end
def ixN(n:Nat)(i:Int):Option Nat:=if 0<=i then(if i<n then some i.toNat else none) else if -(n:Int)<=i then some (i+n).toNat else none
def atI{α:Type}(xs:List α)(i:Int):Option α:=(ixN xs.length i).bind λj=>xs[j]?
theorem vb(h:ixN n i=some j):seqIndex? i n=some j/\j<n/\-(n:Int)<=i/\i<n:=by unfold ixN at h;by_cases h0:0<=i;rw[zF h0]at h;by_cases h1:i<n;rw[zF h1]at h;have e:i.toNat=j:=z9 h;exact⟨by rw[seqIndex_of h0 h1,e],zL,zL,h1⟩;simp_all;rw[zP h0]at h;by_cases h1:-(n:Int)<=i;rw[zF h1]at h;have e:(i+n).toNat=j:=z9 h;exact⟨by rw[seqIndex_neg zL h1,e],zL,h1,zL⟩;rw[zP h1]at h;cases h
theorem pM{α:Type}{xs:List α}{i:Int}{v:α}(h:atI xs i=some v):∃j,seqIndex? i xs.length=some j/\xs[j]?=some v/\j<xs.length/\-(xs.length)<=i/\i<xs.length:=by
 unfold atI at h;cases e:ixN xs.length i with
 |none=>simp_all
 |some j=>obtain⟨h1,h2,h3,h4⟩:=vb e;simp_all
theorem kH{α:Type}{xs:List α}{j:Nat}{v:α}(h:xs[j]?=some v):atI xs (j)=some v:=by
 have hj :=(ze.mp h).1;have e:ixN xs.length (j)=some j:=by unfold ixN;simp_all
 unfold atI;simp_all
theorem f7(xs)(v:α):atI (xs++[v]) (-1)=some v:=by
 have e:ixN (xs++[v]).length (-1)=some xs.length:=by
  unfold ixN
  grind
 unfold atI
 grind
def vM(b:Expr):Prop:=∀o i,subscripted b false o i=operate [o,i] (getItem o i)
def MN(X:Cx)(r:R2):Prop :=
 ∀(value slice:Expr) (pins:List (Addr×Obj)) (s:Shared) (σ:St) (H:Hp) (x y:V) (v u:Value) (Q:VK),Inv X pins σ H s->RelV x v->RelV y u->r x y H Q ->
  subscripted slice false v u=operate [v,u] (getItem v u)->wpAny (model X.prog X.w) X.A (subscriptTail value slice v u) (EP X pins σ Q) X.xe s
def Qr(X:Cx)(id:String)(r:V->List V->Hp->VK->Prop):Prop :=
 ∀(pins:List (Addr×Obj)) (s:Shared) (σ:St) (H:Hp) (x:V) (xs:List V) (v:Value) (us:List Value) (Q:VK),Inv X pins σ H s->RelV x v->Vals xs us->r x xs H Q ->
  wpAny (model X.prog X.w) X.A (call (.builtin id) (v::us)) (EP X pins σ Q) X.xe s
section
variable {X:Cx}{a b:Expr}{ta tb:TE}{pos:Pos}
theorem Kt(hr:MN X r)(ha:PE X a ta)(hb:PE X b tb)(hs:vM b):PE X (.Subscript a b pos) (Kj r ta tb):=by intro pins s σ H Q I h;exact Subscript_ (GC ha hb I h λv u s2 x y H2 I2 rx ry q=>hr a b pins s2 σ H2 x y v u Q I2 rx ry q (hs _ _))
inductive Nc (K:Fg0) (x y:V) (H:Hp) (Q:VK):Prop
 |mk (p:_) (xs:_) (i:_) (v:_) (q0:x=.ref p) (q1:y=.int i) (q2:iT K H p xs) (q3:atI xs i=some v) (q4:Q v H)
def PD(K:Fg0):R2:=λx y H Q=>Nc K x y H Q
inductive Kw (K:Fg0) (x y:V) (H:Hp) (Q:VK):Prop
 |mk (p:_) (xs:_) (i:_) (v:_) (q0:x=.ref p) (q1:y=.int i) (q2:kq K H p xs) (q3:atI xs i=some v) (q4:Q v H)
def Pw(K:Fg0):R2:=λx y H Q=>Kw K x y H Q
inductive LP (x y:V) (H:Hp) (Q:VK):Prop
 |mk (z:_) (i:_) (c:_) (q0:x=.str z) (q1:y=.int i) (q2:z.length<=sizeLine) (q3:atI z.cps.toList i=some c) (q4:Q (.str ⟨#[c]⟩) H)
def Oo:R2:=λx y H Q=>LP x y H Q
theorem DG:MN X (PD X.K):=by
 intro value slice pins s σ H x y v u Q I rx ry h hs;obtain⟨p,xs,i,z,rfl,rfl,hq,he,q⟩:=h;cases rx;obtain⟨t,rfl⟩:=ry;obtain⟨its,r,pl,hz⟩:=I.list hq;obtain⟨j,h1,h2,h3,h4,h5⟩:=pM he;obtain⟨w,ew,rw'⟩:=r.get h2;have hl:=r.length;have hn:=jH;have fin:EP X pins σ Q w s:=⟨z,H,I,rw',q⟩;by_cases h0:0<=i;have hj:i.toNat=j:=by rw[seqIndex_of h0 h5]at h1;exact z9 h1
 exact item_listR pl.isList h0 zL (by rw[hj];simpa using ew) fin hs;have hj:(i+(its.toArray.size:Int)).toNat=j:=by rw[seqIndex_neg zL h4]at h1;simp_all
 exact subscriptTail_builtinR (x:=w) pl.isList.typeIs slot_list_getitem.lookup
  (wpAny_getItem_list_neg (Q:=λr s'=>r=w/\EP X pins σ Q r s') pl.isList zL (by rw[Zp]<;>lia) zL (by rw[hj];simpa using ew) ⟨rfl,fin⟩) hs
theorem Iw:MN X (Pw X.K):=by
 intro value slice pins s σ H x y v u Q I rx ry h hs;obtain⟨p,xs,i,z,rfl,rfl,hq,he,q⟩:=h;cases rx;obtain⟨t,rfl⟩:=ry;obtain⟨its,r,pl,hz⟩:=I.tuple hq;obtain⟨j,h1,h2,h3,h4,h5⟩:=pM he;obtain⟨w,ew,rw'⟩:=r.get h2;have hl:=r.length;have hn:=jH;have fin:EP X pins σ Q w s:=⟨z,H,I,rw',q⟩
 exact subscriptTail_builtinR  pl.typeIs slot_tuple_getitem.lookup
  (getItem_tuple (j:=j)  pl zL zL (by simp_all) (by simpa using ew) ⟨rfl,fin⟩) hs
theorem Ib:MN X Oo:=by intro value slice pins s σ H x y v u Q I rx ry h hs;obtain⟨z,i,c,rfl,rfl,hz,he,q⟩:=h;obtain⟨t,rfl⟩:=rx;obtain⟨t',rfl⟩:=ry;obtain⟨j,h1,h2,h3,h4,h5⟩:=pM he;have hl:z.cps.toList.length=z.length:=rfl;have hn:=jH;exact tail_any (typeIs_str s z t) slot_str_getitem.lookup (getItem_str  (by grind) (by simp_all) ⟨.str ⟨#[c]⟩,H,I.tok _,⟨_,rfl⟩,q⟩) hs
theorem tD(its:List Value)(n j)(u):Obj.mapSeq (·.setIfInBounds j u) { cls:=.type "list",data:=.seq its.toArray n }={ cls:=.type "list",data:=.seq (its.set j u).toArray n }:=by simp[Obj.mapSeq]
theorem Inv.lst{pins:List (Addr×Obj)}{σ:St}{H:Hp}{s:Shared}{p:Addr}{xs:List V}(I:Inv X pins σ H s)(h:H p=some (.lst xs)) :
  ∃(its:List Value) (n:Nat),Vals xs its/\s.heap.get? p=some { cls:=.type "list",data:=.seq its.toArray n }/\xs.length<=sizeLine:=by
 obtain⟨z,its,n,r,e⟩:=I.hok p _ h
 simp_all
theorem Inv.lstUpd{pins:List (Addr×Obj)}{σ:St}{H:Hp}{s:Shared}{p:Addr}{xs ys:List V}{its its':List Value}{n n':Nat}{f:Obj->Obj}(I:Inv X pins σ H s)(h:H p=some (.lst xs))
  (ho:s.heap.get? p=some { cls:=.type "list",data:=.seq its.toArray n }) (hf:f { cls:=.type "list",data:=.seq its.toArray n }={ cls:=.type "list",data:=.seq its'.toArray n' }) (r:Vals ys its') (hz:ys.length<=sizeLine) (t:Nat) :
  Inv X pins σ (aY H p (.lst ys)) { s with heap:=s.heap.update p f,toks:=t }:=by
 have e:(s.heap.update p f).get? p=some { cls:=.type "list",data:=.seq its'.toArray n' }:=by rw[ZU f ho (by rw[hf]<;>rfl),hf]
 refine I.write (x:=p) (e:=p) (by rw[h];trivial) (.inl rfl) (λb u hb q=>(zzi _ _ (zza hb)).trans q) ⟨_,e⟩ ?_
 exact⟨hz,its',n',r,e⟩
inductive IP (o i v:V) (H:Hp) (Q:Hp->Prop):Prop
 |mk (p:_) (xs:_) (k:_) (j:_) (q0:o=.ref p) (q1:i=.int k) (q2:H p=some (.lst xs)) (q3:ixN xs.length k=some j) (q4:Q (aY H p (.lst (xs.set j v))))
def Fz:V->V->V->Hp->(Hp->Prop)->Prop:=λo i v H Q=>IP o i v H Q
theorem Ak:JK X Fz:=by
 intro pins s σ H o i v ov iv u Q I ro ri rv h
 obtain⟨p,xs,k,j,rfl,rfl,hp,hj,q⟩:=h
 cases ro
 obtain⟨t,rfl⟩:=ri
 obtain⟨its,n,r,ho,hz⟩:=I.lst hp
 obtain⟨h1,h2,h3,h4⟩:=vb hj
 have hl:=r.length
 have hn:=jH
 have I'  :=
  I.lstUpd hp ho (tD its n j u) (r.set rv j) (by rw[ZN];exact hz) s.toks
 by_cases h0:0<=k
 ·have hk:k.toNat=j:=by
   rw[seqIndex_of h0 h4]at h1
   exact z9 h1
  exact PySem.W.ki_setAt ho h0 zL (by rw[Zp,<- hl];exact h4) (by rw[hk];exact⟨_,I',q⟩)
 ·have hk:(k+(its.toArray.size:Int)).toNat=j:=by
   rw[seqIndex_neg zL h3]at h1
   grind
  exact PySem.W.ki_setBack ho zL (by rw[Zp,<- hl];exact h3) zL (by rw[hk];exact⟨_,I',q⟩)
theorem pN(lo hi)(n):(sliceBounds lo hi none n).1=((HT.sIx n 0 lo:Nat):Int)/\(sliceBounds lo hi none n).2.1=((HT.sIx n n hi:Nat):Int)/\(sliceBounds lo hi none n).2.2=1:=by
 refine⟨?_,?_,rfl⟩;cases lo with
 |none=>simp[sliceBounds,HT.sIx]
 |some i=>simp only[sliceBounds,HT.sIx,Option.getD_none,show(1:Int)>0 by decide,if_true];by_cases h:i<0;simp only[h,if_true]<;>lia;simp only[h,if_false]<;>lia
 cases hi with
 |none=>simp[sliceBounds,HT.sIx]
 |some i=>simp only[sliceBounds,HT.sIx,Option.getD_none,show(1:Int)>0 by decide,if_true];by_cases h:i<0;simp only[h,if_true]<;>lia;simp only[h,if_false]<;>lia
theorem mR(its:List Value)(lo hi):slicePick its.toArray lo hi none=((its.drop (HT.sIx its.length 0 lo)).take (HT.sIx its.length its.length hi-HT.sIx its.length 0 lo)).toArray:=by obtain⟨h1,h2,h3⟩:=pN lo hi its.toArray.size;unfold slicePick;rw[h1,h2,h3];simp only[sliceRange_one,pick_run,Zp]<;>rfl
def PZ(K:Fg0):V->Option Int->Option Int->Hp->VK->Prop:=λx lo hi H Q=>∃a xs,x=.ref a/\iT K H a xs/\∀p,H p=none->Q (.ref p) (aY H p (.lst (xA xs lo hi)))
theorem C7:NR X (PZ X.K):=by intro pins s σ H x v vl vu lo hi sl Q I rx hs pl pu h;obtain⟨a,xs,rfl,hx,q⟩:=h;cases rx;obtain⟨its,r,ht,hz⟩:=I.list hx;have hlen:=r.length;refine⟨"list",_,slot_list_getitem.lookup,ht.isList.typeIs,(wpAny_getItem_list_slice ht.isList hs pl pu .none zS ?_ (by grind))⟩;rw[mR,<- hlen];refine⟨.ref s.heap.objs.size,_,I.laid   (λb ob q=>hps0 _ q) (zC _) ?_,rfl,q _ (I.hok.fresh (zC _))⟩;exact⟨zf (kx xs lo hi) hz,_,0,(r.drop (HT.sIx xs.length 0 lo)).take (HT.sIx xs.length xs.length hi-HT.sIx xs.length 0 lo),zA _ rfl⟩
def iB:V->Bool
 |.non=>true
 |.bl _=>true
 |.int _=>true
 |.str _=>true
 |_=>false
noncomputable def BW:V->V->Bool
 |.non,.non=>true
 |.bl a,.bl b=>a==b
 |.bl a,.int b=>(if a then 1 else 0)==b
 |.int a,.bl b=>a==(if b then 1 else 0)
 |.int a,.int b=>a==b
 |.str a,.str b=>a==b
 |_,_=>false
theorem Hw(ry:RelV y u)(rx:RelV x v)(fy:iB y=true)(fx:iB x=true):SeqAt.EqAt A s u v (BW y x):=by
 cases y with
 |non=>
  cases ry;cases x with
  |non=>cases rx;exact SeqAt.EqAt.same _
  |bl b=>cases rx;exact SeqAt.EqAt.none_bool b
  |int b=>obtain⟨t,rfl⟩:=rx;exact SeqAt.EqAt.none_int b t
  |str b=>obtain⟨t,rfl⟩:=rx;exact SeqAt.EqAt.none_str b t
  |_=>exact absurd (show false=true from fx) zU
 |bl a=>
  cases ry;cases x with
  |non=>cases rx;exact SeqAt.EqAt.bool_none a
  |bl b=>cases rx;exact SeqAt.EqAt.bool_bool a b
  |int b=>obtain⟨t,rfl⟩:=rx;exact SeqAt.EqAt.bool_int a b t
  |str b=>obtain⟨t,rfl⟩:=rx;exact SeqAt.EqAt.bool_str a b t
  |_=>exact absurd (show false=true from fx) zU
 |int a=>
  obtain⟨t',rfl⟩:=ry;cases x with
  |non=>cases rx;exact SeqAt.EqAt.int_none a t'
  |bl b=>cases rx;exact SeqAt.EqAt.int_bool a t' b
  |int b=>obtain⟨t,rfl⟩:=rx;exact SeqAt.EqAt.int_int a t' b t
  |str b=>obtain⟨t,rfl⟩:=rx;exact SeqAt.EqAt.int_str a t' b t
  |_=>exact absurd (show false=true from fx) zU
 |str a=>
  obtain⟨t',rfl⟩:=ry;cases x with
  |non=>cases rx;exact SeqAt.EqAt.str_none a t'
  |bl b=>cases rx;exact SeqAt.EqAt.str_bool a t' b
  |int b=>obtain⟨t,rfl⟩:=rx;exact SeqAt.EqAt.str_int a t' b t
  |str b=>obtain⟨t,rfl⟩:=rx;exact SeqAt.EqAt.str_str a t' b t
  |_=>exact absurd (show false=true from fx) zU
 |_=>exact absurd (show false=true from fy) zU
noncomputable def tS(x:V)(u:Value):Bool:=match u with
 |.none=>BW .non x
 |.bool b=>BW (.bl b) x
 |.int i _=>BW (.int i) x
 |.str z _=>BW (.str z) x
 |_=>false
theorem A1(r:RelV y u)(f:iB y=true):tS x u=BW y x:=by
 cases y with
 |non=>cases r;rfl
 |bl b=>cases r;rfl
 |int i=>obtain⟨t,rfl⟩:=r;rfl
 |str z=>obtain⟨t,rfl⟩:=r;rfl
 |_=>exact absurd (f) zU
theorem jt:∀{xs:List V}{us:List Value},Vals xs us->xs.all iB=true->us.any (tS x)=xs.any λy=>BW y x
 |_,_,.nil,_=>rfl
 |y::xs,u::us,.cons r t,f=>by rw[ZO,zI]at f;rw[List.any_cons,List.any_cons,A1 r f.1,jt t f.2]
theorem hW(rx:RelV x v)(fx:iB x=true):∀{xs:List V}{us:List Value},Vals xs us->xs.all iB=true->∀u∈us,SeqAt.EqAt A s u v (tS x u)
 |_,_,.nil,_=>λu hu=>by grind
 |y::xs,u::us,.cons r t,f=>λu' hu=>by rw[ZO,zI]at f;rcases zV.mp hu with rfl|hu;rw[A1 r f.1];exact Hw r rx f.1 fx;exact hW rx fx t f.2 u' hu
def Ke(x:V)(xs:List V):Bool:=xs.any λy=>BW y x
inductive Pn (K:Fg0) (neg:Bool) (x y:V) (H:Hp) (Q:VK):Prop
 |mk (p:_) (xs:_) (q0:y=.ref p) (q1:(iT K H p xs\/kq K H p xs)) (q2:iB x=true) (q3:xs.all iB=true) (q4:Q (.bl (if neg then !Ke x xs else Ke x xs)) H)
def Q1(K:Fg0)(neg:Bool):R2:=λx y H Q=>Pn K neg x y H Q
theorem wH:hU X (compareOp .In) (Q1 X.K false):=by intro pins s σ H x y v u Q I rx ry h;obtain⟨p,xs,rfl,hq,fx,fs,q⟩:=h;cases ry;rcases hq with hq|hq;obtain⟨its,r,pl,hz⟩:=I.list hq;refine SeqAt.in_listAt (tS x) pl.isList (λw hw=>hW rx fx r fs w (by simp_all)) ⟨.bl _,H,I,rfl,?_⟩;rw[show its.toArray.any (tS x)=its.any (tS x) by simp,jt r fs];exact q;obtain⟨its,r,pl,hz⟩:=I.tuple hq;refine SeqAt.in_tupleAt (tS x) pl (λw hw=>hW rx fx r fs w (by simpa using hw)) ⟨.bl _,H,I,rfl,?_⟩;rw[show its.toArray.any (tS x)=its.any (tS x) by simp,jt r fs];exact q
theorem oH:hU X (compareOp .NotIn) (Q1 X.K true):=by intro pins s σ H x y v u Q I rx ry h;obtain⟨p,xs,rfl,hq,fx,fs,q⟩:=h;cases ry;rcases hq with hq|hq;obtain⟨its,r,pl,hz⟩:=I.list hq;refine SeqAt.notIn_listAt (tS x) pl.isList (λw hw=>hW rx fx r fs w (by simp_all)) ⟨.bl _,H,I,rfl,?_⟩;rw[show its.toArray.any (tS x)=its.any (tS x) by simp,jt r fs];exact q;obtain⟨its,r,pl,hz⟩:=I.tuple hq;refine SeqAt.notIn_tupleAt (tS x) pl (λw hw=>hW rx fx r fs w (by simpa using hw)) ⟨.bl _,H,I,rfl,?_⟩;rw[show its.toArray.any (tS x)=its.any (tS x) by simp,jt r fs];exact q
theorem pq:bx X (.builtin "len") (λxs H Q=>∃p ys,xs=[.ref p]/\(iT X.K H p ys\/kq X.K H p ys)/\Q (.int ys.length) H):=by intro pins s σ H xs us Q I r h;obtain⟨p,ys,rfl,hq,q⟩:=h;obtain⟨u,rfl,rx⟩:=nk r;cases rx;have hn:=jH;rcases hq with hq|hq;obtain⟨its,r',pl,hz⟩:=I.list hq;have hlen:=r'.length;exact Calls.call_len_list pl.isList (by simp only[Zp]<;>lia) ⟨.int ys.length,H,I.tok _,⟨s.toks+1,by rw[Zp,hlen]⟩,q⟩;obtain⟨its,r',pl,hz⟩:=I.tuple hq;have hlen:=r'.length;exact len_tuple pl (by simp only[Zp]<;>lia) ⟨.int ys.length,H,I.tok _,⟨s.toks+1,by grind⟩,q⟩
theorem pC:bx X (.builtin "len") (λxs H Q=>∃z,xs=[.str z]/\z.length<=sizeLine/\Q (.int z.length) H):=by intro pins s σ H xs us Q I r h;obtain⟨z,rfl,hz,q⟩:=h;obtain⟨u,rfl,t,rfl⟩:=nk r;have hn:=jH;exact len_str zL ⟨.int z.length,H,I.tok _,⟨_,rfl⟩,q⟩
theorem iZ:bx X (.type "list") (λxs H Q=>∃p ys,xs=[.ref p]/\(iT X.K H p ys\/kq X.K H p ys)/\∀l,H l=none->Q (.ref l) (aY H l (.lst ys))):=by
 intro pins s σ H xs us Q I r h;obtain⟨p,ys,rfl,hq,q⟩:=h;obtain⟨u,rfl,rx⟩:=nk r;cases rx
 have fin:∀(its:List Value),Vals ys its->ys.length<=sizeLine->∀(h':Heap) (c':Nat),(∀b o',s.heap.get? b=some o'->h'.get? b=some o') ->
   h'.get? s.heap.objs.size=some { cls:=.type "list",dict:=none,data:=.seq its.toArray c',slots:=#[] }->EP X pins σ Q (.ref s.heap.objs.size) { s with heap:=h' }:=λits r' hz h' c' kp e =>
  ⟨.ref s.heap.objs.size,_,I.laid (t':=s.toks) kp (zC _) (show cx X.prog X.w _ h' _ (.lst ys) from⟨hz,its,c',r',e⟩),rfl,q _ (I.hok.fresh (zC _))⟩
 rcases hq with hq|hq;obtain⟨its,r',pl,hz⟩:=I.list hq;have hlen:=r'.length;obtain⟨o,ho,hc,n,hd⟩:=pl.isList;exact call_list_seq p (.inl rfl) ho hc hd (λh' c' kp e=>fin its r' hz h' c' kp e) (by simp only[Zp]<;>lia);obtain⟨its,r',pl,hz⟩:=I.tuple hq;have hlen:=r'.length;obtain⟨o,ho,hc,n,hd⟩:=pl;exact call_list_seq p (.inr rfl) ho hc hd (λh' c' kp e=>fin its r' hz h' c' kp e) (by simp_all)
theorem iC:bx X (.type "tuple") (λxs H Q=>∃p ys,xs=[.ref p]/\((iT X.K H p ys/\∀l,H l=none->Q (.ref l) (aY H l (.tup ys)))\/(kq X.K H p ys/\Q (.ref p) H))):=by
 intro pins s σ H xs us Q I r h;obtain⟨p,ys,rfl,h⟩:=h;obtain⟨u,rfl,rx⟩:=nk r;cases rx;rcases h with⟨hq,q⟩|⟨hq,q⟩;obtain⟨its,r',pl,hz⟩:=I.list hq;have hlen:=r'.length;refine call_tuple_list pl.isList (λh' kp=>?_) (by simp_all);have I1 :=I.kept (t':=s.toks) kp
 have I2  :=
  I1.laid (t':=s.toks) (λb o e=>hps0 _ e) (zC _) (show cx X.prog X.w _ _ _ (.tup ys) from⟨hz,its,r',IsTup.new _ _⟩)
 exact⟨.ref h'.objs.size,_,I2,rfl,q _ (I1.hok.fresh (zC _))⟩;obtain⟨its,r',pl,hz⟩:=I.tuple hq;exact call_tuple_same pl ⟨.ref p,H,I,rfl,q⟩
def NT(K:Fg0)(T:String)(x:V)(H:Hp):Prop:=match x with
 |.str _=>T="str"
 |.int _=>T="int"
 |.ref p=>(T="list"/\∃xs,iT K H p xs)\/(T="tuple"/\∃o,K.lookup p=some o/\o.cls=.type "tuple"/\o.dict=none) \/
  (T="dict"/\((∃kvs,H p=some (.dK kvs))\/∃kvs,H p=some (.dT kvs)))\/(T="set"/\∃S n,H p=some (.set S n))
 |_=>False
theorem AJ{pins:List (Addr×Obj)}{σ:St}{H:Hp}{s:Shared}{T:String}{x:V}{v:Value}(I:Inv X pins σ H s)(r:RelV x v)(ty:NT X.K T x H) :
  s.TypeIs v T/\∀a,v=.ref a->∃ob,s.heap.get? a=some ob/\ob.dict=none:=by
 cases x with
 |str z =>
  obtain⟨t,rfl⟩:=r
  cases (show T="str" from ty)
  exact⟨typeIs_str s z t,λ_ e=>nomatch e⟩
 |int i =>
  obtain⟨t,rfl⟩:=r
  cases (show T="int" from ty)
  exact⟨typeIs_int s i t,λ_ e=>nomatch e⟩
 |ref p =>
  cases r
  rcases ty with⟨rfl,xs,hq⟩|⟨rfl,o,hk,hc,hd⟩|⟨rfl,hk⟩|⟨rfl,S,n,hk⟩
  ·obtain⟨its,_,pl,_⟩:=I.list hq
   refine⟨pl.isList.typeIs,λa e=>?_⟩
   cases e
   obtain⟨o,n,e,c,hd,_⟩:=pl
   exact⟨o,e,hd⟩
  ·refine⟨⟨o,I.kIn p o hk,hc⟩,λa e=>?_⟩
   cases e
   exact⟨o,I.kIn _ o hk,hd⟩
  ·have z:∃o,s.heap.get? p=some o/\o.ExactDict:=by rcases hk with⟨kvs,hk⟩|⟨kvs,hk⟩;obtain⟨_,_,_,_,o,_,_,e,ex,_⟩:=I.hok p _ hk;exact⟨o,e,ex⟩;obtain⟨_,_,_,_,o,_,_,e,ex,_⟩:=I.hok p _ hk;exact⟨o,e,ex⟩
   obtain⟨o,e,ex⟩:=z
   refine⟨⟨o,e,ex.1⟩,λa e2=>?_⟩
   cases e2
   exact⟨o,e,ex.2.1⟩
  ·obtain⟨o,_,_,_,e,ex,_⟩:=I.hok p _ hk
   refine⟨⟨o,e,ex.1⟩,λa e2=>?_⟩
   cases e2
   exact⟨o,e,ex.2.1⟩
 |_=>exact False.elim ty
def OS(K:Fg0)(T:String)(r:V->List V->Hp->VK->Prop)(to:TE):TE:=λσ H Q=>to σ H λx H1=>NT K T x H1/\r x [] H1 Q
def Ri(K:Fg0)(T:String)(r:V->List V->Hp->VK->Prop)(to:TE)(t:TA):TE:=λσ H Q=>to σ H λx H1=>NT K T x H1/\t σ H1 λxs H2=>r x xs H2 Q
variable {o e:Expr}{es:List Expr}{to:TE}{t:TA}{name:Str}{apos cpos:Pos}{T id:String}{r:V->List V->Hp->VK->Prop}
theorem GH(pa:PlainAttrs T)(slot:Slot T name id)(hty:typeOf (.builtin id)=pure (.type "method_descriptor"))(hm:Qr X id r)(ho:PE X o to)
  (hbase:attributeBase o name X.env (eval o X.env)=eval o X.env:=by rfl) (hline:(apos.endLine==cpos.line)=true:=by rfl):PE X (.Call (.Attribute o name apos) [] [] cpos) (OS X.K T r to):=by
 intro pins s σ H Q I h
 refine wpAny_Call_method0_late hbase hline (aW (ho pins s σ H _ I h) λv s1 zq=>?_)
 obtain⟨x,H1,I1,r1,ty,q1⟩:=zq
 obtain⟨h1,h2⟩:=AJ I1 r1 ty
 exact⟨T,id,pa,slot,hty,h1,h2,Calls.callWith_builtin rfl (PySem.evalArgs_none (hm pins s1 σ H1 x [] v [] Q I1 r1 .nil q1))⟩
theorem Fs(pa:PlainAttrs T)(slot:Slot T name id)(hty:typeOf (.builtin id)=pure (.type "method_descriptor"))(hm:Qr X id r)(ho:PE X o to)(ha:PA X (e::es) t)
  (hbase:attributeBase o name X.env (eval o X.env)=eval o X.env:=by rfl)
  (hfew:((backTo cpos (starEach (e::es) X.env)).all (λx=>!x.1)&&(backToKw cpos (keywordEach [] X.env)).all (λx=>x.1.isSome)
   && decide ((e::es).length+([]:List Keyword).length+(if([]:List Keyword).isEmpty then 0 else 1)<30))=true:=by rfl)
  (hline:(apos.endLine==cpos.line)=true:=by rfl) (hs:starEach (e::es) X.env=(false,eval e X.env)::starEach es X.env:=by rfl) (hplain:(backTo cpos (starEach es X.env)).any (·.1)=false:=by rfl) :
  PE X (.Call (.Attribute o name apos) (e::es) [] cpos) (Ri X.K T r to t):=by
 intro pins s σ H Q I h
 refine wpAny_Call_method_late hbase hfew hline rfl (aW (ho pins s σ H _ I h) λv s1 zq=>?_)
 obtain⟨x,H1,I1,r1,ty,q1⟩:=zq
 obtain⟨h1,h2⟩:=AJ I1 r1 ty
 refine⟨T,id,pa,slot,hty,h1,h2,?_⟩
 have hA:=ha cpos pins s1 σ H1 _ I1 q1
 rw[hs]at hA ⊢
 exact Calls.callWith_builtin (by grind) (Calls.evalArgs_plain (aW hA λus s2 ⟨vs,H2,I2,r2,q2⟩=>hm pins s2 σ H2 x vs v us Q I2 r1 r2 q2))
end
def O7(X:Cx)(id:String)(r:V->List V->Hp->VK->Prop):Prop :=
 ∀(pins:List (Addr×Obj)) (s:Shared) (σ:St) (H:Hp) (x:V) (xs:List V) (v:Value) (us:List Value) (Q:VK),Inv X pins σ H s->RelV x v->Vals xs us->r x xs H Q ->
  wpAny (model X.prog X.w) X.A (call (.builtin id) (v::us)) (EP X pins σ Q) X.xe s
theorem Vals.one:∀{x:V}{us:List Value},Vals [x] us->∃u,us=[u]/\RelV x u
 |_,_,.cons r .nil=>⟨_,rfl,r⟩
theorem Vals.zero:∀{us:List Value},Vals [] us->us=[]
 |_,.nil=>rfl
theorem Vals.dropLast(h:Vals xs us):Vals xs.dropLast us.dropLast:=by
 induction h with
 |nil=>exact .nil
 |cons r t ih=>
  cases t with
  |nil=>exact .nil
  |cons q t'=>exact .cons r ih
theorem Vals.rep(h:Vals xs us):∀k:Nat,Vals (List.replicate k xs).flatten (List.replicate k us).flatten
 |0=>.nil
 |k+1=>Vals.append h (Vals.rep h k)
theorem nG(its):∀(k:Nat) (acc:List Value),
  List.foldl (λx1 x2=>x1++x2) acc.toArray (List.replicate k its.toArray)=(acc++(List.replicate k its).flatten).toArray
 |0,acc=>by simp
 |k+1,acc=>by
  have e:acc.toArray++its.toArray=(acc++its).toArray:=zS;have e2:(acc++its)++(List.replicate k its).flatten=acc++(List.replicate (k+1) its).flatten:=by grind
  rw[<- e2,<- nG its k (acc++its),<- e,List.replicate_succ,List.foldl_cons]
section
variable {X:Cx}{pins:List (Addr×Obj)}{σ:St}{H:Hp}{s:Shared}{l b:Addr}{xs ys zs:List V}
theorem Inv.lset{its its':List Value}{f:Array Value->Array Value}{t':Nat}(I:Inv X pins σ H s)(hH:H l=some (.lst xs))
  (e:s.heap.get? l=some { cls:=.type "list",data:=.seq its.toArray n }) (hf:f its.toArray=its'.toArray) (hv:Vals ys its') (hz:ys.length<=sizeLine) :
  Inv X pins σ (aY H l (.lst ys)) { s with heap:=s.heap.update l (Obj.mapSeq f),toks:=t' }:=by
 have q:=PySem.IsL.update e f
 rw[hf]at q
 refine I.write   (by rw[hH];exact trivial) (.inl rfl) (λb' u hb hu=>(zzi s.heap (Obj.mapSeq f) (zza hb)).trans hu) ⟨_,q⟩ ?_
 exact⟨hz,its',_,hv,q⟩
theorem Inv.lnew{its:List Value}{t':Nat}(I:Inv X pins σ H s)(hv:Vals ys its)(hz:ys.length<=sizeLine) :
  Inv X pins σ (aY H s.heap.objs.size (.lst ys)) { s with heap:=s.heap.push { cls:=.type "list",data:=.seq its.toArray },toks:=t' } :=
 I.laid (λ_ _ q=>hps0 _ q) (zC _) ⟨hz,its,0,hv,zA _ rfl⟩
theorem Inv.fresh(I:Inv X pins σ H s):H s.heap.objs.size=none:=I.hok.fresh (zC _)
theorem Inv.lstM(I:Inv X pins σ H s)(hH:H l=some (.lst xs)):xs.length<=sizeLine/\∃(its:List Value) (n:Nat),Vals xs its/\xs.length=its.length/\s.heap.get? l=some { cls:=.type "list",data:=.seq its.toArray n }:=by obtain⟨z,its,n,r,e⟩:=I.hok l _ hH;exact⟨z,its,n,r,r.length,e⟩
theorem rG(h:n<=sizeLine):Builtin.List.listTooLong n=false:=zX zL
end
section
variable {X:Cx}
inductive AM (x:V) (vs:List V) (H:Hp) (Q:VK):Prop
 |mk (l:_) (xs:_) (y:_) (q0:x=.ref l) (q1:vs=[y]) (q2:H l=some (.lst xs)) (q3:xs.length<sizeLine) (q4:Q .non (aY H l (.lst (xs++[y]))))
def CK:V->List V->Hp->VK->Prop:=λx vs H Q=>AM x vs H Q
theorem oo:O7 X "list.append" CK:=by
 intro pins s σ H x vs v us Q I rx rv h
 obtain⟨l,xs,y,rfl,rfl,hH,hz,q⟩:=h
 cases rx
 obtain⟨u,rfl,ru⟩:=rv.one
 obtain⟨z,its,n,r,hl,e⟩:=I.lstM hH
 refine call_meets F.slot_list_append ⟨_,e,rfl⟩ F.entry_list_append (F.args_list_append_2 _ _) (PySem.list_append l its.toArray n u (by grind)) ⟨e,(⟨.non,_,I.lset  hH e zS (r.append (.cons ru .nil)) ?_,rfl,q⟩)⟩
 grind
inductive A5 (x:V) (vs:List V) (H:Hp) (Q:VK):Prop
 |mk (l:_) (b:_) (xs:_) (zs:_) (q0:x=.ref l) (q1:vs=[.ref b]) (q2:H l=some (.lst xs)) (q3:H b=some (.lst zs)) (q4:xs.length+zs.length<=sizeLine) (q5:Q .non (aY H l (.lst (xs++zs))))
def CY:V->List V->Hp->VK->Prop:=λx vs H Q=>A5 x vs H Q
theorem xn:O7 X "list.extend" CY:=by
 intro pins s σ H x vs v us Q I rx rv h
 obtain⟨l,b,xs,zs,rfl,rfl,hH,hB,hz,q⟩:=h
 cases rx
 obtain⟨u,rfl,ru⟩:=rv.one
 cases ru
 obtain⟨z,its,n,r,hl,e⟩:=I.lstM hH
 obtain⟨z2,its2,n2,r2,hl2,e2⟩:=I.lstM hB
 have hsz:its.toArray.size+its2.toArray.size<=sizeLine:=by grind
 have hlong:¬ (!its.toArray.isEmpty&&Builtin.List.listTooLong (its.toArray.size+its2.toArray.size))=true:=by
  rw[rG hsz,Bool.and_false]
  exact zU
 refine call_meets F.slot_list_extend ⟨_,e,rfl⟩ F.entry_list_extend (F.args_list_extend_2 _ _)
  (AutoSeq1.list_extend_list_list_0 l its.toArray n b its2.toArray n2 hlong (by grind) zL) ⟨e,e2,?_⟩
 refine⟨.non,_,I.lset (its':=its++its2) hH e zS (r.append r2) ?_,rfl,q⟩
 rw[zM]
 lia
inductive K3 (x:V) (vs:List V) (H:Hp) (Q:VK):Prop
 |mk (l:_) (xs:_) (y:_) (q0:x=.ref l) (q1:vs=[]) (q2:H l=some (.lst xs)) (q3:xs[xs.length-1]?=some y) (q4:Q y (aY H l (.lst xs.dropLast)))
def PR:V->List V->Hp->VK->Prop:=λx vs H Q=>K3 x vs H Q
theorem Gq:O7 X "list.pop" PR:=by
 intro pins s σ H x vs v us Q I rx rv h
 obtain⟨l,xs,y,rfl,rfl,hH,hy,q⟩:=h
 cases rx
 have hus:=rv.zero
 subst hus
 obtain⟨z,its,n,r,hl,e⟩:=I.lstM hH
 obtain⟨u,hu,ru⟩:=r.get hy
 have hy':its.toArray[its.toArray.size-1]?=some u:=by simp_all
 refine call_meets F.slot_list_pop ⟨_,e,rfl⟩ F.entry_list_pop (F.args_list_pop_1 _) (MeetsSeq.list_pop_last l its.toArray n u hy' (by rw[Zp];lia)) ⟨e,?_⟩
 refine⟨y,_,I.lset  hH e ?_ r.dropLast ?_,ru,q⟩
 ·simp
 ·rw[List.length_dropLast]
  lia
inductive Nr (x y:V) (H:Hp) (Q:VK):Prop
 |mk (l:_) (b:_) (xs:_) (zs:_) (q0:x=.ref l) (q1:y=.ref b) (q2:H l=some (.lst xs)) (q3:H b=some (.lst zs)) (q4:xs.length+zs.length<=sizeLine) (q5:∀p,H p=none->Q (.ref p) (aY H p (.lst (xs++zs))))
def Qd:R2:=λx y H Q=>Nr x y H Q
theorem sQ:hU X (binaryOp .Add) Qd:=by intro pins s σ H x y v u Q I rx ry h;obtain⟨l,b,xs,zs,rfl,rfl,hH,hB,hz,q⟩:=h;cases rx;cases ry;obtain⟨z,its,n,r,hl,e⟩:=I.lstM hH;obtain⟨z2,its2,n2,r2,hl2,e2⟩:=I.lstM hB;refine PySem.P.add_list e e2 ?_ (by simp_all);have ea:its.toArray++its2.toArray=(its++its2).toArray:=zS;rw[ea];exact⟨.ref _,_,I.lnew  (r.append r2) (by simp_all),rfl,q _ I.fresh⟩
inductive KR (x y:V) (H:Hp) (Q:VK):Prop
 |mk (l:_) (k:_) (xs:_) (q0:x=.ref l) (q1:y=.int k) (q2:H l=some (.lst xs)) (q3:-(2^63)<=k) (q4:k<2^63) (q5:xs.length*k.toNat<=sizeLine) (q6:∀p,H p=none->Q (.ref p) (aY H p (.lst (List.replicate k.toNat xs).flatten)))
def OI:R2:=λx y H Q=>KR x y H Q
theorem CJ{α:Type}(xs:List α)(k:Nat):(List.replicate k xs).flatten.length=k*xs.length:=zS
theorem Aa:hU X (binaryOp .Mult) OI:=by
 intro pins s σ H x y v u Q I rx ry h
 obtain⟨l,k,xs,rfl,rfl,hH,h1,h2,hz,q⟩:=h
 cases rx
 obtain⟨t,rfl⟩:=ry
 obtain⟨z,its,n,r,hl,e⟩:=I.lstM hH
 have hlen:its.toArray.size*k.toNat<=sizeLine:=by rw[Zp,<- hl];exact hz
 have hcap:¬ its.toArray.size*k.toNat>(2^63-1)/8:=by
  have:(sizeLine:Nat)<=(2^63-1)/8:=zD
  lia
 have hfit:¬ (!Builtin.List.listFitsIndex k)=true:=by
  rw[fitsIndex_both h1 h2]
  exact zU
 have hlong:¬ Builtin.List.listTooLong (its.toArray.size*k.toNat)=true:=by
  rw[rG hlen]
  exact zU
 have hnew:List.foldl (λx1 x2=>x1++x2) #[] (List.replicate (if its.toArray.isEmpty=true then 0 else k.toNat) its.toArray)=(List.replicate k.toNat its).flatten.toArray:=by
  have f0 :=λm=>by
   have:=nG its m []
   rw[zzV]at this
   exact this
  rw[f0]
  cases its with
  |nil=>simp
  |cons a r'=>rw[zP zS]
 refine wpAny_binaryOp_repeat_ref (T:="list") (U:="int") zD ⟨_,e,rfl⟩ (λs'=>typeIs_int s' k t) noFill_list_mul F.fills_int_mul F.slot_int_rmul repeat_list F.slot_int_index.lookup
  (call_meets F.slot_int_rmul (typeIs_int s k t) F.entry_int_rmul (F.args_int_rmul_2 _ _) (int___rmul___int_list k t l its.toArray n)
   ⟨e,rfl,⟨_,e,rfl⟩,call_meets F.slot_list_mul ⟨_,e,rfl⟩ F.entry_list_mul (F.args_list_mul_2 _ _) (AutoListH.list___mul___list_int_3 l its.toArray n k t hfit hcap hlong) ⟨e,?_⟩⟩)
 rw[hnew]
 exact⟨.ref _,_,I.lnew (t':=s.toks) (r.rep k.toNat) (by rw[CJ,Nat.mul_comm];exact hz),rfl,q _ I.fresh⟩
end
section
variable {prog:Program}{w:World}{A:Around}{E:Value->Shared->Prop}{s:Shared}
end
section
variable {X:Cx}
end
end L2
namespace Att
open PySem PySem.W PySem.Calls PyProof.Rows
theorem kB:∀ns vs,WellAll P h vs (ns.map WData.int)->IntsAre vs ns:=by
 intro ns;induction ns with
 |nil=>intro vs w;cases w;exact .nil
 |cons n ns ih=>
  intro vs w;cases w with
  |cons a b=>cases a;exact .cons _ _ (ih _ b)
theorem wW{l:OpenLaw}{n:Nat}(hn:l.most=some n){P:Params}{h:Heap}{args:List WData}{vals:List Value}
  (hpre:l.row.toRowW.claim.pre args=true) (hwl:WellAll P h vals args) :
  ∃a vs ns,vals=[Value.ref a]/\args=[WData.list (ns.map WData.int)]/\h.get? a=some { cls:=.type "list",data:=.seq vs.toArray }/\IntsAre vs ns/\ns.length<=n:=by
 have hsh :=(pre_splitW hpre).1
 have hc:l.pre.holds [] { args:=args }=true:=(pre_splitW hpre).2
 obtain⟨d,r,rfl,h1,h2⟩:=hasAllW_cons hsh
 obtain rfl:=hasAllW_nil h2
 obtain⟨xs,rfl,h3⟩:=hasW_list h1
 obtain⟨ns,rfl⟩:=items_int h3
 have hlen:ns.length<=n:=by
  unfold OpenLaw.pre at hc
  have h4 :=by
   have h4:=(holds_andW hc).1
   rw[hn]at h4
   exact h4
  have h5:=condW_of h4 (w_not (w_lt w_lit (w_len_list (w_arg rfl))))
  grind
 cases hwl with
 |cons w1 w2 =>
  cases w2
  cases w1 with
  |list ho hall=>exact⟨_,_,ns,rfl,rfl,ho,kB ns _ hall,hlen⟩
theorem xg(l:OpenLaw)(args:List WData):l.row.toRowW.claim.post args (.bool true) args=true :=
 postW_of
  (show WShape.has [] (.bool true) .bool=true by rfl)
  (w_eq_bool (w_res rfl) w_lit) rfl
theorem attach_call{l:OpenLaw}{n:Nat}{q:Program}{loose:List Str}{XP:(Str->Option Value)->Heap->Prop}{YP:World->Heap->Prop}{d:DefRec}
  (hn:l.most=some n) (hdf:d.params.defaults=[])
  (call:∀(w:World) (s₀ s₁:Shared) (mg mb:Str->Option Value) (fa:Addr) (o:Obj) (pm cd doc:Value) (a:Addr) (vs:List Value) (ns:List Int),
   Ground q loose [] XP w s₀ mg mb s₁.heap->YP w s₁.heap ->
   s₁.heap.get? fa=some o->o.data=.func (docDef d.name d.params d.body d.scope pm cd doc)->s₁.heap.CodeRec cd d.name->mg d.name=some (.ref fa) ->
   s₁.heap.get? a=some { cls:=.type "list",data:=.seq vs.toArray }->IntsAre vs ns->ns.length<=n->s₁.gens=#[] ->
   codeAny (model l.prog w) callerA (.call (.ref fa) ⟨[.ref a],[]⟩) (λr s'=>r=.ok (.ret (.bool true))/\OldK s₁.heap s'.heap/\s'.os=s₁.os/\AllBare s'.gens) s₁) :
  WalkO q loose XP YP l.row.toRowW d [] (λf vs=>PySem.call f vs):=by
 intro w s₀ s₁ mg mb G Y fa o pm cd doc dV kV ho hd hcd hD hmg hg args vals as hpre hlay hrd hwl hlo
 obtain rfl:dV=.none:=Dflts.none hD hdf
 obtain rfl:kV=.none:=Dflts.noKw hD
 obtain⟨a,vs,ns,rfl,rfl,hobj,hints,hlen⟩:=wW hn hpre hwl
 refine enter_call (zzO (call w s₀ s₁ mg mb fa o pm cd doc a vs ns G Y ho (fd_plain hd) hcd hmg hobj hints hlen hg) λr s' hq=>?_)
 obtain⟨rfl,h2,h3,h4⟩:=hq
 exact⟨.inl ⟨.bool true,.bool true,[],rfl,λ_=>rfl,.bool true,xg l _,λ_=>⟨List.Pairwise.nil,λ_ hm=>(nomatch hm)⟩⟩,h2,h3,h4⟩
section
variable {prog:Program}{w:World}{A:Around}{E:Value->Shared->Prop}{s:Shared}{K:Frag}
end
end Att
namespace L2
open PySem PySem.Spec PyProof.Rows
theorem fm:∀{vs:List Value}{ns:List Int},IntsAre vs ns->Vals (ns.map V.int) vs
 |_,_,.nil=>.nil
 |_,_,.cons n t h=>.cons ⟨t,rfl⟩ (fm h)
def G4(H:Hp):Prop:=∀b,H b=none\/∃o xs,H b=some (.frz o (.lst xs))
theorem Bv{P:Program}{w:World}{K:Fg0}{mg mb:Str->Option Value}{CX:BX}{k:Nat}{fa a:Addr}{fd:FuncData}{x:Str}{sp:Sp}{s₁:Shared}{vs:List Value}{ns:List Int}
  (KX:K.In s₁.heap) (hns:s₁.heap.Ns mainGlobals mg) (hb:s₁.heap.Ns builtinsNs mb) (hbb:∀x:Str,x≠"__name__"->mb x=bootBuiltins x) (hlim:s₁.heap.NoLimit) (hg:s₁.gens=#[])
  (ha:s₁.heap.get? a=some { cls:=.type "list",data:=.seq vs.toArray }) (hi:IntsAre vs ns) (hl:ns.length<=sizeLine) (hr:bX k callerA)
  (F:∀base:Heap,K.In base->base.Ns mainGlobals mg->eF P w K mg base CX k fa fd [x] sp) (hbind:∀(s:Shared) (u:Value),BindsTo s fd ⟨[u],[]⟩ [(x,u)])
  (hsp:∀H:Hp,G4 H->iT K H a (ns.map V.int)->sp [.ref a] H (λv _=>v=.bl true) λ_ _ _=>False)
  (hCX:∀H e s',CX [] H s₁ (λ_ _ _=>False) e s'->False) :
  codeAny (model P w) callerA (.call (.ref fa) ⟨[.ref a],[]⟩) (λr s'=>r=.ok (.ret (.bool true))/\OldK s₁.heap s'.heap/\s'.os=s₁.os/\AllBare s'.gens) s₁:=by
 have rv:=fm hi
 have lenV:=hi.length
 have core:∀H:Hp,G4 H->iT K H a (ns.map V.int)->eV P w H s₁.heap->(∀b,H b≠none->b=a)->(H a≠none->K.lookup a=none) ->
   codeAny (model P w) callerA (.call (.ref fa) ⟨[.ref a],[]⟩) (λr s'=>r=.ok (.ret (.bool true))/\OldK s₁.heap s'.heap/\s'.os=s₁.os/\AllBare s'.gens) s₁:=by
  intro H hO hS hok hA hK
  have eR:∀{b:Addr}{o:Obj},s₁.heap.get? b=some o->H b=none->(pL s₁.heap H).get? b=some o:=λe n=>Aq e n
  have noA:∀{b:Addr}{o:Obj}{es:Array DictEntry}{ep:Nat},s₁.heap.get? b=some o->o.data=.dict es ep->H b=none:=λ{b o es ep} e d=>by
   cases q:H b with
   |none=>rfl
   |some u=>have e':b=a:=hA b (by rw[q];simp);subst e';rw[ha]at e;cases e;have d':Data.seq vs.toArray _=Data.dict es ep:=d;cases d'
  have nsK:∀{b:Addr}{m:Str->Option Value},s₁.heap.Ns b m->(pL s₁.heap H).Ns b m:=λ{b m} ⟨o,es,ep,e,d,r⟩=>⟨o,es,ep,eR e (noA e d),d,r⟩
  have hKb:K.In (pL s₁.heap H):=λb o e=>eR (KX b o e) (by
   cases q:H b with
   |none=>rfl
   |some u =>
    have e':b=a:=hA b (by rw[q];simp)
    subst e'
    rw[hK (by rw[q];simp)]at e;cases e)
  have hM:Mod K mg (pL s₁.heap H):=⟨hKb,nsK hns,⟨mb,nsK hb,hbb⟩,let ⟨mc,h1,h2⟩:=hlim;⟨mc,nsK h1,h2⟩⟩
  have e0:uj P w K mg (pL s₁.heap H) callerA [] s₁ H:=⟨rfl,hM,λb o e=>DK e,Nat.le_of_eq (wR _ _),trivial,λb hb=>absurd (show b∈([]:List Addr) from hb) zS,hok,.of_eq hg⟩
  refine zzO ((F _ hKb (nsK hns)).run callerA [] s₁ H ⟨[.ref a],[]⟩ [.ref a] [.ref a] _ _ hr e0 (hbind s₁ (.ref a)) (.cons rfl .nil) (hsp H hO hS)) λr s' h=>?_
  cases r with
  |error e=>exact(hCX H e s' h).elim
  |ok fl =>
   cases fl with
   |next=>exact False.elim h
   |brk=>exact False.elim h
   |cont=>exact False.elim h
   |ret u =>
    obtain⟨v,H',os,bare,un,hok',r',q⟩:=h
    have q':v=.bl true:=q
    subst q'
    obtain rfl:u=Value.bool true:=r'
    refine⟨rfl,OldK.of_keep λb o e=>?_,os,bare⟩
    cases q:H b with
    |none=>exact un.keep b o e q (by intro z;exact absurd (show b∈([]:List Addr) from z) zS) zS
    |some u =>
     rcases hO b with z|⟨ob,xs,z⟩
     ·rw[q]at z;cases z
     ·have z2:=un.frzs b ob _ z
      obtain⟨e1,_⟩:=hok b _ z
      obtain⟨e2,_⟩:=hok' b _ z2
      rw[e]at e1;cases e1
      exact e2
 cases hk:K.lookup a with
 |some o =>
  have e:=KX a o hk
  rw[ha]at e
  cases e
  refine core (λ_=>none) (λ_=>.inl rfl) (.inr ⟨_,vs.toArray,_,hk,rfl,rfl,rfl,by rw[Zp,lenV];exact hl,by simpa using rv⟩) (λb u z=>by have z':(none:Option HO)=some u:=z;cases z') (λb z=>absurd rfl z) λz=>absurd rfl z
 |none =>
  refine core (λb=>if b=a then some (.frz { cls:=.type "list",data:=.seq vs.toArray } (.lst (ns.map V.int))) else none) (λb=>?_) (.inl (.inr ⟨{ cls:=.type "list",data:=.seq vs.toArray },zF rfl⟩)) (λb u z=>?_) (λb z=>?_) λ_=>hk
  ·by_cases hb:b=a
   ·exact .inr ⟨_,_,zF hb⟩
   ·exact .inl (zP hb)
  ·by_cases hb:b=a
   ·have z':=(zF hb).symm.trans z
    cases z'
    subst hb
    exact⟨ha,by rw[zj];exact hl,vs,_,rv,ha⟩
   ·have z':=(zP hb).symm.trans z
    cases z'
  ·by_cases hb:b=a
   ·exact hb
   ·exact absurd (zP hb) z
abbrev SO{K:Fg0}{h:Heap}(_:K.In h):Fg0:=K
theorem walk_of{l:PySem.W.OpenLaw}{n k:Nat}{q:Program}{loose:List Str}{XP:(Str->Option Value)->Heap->Prop}{YP:World->Heap->Prop}{d:DefRec}{K:Params->Fg0}{CX:World->BX}{sp:World->Sp}{x:Str}
  (hn:l.most=some n) (hn2:n<=sizeLine) (hdf:d.params.defaults=[]) (hr:bX k callerA)
  (hY:∀(w:World) (h:Heap),YP w h->(K w.params).In h)
  (F:∀(w:World) (mg:Str->Option Value) (fa:Addr) (h:Heap),(K w.params).In h->h.Ns mainGlobals mg->mg d.name=some (.ref fa) ->
   ∃fd:FuncData,(∀(s:Shared) (u:Value),BindsTo s fd ⟨[u],[]⟩ [(x,u)]) /\
    ∀base:Heap,(K w.params).In base->base.Ns mainGlobals mg->eF l.prog w (K w.params) mg base (CX w) k fa fd [x] (sp w))
  (hsp:∀(w:World) (H:Hp) (a:Addr) (ns:List Int),ns.length<=n->G4 H->iT (K w.params) H a (ns.map V.int)->sp w [.ref a] H (λv _=>v=.bl true) λ_ _ _=>False)
  (hCX:∀(w:World) (H:Hp) (s:Shared) (e:Value) (s':Shared),CX w [] H s (λ_ _ _=>False) e s'->False) :
  PySem.W.WalkO q loose XP YP l.row.toRowW d [] (λf vs=>PySem.call f vs):=by
 refine Att.attach_call hn hdf λw s₀ s₁ mg mb fa o pm cd doc a vs ns G Y ho hd hcd hmg hobj hints hlen hg=>?_
 have KX:=hY w _ Y
 obtain⟨fd,hb,hF⟩:=F w mg fa _ KX G.T.g hmg
 exact Bv KX G.T.g G.T.b G.T.builtins G.T.nolimit hg hobj hints (zf hlen hn2) hr hF hb (λH hO hS=>hsp w H a ns hlen hO hS) λH e s'=>hCX w H s₁ e s'
def bI(s:Stmt):Arguments:=match s with
 |.FunctionDef _ a _ _ _ _ _ _ _ _=>a
 |_=>{ posonlyargs:=[],args:=[],vararg:=none,kwonlyargs:=[],kw_defaults:=[],kwarg:=none,defaults:=[] }
def aS(s:Stmt):List Stmt:=match s with
 |.FunctionDef _ _ b _ _ _ _ _ _ _=>b
 |_=>[]
def ay(s:Stmt):Scope:=match s with
 |.FunctionDef _ _ _ _ _ _ sc _ _ _=>sc
 |_=>{ kind:=.function,names:=[],isGenerator:=false,isCoroutine:=false }
structure HU (K:Fg0) (x qual:Str) (st:Stmt) (f:Addr) (fd:FuncData):Prop where
 ex:∃(oc:Value) (od:Option Addr) (kV doc pm:Value) (an:Option Addr) (cdv ct:Value) (osl:Array (Option Value)),
  fd=PySem.W.fnOf x qual (bI st) (aS st) (ay st) .none kV doc pm an cdv ct/\K.lookup f=some ⟨oc,od,.func fd,osl⟩/\PySem.W.codeIn K cdv qual=true
 kp:PySem.W.keepIn K (.ref f)=true
section
variable {P:Program}{w:World}{K:Fg0}{mg:Str->Option Value}{base:Heap}
theorem sF{x qual:Str}{st:Stmt}{f:Addr}{oc:Value}{od an:Option Addr}{osl:Array (Option Value)}{kV doc pm cdv ct:Value}(l:K.lookup f=some ⟨oc,od,.func (PySem.W.fnOf x qual (bI st) (aS st) (ay st) .none kV doc pm an cdv ct),osl⟩)
 (c:PySem.W.codeIn K cdv qual=true) (k:PySem.W.keepIn K (.ref f)=true):HU K x qual st f (PySem.W.fnOf x qual (bI st) (aS st) (ay st) .none kV doc pm an cdv ct):=⟨⟨oc,od,kV,doc,pm,an,cdv,ct,osl,rfl,l,c⟩,k⟩
end
section
variable {X:Cx}
end
theorem qd{A B:Prop}(h:B):if false=true then A else B:=by grind
theorem pU{A B:Prop}(h:A):if true=true then A else B:=by grind
section
variable {κ:Type} [DecidableEq κ]
def iJ(kvs:List (κ×V))(k:κ):Option V:=(kvs.find? λkv=>decide (kv.1=k)).map (·.2)
noncomputable def gO(kvs:List (κ×V))(k:κ)(v:V):List (κ×V) :=
 if(kvs.any λkv=>decide (kv.1=k))=true then kvs.map (λkv=>if kv.1=k then(kv.1,v) else kv) else kvs++[(k,v)]
theorem iU{p:κ×V}{r:List (κ×V)}{k:κ}(e:p.1=k):iJ (p::r) k=some p.2:=by simp[iJ,zzW,e]
theorem jw{p:κ×V}{r:List (κ×V)}{k:κ}(e:¬ p.1=k):iJ (p::r) k=iJ r k:=by simp[iJ,zzW,e]
theorem si(k:κ):∀kvs:List (κ×V),(kvs.any λkv=>decide (kv.1=k))=(iJ kvs k).isSome
 |[]=>rfl
 |p::r=>by rw[List.any_cons];by_cases e:p.1=k;simp only[iU e,z0 e,Bool.true_or,Option.isSome_some];rw[jw e,zX e];exact si k r
theorem gX(kvs:List (κ×V))(k:κ)(v:V):(gO kvs k v).length<=kvs.length+1:=by
 unfold gO
 grind
theorem gv.isSome_eq{o:Option V}{u:Option Value}(r:gv o u):o.isSome=u.isSome:=by
 cases o with
 |none=>cases u with
  |none=>rfl
  |some _=>exact(r).elim
 |some _=>cases u with
  |none=>exact(r).elim
  |some _=>rfl
theorem gv.getD{o:Option V}{u:Option Value}{d:V}{d':Value}(r:gv o u)(rd:RelV d d'):RelV (o.getD d) (u.getD d'):=by
 cases o with
 |none=>cases u with
  |none=>exact rd
  |some _=>exact(r).elim
 |some _=>cases u with
  |none=>exact(r).elim
  |some _=>exact r
theorem KV.val{kvs:List (κ×V)}{vs:List (κ×Value)}(r:KV kvs vs)(k:κ):gv (iJ kvs k) (valueAt vs k):=by
 unfold KV at r;induction r with
 |nil=>exact True.intro
 | @cons p q ps qs h t ih=>
  obtain⟨h1,h2⟩:=h;by_cases e:p.1=k;have e':q.1=k:=h1.symm.trans e;have b:valueAt (q::qs) k=some q.2:=by simp[valueAt,zzW,e']
  rw[iU e,b];exact h2;have e':¬ q.1=k:=λz=>e (h1.trans z);have b:valueAt (q::qs) k=valueAt qs k:=by simp[valueAt,zzW,e']
  rw[jw e,b];exact ih
theorem KV.any{kvs:List (κ×V)}{vs:List (κ×Value)}(r:KV kvs vs)(k:κ):(kvs.any λkv=>decide (kv.1=k))=vs.any λkv=>decide (kv.1=k):=by
 induction r with
 |nil=>rfl
 |cons h t ih=>simp_all
theorem KV.repl{kvs:List (κ×V)}{vs:List (κ×Value)}(r:KV kvs vs)(k:κ){y:V}{u:Value}(ry:RelV y u) :
  KV (kvs.map λkv=>if kv.1=k then(kv.1,y) else kv) (vs.map λkv=>if kv.1=k then(kv.1,u) else kv):=by
 induction r with
 |nil=>exact .nil
 | @cons p q ps qs h t ih =>
  refine .cons ?_ ih
  grind
theorem KV.put{kvs:List (κ×V)}{vs:List (κ×Value)}(r:KV kvs vs)(k:κ){y:V}{u:Value}(ry:RelV y u):KV (gO kvs k y) (stored vs k u):=by unfold gO stored;rw[r.any k];by_cases e:(vs.any λkv=>decide (kv.1=k))=true;rw[zF e,zF e];exact r.repl k ry;rw[zP e,zP e];exact Paired.snoc r ⟨rfl,ry⟩
theorem KV.length{kvs:List (κ×V)}{vs:List (κ×Value)}(r:KV kvs vs):kvs.length=vs.length:=Paired.length r
end
theorem lY{P:Program}{w:World}{k:cu}{u:Value}(r:RelV (kV k) u):(bo P w).is k u=true:=by
 cases k with
 |inl i=>obtain⟨t,e⟩:=(r);subst e;exact qG P w i t
 |inr x=>obtain⟨t,e⟩:=(r);subst e;exact rZ P w x t
theorem nO{P:Program}{w:World}:∀{ks:List cu}{us:List Value},Vals (ks.map kV) us->ItemsAre (bo P w) ks us
 |[],_,r=>by cases r;exact .nil
 |k::ks,_,r=>by
  cases r with
  |cons h t=>exact .cons (lY h) (nO t)
abbrev KT(H:Hp):List (List cu×V)->List (List cu×Addr×Value)->Prop:=Paired λp q=>p.1=q.1/\H q.2.1=some (.tup (p.1.map kV))/\RelV p.2 q.2.2
theorem KT.val{H:Hp}{kvs:List (List cu×V)}{xs:List (List cu×Addr×Value)}(r:KT H kvs xs)(k:List cu):gv (iJ kvs k) ((atKey xs k).map (·.2)):=by
 induction r with
 |nil=>exact True.intro
 | @cons p q ps qs h t ih=>
  obtain⟨h1,_,h2⟩:=h;by_cases e:p.1=k;have e' :=h1.symm.trans e;have b:atKey (q::qs) k=some q.2:=by simp[atKey,zzW,e']
  rw[iU e,b];exact h2;have e':¬ q.1=k:=λz=>e (h1.trans z);have b:atKey (q::qs) k=atKey qs k:=by simp[atKey,zzW,e']
  rw[jw e,b];lia
theorem KT.repl{H:Hp}{kvs:List (List cu×V)}{xs:List (List cu×Addr×Value)}(r:KT H kvs xs)(k:List cu){y:V}{u:Value}(ry:RelV y u) :
  KT H (kvs.map λkv=>if kv.1=k then(kv.1,y) else kv) (xs.map (putAt k u)):=by
 induction r with
 |nil=>exact .nil
 | @cons p q ps qs h t ih =>
  refine .cons ?_ ih
  unfold putAt
  grind
theorem KT.put{H:Hp}{kvs:List (List cu×V)}{xs:List (List cu×Addr×Value)}(r:KT H kvs xs)(k:List cu){b:Addr}{y:V}{u:Value}(hb:H b=some (.tup (k.map kV)))(ry:RelV y u) :
  KT H (gO kvs k y) (storedH xs k b u):=by
 have e:(kvs.any λkv=>decide (kv.1=k))=(atKey xs k).isSome:=by rw[si,(r.val k).isSome_eq,Option.isSome_map]
 unfold gO storedH
 rw[e]
 by_cases q:(atKey xs k).isSome=true
 ·rw[zF q,zF q];exact r.repl k ry
 ·rw[zP q,zP q];exact Paired.snoc r ⟨rfl,hb,ry⟩
theorem KT.keeps{H H':Hp}{kvs:List (List cu×V)}{xs:List (List cu×Addr×Value)}(r:KT H kvs xs)(ht:∀b ys,H b=some (.tup ys)->H' b=some (.tup ys)):KT H' kvs xs :=
 Paired.mapP r λ_ _ z=>⟨z.1,ht _ _ z.2.1,z.2.2⟩
section
variable {P:Program}{w:World}{H:Hp}{h:Heap}{a:Addr}
theorem Fy{u:HO}(ok:eV P w H h)(e:Rd H a u):cx P w H h a u:=e.ok ok
theorem jm{kvs:List (cu×V)}(ok:eV P w H h)(e:Rd H a (.dK kvs)):kvs.length<=sizeLine/\(a==sysModules)=false/\∃vs,KV kvs vs/\h.DictOf (bo P w) a vs :=
 Fy ok e
theorem FO{kvs:List (cu×V)}(ok:eV P w H h)(e:H a=some (.dK kvs)):kvs.length<=sizeLine/\(a==sysModules)=false/\∃vs,KV kvs vs/\h.DictOf (bo P w) a vs:=jm ok (.inl e)
theorem jO{ks:List cu}(ok:eV P w H h)(e:H a=some (.tup (ks.map kV))):(tupleKind (bo P w)).is h ks a:=by obtain⟨_,its,r,o,h1,h2,n,h3⟩:=(show cx P w H h a (.tup (ks.map kV)) from ok a _ e);exact⟨o,its.toArray,n,h1,h2,h3,by simpa using nO r⟩
theorem lN{kvs:List (List cu×V)}(ok:eV P w H h)(e:Rd H a (.dT kvs)):kvs.length<=sizeLine/\(a==sysModules)=false /\
  ∃xs,KT H kvs xs/\h.DictOfH (tupleKind (bo P w)) a xs:=by
 obtain⟨z,y,xs,r,o,es,ep,h1,h2,h3,h4,h5⟩:=(Fy ok e)
 refine⟨z,y,xs,r,o,es,ep,h1,h2,h3,h4,λx hx=>?_,h5⟩
 have all:∀{l:List (List cu×V)}{m:List (List cu×Addr×Value)},KT H l m->∀x∈m,(tupleKind (bo P w)).is h x.1 x.2.1:=by
  intro l m q;induction q with
  |nil=>intro x hx;exact nomatch hx
  | @cons p q ps qs hq t ih=>intro x hx;rcases zV.mp hx with e|hx;subst e;exact jO ok (by simp_all);exact ih x hx
 exact all r x hx
theorem MX{kvs:List (List cu×V)}(ok:eV P w H h)(e:H a=some (.dT kvs)):kvs.length<=sizeLine/\(a==sysModules)=false /\
 ∃xs,KT H kvs xs/\h.DictOfH (tupleKind (bo P w)) a xs:=lN ok (.inl e)
end
def oW(H:Hp)(a:Addr)(y:V)(r:Option V):Prop :=
 (∃kvs k,Rd H a (.dK kvs)/\y=kV k/\r=iJ kvs k)\/∃kvs k b,Rd H a (.dT kvs)/\y=.ref b/\H b=some (.tup (k.map kV))/\r=iJ kvs k
def xN(H:Hp)(a:Addr)(y v:V)(H':Hp):Prop :=
 (∃kvs k,H a=some (.dK kvs)/\y=kV k/\kvs.length<sizeLine/\H'=aY H a (.dK (gO kvs k v))) \/
 ∃kvs k b,H a=some (.dT kvs)/\y=.ref b/\H b=some (.tup (k.map kV))/\kvs.length<sizeLine/\H'=aY H a (.dT (gO kvs k v))
theorem xN.k{H:Hp}{a:Addr}{kvs:List (cu×V)}{k:cu}{v:V}(e:H a=some (.dK kvs))(hl:kvs.length<sizeLine):xN H a (kV k) v (aY H a (.dK (gO kvs k v))):=.inl ⟨kvs,k,e,rfl,hl,rfl⟩
section
variable {X:Cx}{pins:List (Addr×Obj)}{σ:St}{H:Hp}{s:Shared}{a:Addr}{y v:V}{u r:Value}{o:Option V}{A:Around}{E:Value->Shared->Prop}
theorem Inv.big(I:Inv X pins σ H s):sysModules<s.heap.objs.size:=by have h :=(I.mod.glob.keeps I.bk).lt;exact zzP zD h
theorem xy{Q:Value->Shared->Prop}(hu:A.units+1<cLine)(I:Inv X pins σ H s)(g:oW H a y (some v))(ry:RelV y u)(h:∀w' s',Inv X pins σ H s'->RelV v w'->Q w' s') :
  wpAny (model X.prog X.w) A (getItem (.ref a) u) Q E s:=by
 rcases g with⟨kvs,k,e,ey,l⟩|⟨kvs,k,b,e,ey,eb,l⟩
 ·subst ey
  obtain⟨z,hd,vs,rel,dd⟩:=jm I.hok e
  obtain⟨w',hw,rw'⟩:=gv.some_of (v:=v) (o:=valueAt vs k) (by rw[l];exact rel.val k)
  exact wpAny_getItem_of (lY ry) dd.mapOf hw (h w' _ (I.tok _) rw')
 ·subst ey
  cases (show u=Value.ref b from ry)
  obtain⟨z,hd,xs,rel,dd⟩:=lN I.hok e
  obtain⟨w',hw,rw'⟩:=gv.some_of (v:=v) (o:=(atKey xs k).map (·.2)) (by rw[l];exact rel.val k)
  obtain⟨p,hp,hp2⟩:=Zk.mp hw
  refine wpAny_getItem_heap (zzQ hu) (jO I.hok eb) dd hp ?_
  rw[hp2]
  exact h w' _ (I.tok _) rw'
theorem OO{Q:Value->Shared->Prop}(hu:A.units+1<cLine)(I:Inv X pins σ H s)(g:oW H a y o)(ry:RelV y u)(h:∀s',Inv X pins σ H s'->Q (.bool o.isSome) s') :
  wpAny (model X.prog X.w) A (compareOp .In u (.ref a)) Q E s:=by
 rcases g with⟨kvs,k,e,ey,l⟩|⟨kvs,k,b,e,ey,eb,l⟩
 ·subst ey
  obtain⟨z,hd,vs,rel,dd⟩:=jm I.hok e
  refine wpAny_in_of (lY ry) hd dd.mapOf ?_
  rw[<- (rel.val k).isSome_eq,<- l]
  exact h _ (I.tok _)
 ·subst ey
  cases (show u=Value.ref b from ry)
  obtain⟨z,hd,xs,rel,dd⟩:=lN I.hok e
  refine wpAny_in_heap (zzQ hu) (jO I.hok eb) hd dd ?_
  have q:=(rel.val k).isSome_eq
  rw[Option.isSome_map]at q
  rw[<- q,<- l]
  exact h _ (I.tok _)
theorem Cn{Q:Value->Shared->Prop}(hu:A.units+1<cLine)(I:Inv X pins σ H s)(g:oW H a y o)(ry:RelV y u)(h:∀s',Inv X pins σ H s'->Q (.bool (!o.isSome)) s') :
  wpAny (model X.prog X.w) A (compareOp .NotIn u (.ref a)) Q E s:=by
 rcases g with⟨kvs,k,e,ey,l⟩|⟨kvs,k,b,e,ey,eb,l⟩
 ·subst ey
  obtain⟨z,hd,vs,rel,dd⟩:=jm I.hok e
  refine wpAny_notIn_of (lY ry) hd dd.mapOf ?_
  rw[<- (rel.val k).isSome_eq,<- l]
  exact h _ (I.tok _)
 ·subst ey
  cases (ry)
  obtain⟨z,hd,xs,rel,dd⟩:=lN I.hok e
  refine wpAny_notIn_heap (zzQ hu) (jO I.hok eb) hd dd ?_
  have q:=(rel.val k).isSome_eq
  rw[Option.isSome_map]at q
  rw[<- q,<- l]
  exact h _ (I.tok _)
theorem pB{h':Heap}{t':Nat}{ob:HO}(I:Inv X pins σ H s)(mu:Ku (H a))(hs:Heap.SameBut a s.heap h')(he:∃q,h'.get? a=some q)(new:cx X.prog X.w (aY H a ob) h' a ob) :
  Inv X pins σ (aY H a ob) { s with heap:=h',toks:=t' } :=
 I.write (x:=a) (e:=a) mu (.inl rfl) (λb q hb z=>(hs.2 b hb).trans z) he new
theorem ur{P:Program}{w:World}{H':Hp}{h':Heap}{kvs:List (cu×V)}{vs:List (cu×Value)}(z:kvs.length<=sizeLine)(hd:(a==sysModules)=false)(rel:KV kvs vs)(dd:h'.DictOf (bo P w) a vs) :
 cx P w H' h' a (.dK kvs):=⟨z,hd,vs,rel,dd⟩
theorem xG{H':Hp}{Q:Unit->Shared->Prop}(hu:A.units+1<cLine)(I:Inv X pins σ H s)(g:xN H a y v H')(ry:RelV y u)(rv:RelV v r)(h:∀s',Inv X pins σ H' s'->Q () s') :
  wpAny (model X.prog X.w) A (setItem (.ref a) u r) Q E s:=by
 rcases g with⟨kvs,k,e,ey,l,eH⟩|⟨kvs,k,b,e,ey,eb,l,eH⟩
 ·subst ey eH
  obtain⟨z,hd,vs,rel,dd⟩:=FO I.hok e
  have hz:vs.length<=sizeLine:=by rw[<- rel.length];exact z
  have hl:(gO kvs k v).length<=sizeLine:=by have:=gX kvs k v;lia
  refine wpAny_setItem_pairs (hsz:=hz) (lY ry) dd λh' dd' hs=>h _ ?_
  have he:∃q,h'.get? a=some q:=let ⟨q,_,_,hq,_⟩:=dd';⟨q,hq⟩
  exact pB I (by rw[e];exact True.intro) hs he (ur hl hd (rel.put k rv) dd')
 ·subst ey eH
  cases (show u=Value.ref b from ry)
  obtain⟨z,hd,xs,rel,dd⟩:=MX I.hok e
  have hz:xs.length<=sizeLine:=by rw[<- Paired.length rel];exact z
  have hl:(gO kvs k v).length<=sizeLine:=by have:=gX kvs k v;lia
  refine wpAny_setItem_heap (hsz:=hz) (zzQ hu) (jO I.hok eb) dd λh' dd' hs=>h _ ?_
  obtain⟨q,es,ep,hq,h2,h3,h4,_,h5⟩:=dd'
  refine pB I (by rw[e];exact True.intro) hs ⟨q,hq⟩ ⟨hl,hd,_,(rel.put k eb rv).keeps λc ys ec=>?_,q,es,ep,hq,h2,h3,h4,h5⟩
  rw[aB (MF ec e (λz=>nomatch z))]
  exact ec
end
section
variable {X:Cx}{pins:List (Addr×Obj)}{σ:St}{H:Hp}{s:Shared}{a:Addr}{kvs:List (cu×V)}{k:cu}{u:Value}{A:Around}{E:Value->Shared->Prop}
theorem L7{Q:Value->Shared->Prop}(I:Inv X pins σ H s)(e:Rd H a (.dK kvs))(h:∀t s',Inv X pins σ H s'->Q (.int kvs.length t) s'):wpAny (model X.prog X.w) A (call (.builtin "len") [.ref a]) Q E s:=by obtain⟨z,hd,vs,rel,dd⟩:=jm I.hok e;refine call_len_dict hd dd (by rw[<- rel.length];rw[Zq]at z;lia) ?_;rw[<- rel.length];exact h _ _ (I.tok _)
end
theorem pZ{X:Cx}{pins:List (Addr×Obj)}{σ:St}{H:Hp}{s:Shared}{a:Addr}{y:V}{o:Option V}(I:Inv X pins σ H s)(g:oW H a y o):s.TypeIs (.ref a) "dict":=by rcases g with⟨kvs,k,e,_,_⟩|⟨kvs,k,b,e,_,_,_⟩;obtain⟨_,_,vs,_,dd⟩:=jm I.hok e;exact dd.typeIs;obtain⟨_,_,xs,_,dd⟩:=lN I.hok e;exact dd.typeIs
section
variable {X:Cx}{o i e value:Expr}{pos pos' tpos:Pos}{td ty tv:TE}
end
theorem sd{P:Program}{w:World}{H:Hp}(h:Heap)(hb:sysModules<h.objs.size):cx P w H (h.push { cls:=.type "dict",data:=.dict #[] }) h.objs.size (.dK []) :=
 ⟨ZD _,zze.mpr (zza (zW hb)),[],.nil,Heap.DictOf.new h⟩
def JB:TE:=λ_ H Q=>∀p,H p=none->Q (.ref p) (aY H p (.dK []))
section
variable {X:Cx}{pos:Pos}
theorem qc:PE X (.Dict [] [] pos) JB:=λpins s σ H Q I h =>
 wpAny_Dict_empty ⟨.ref s.heap.objs.size,_,I.laid    (λ_ _ q=>hps0 _ q) (zC _) (sd s.heap I.big),rfl,h _ (I.hok.fresh (zC _))⟩
end
def tQ:List (TE×TE)->St->Hp->(List (V×V)->Hp->Prop)->Prop
 |[],_,H,Q=>Q [] H
 |(tk,tv)::r,σ,H,Q=>tk σ H λx H1=>tv σ H1 λy H2=>tQ r σ H2 λps H3=>Q ((x,y)::ps) H3
abbrev VV:List (V×V)->List (Value×Value)->Prop:=Paired λp q=>RelV p.1 q.1/\RelV p.2 q.2
def NL(X:Cx)(pos:Pos)(keys:List (Option Expr))(values:List Expr)(trs:List (TE×TE)):Prop :=
 ∀(pins:List (Addr×Obj)) (s:Shared) (σ:St) (H:Hp) (Q:List (V×V)->Hp->Prop),Inv X pins σ H s->tQ trs σ H Q ->
  wpAny (model X.prog X.w) X.A (evalPairs (pairTrees keys values X.env pos)) (λvs s'=>∃ps H',Inv X pins σ H' s'/\VV ps vs/\Q ps H') X.xe s
theorem E3{X:Cx}{pos:Pos}:NL X pos [] [] []:=λpins s σ H Q I h=>pairTrees_nil_walk ⟨[],H,I,.nil,h⟩
theorem AX{X:Cx}{pos:Pos}{k v:Expr}{ks:List (Option Expr)}{vs:List Expr}{tk tv:TE}{trs:List (TE×TE)}(hk:PE X k tk)(hv:PE X v tv)(hr:NL X pos ks vs trs) :
  NL X pos (some k::ks) (v::vs) ((tk,tv)::trs):=λpins s σ H Q I h =>
 pairTrees_cons_walk (aW (hk pins s σ H _ I h) λu s1 ⟨x,H1,I1,rx,q1⟩=>aW (hv pins s1 σ H1 _ I1 q1) λw2 s2 ⟨y,H2,I2,ry,q2⟩ =>
  aW (hr pins s2 σ H2 _ I2 q2) λws s3 ⟨ps,H3,I3,rel,q3⟩=>⟨(x,y)::ps,H3,I3,.cons ⟨rx,ry⟩ rel,q3⟩)
def ma(kvs more:List (cu×V)):List (cu×V):=more.foldl (λacc kv=>gO acc kv.1 kv.2) kvs
theorem KV.merge:∀{more:List (cu×V)}{rs:List (cu×Value)}{kvs:List (cu×V)}{vs:List (cu×Value)},KV more rs->KV kvs vs->KV (ma kvs more) (merged vs rs):=by
 intro more rs kvs vs r;induction r generalizing kvs vs with
 |nil=>intro q;exact q
 | @cons p q ps qs h t ih=>
  intro r0;have e:KV (gO kvs p.1 p.2) (stored vs q.1 q.2):=by have:=r0.put p.1 h.2;simp_all
  exact ih e
theorem iA:∀(more kvs:List (cu×V)),(ma kvs more).length<=kvs.length+more.length
 |[],kvs=>by show kvs.length<=kvs.length+0;lia
 |p::r,kvs=>by
  have h1:=iA r (gO kvs p.1 p.2)
  have h2:=gX kvs p.1 p.2
  show(ma (gO kvs p.1 p.2) r).length<=_
  grind
theorem mE{P:Program}{w:World}:∀{kvs:List (cu×V)}{ws:List (Value×Value)},VV (kvs.map λkv=>(kV kv.1,kv.2)) ws->∃rs,Carries (bo P w) ws rs/\KV kvs rs
 |[],_,r=>by cases r;exact⟨[],True.intro,.nil⟩
 |p::kvs,_,r=>by
  cases r with
  | @cons a b as bs h t=>obtain⟨rs,c,q⟩:=mE   t;obtain⟨b1,b2⟩:=b;exact⟨(p.1,b2)::rs,⟨lY h.1,rfl,c⟩,.cons ⟨rfl,h.2⟩ q⟩
def MJ(trs:List (TE×TE)):TE:=λσ H Q=>∀p,H p=none->tQ trs σ (aY H p (.dK [])) λps H2=>H2 p=some (.dK [])/\∃kvs:List (cu×V),ps=kvs.map (λkv=>(kV kv.1,kv.2))/\kvs.length<=15/\Q (.ref p) (aY H2 p (.dK (ma [] kvs)))
theorem Cq{X:Cx}{pos:Pos}{keys:List (Option Expr)}{values:List Expr}{trs:List (TE×TE)}(h:NL X pos keys values trs)(hall:keys.all (·.isSome)=true)(hl:keys.length=values.length)(h0:keys≠[])
  (h15:keys.length<=15):PE X (.Dict keys values pos) (MJ trs):=by
 intro pins s σ H Q I q
 have hn:=I.hok.fresh (zC s.heap.objs.size)
 have I1:=I.laid  (o:=.dK [])  (t':=s.toks) (λ_ _ q=>hps0 _ q) (zC _) (sd s.heap I.big)
 refine wpAny_Dict_walk (knd:=bo X.prog X.w) hall hl h0 h15 (aW (h pins _ σ _ _ I1 (q _ hn)) λws s2 ⟨ps,H2,I2,rel,e,kvs,ep,lk,q2⟩=>?_)
 subst ep
 obtain⟨rs,c,rk⟩:=mE (P:=X.prog) (w:=X.w) rel
 obtain⟨z,hd,vs0,r0,dd⟩:=FO I2.hok e
 cases r0
 refine⟨rs,c,dd,λh' dd' hs=>⟨.ref s.heap.objs.size,_,?_,rfl,q2⟩⟩
 have hz:(ma [] kvs).length<=sizeLine:=by have h1:=iA kvs [];rw[List.length_nil]at h1;rw[Zq];lia
 have he:∃q,h'.get? s.heap.objs.size=some q:=let ⟨q,_,_,hq,_⟩:=dd';⟨q,hq⟩
 exact pB I2 (by rw[e];exact True.intro) hs he (ur hz hd (rk.merge .nil) dd')
structure M1 (X:Cx) (o:Expr) (m:Str) (apos:Pos) (e:Expr) (cpos:Pos):Prop where
 base:attributeBase o m X.env (eval o X.env)=eval o X.env
 few:((backTo cpos (starEach [e] X.env)).all (λx=>!x.1)&&(backToKw cpos (keywordEach [] X.env)).all (λx=>x.1.isSome)
  && decide (([e]:List Expr).length+([]:List Keyword).length+(if([]:List Keyword).isEmpty then 0 else 1)<30))=true
 line:(apos.endLine==cpos.line)=true
 trees:backTo cpos (starEach [e] X.env)=[(false,eval e X.env)]
structure M2 (X:Cx) (o:Expr) (m:Str) (apos:Pos) (e f:Expr) (cpos:Pos):Prop where
 base:attributeBase o m X.env (eval o X.env)=eval o X.env
 few:((backTo cpos (starEach [e,f] X.env)).all (λx=>!x.1)&&(backToKw cpos (keywordEach [] X.env)).all (λx=>x.1.isSome)
  && decide (([e,f]:List Expr).length+([]:List Keyword).length+(if([]:List Keyword).isEmpty then 0 else 1)<30))=true
 line:(apos.endLine==cpos.line)=true
 trees:backTo cpos (starEach [e,f] X.env)=[(false,eval e X.env),(false,eval f X.env)]
def Qy(H:Hp)(a:Addr):Prop:=(∃kvs,Rd H a (.dK kvs))\/∃kvs,Rd H a (.dT kvs)
theorem GK{X:Cx}{pins:List (Addr×Obj)}{σ:St}{H:Hp}{s:Shared}{a:Addr}(I:Inv X pins σ H s)(d:Qy H a) :
  s.TypeIs (.ref a) "dict"/\(∀b,Value.ref a=.ref b->∃ob,s.heap.get? b=some ob/\ob.dict=none)/\(a==sysModules)=false:=by
 rcases d with⟨kvs,e⟩|⟨kvs,e⟩
 ·obtain⟨_,hd,vs,_,dd⟩:=jm I.hok e
  refine⟨dd.typeIs,λb q=>?_,hd⟩
  cases q
  obtain⟨ob,_,_,h1,h2,_⟩:=dd
  exact⟨ob,h1,h2.2.1⟩
 ·obtain⟨_,hd,xs,_,dd⟩:=lN I.hok e
  refine⟨dd.typeIs,λb q=>?_,hd⟩
  cases q
  obtain⟨ob,_,_,h1,h2,_⟩:=dd
  exact⟨ob,h1,h2.2.1⟩
section
variable {X:Cx}{pins:List (Addr×Obj)}{σ:St}{H:Hp}{s:Shared}{a:Addr}{y d:V}{u r:Value}{o:Option V}{A:Around}{E:Value->Shared->Prop}
theorem JO{Q:Value->Shared->Prop}(hu:A.units+1<cLine)(I:Inv X pins σ H s)(g:oW H a y o)(ry:RelV y u)(h:∀w' s',Inv X pins σ H s'->RelV (o.getD .non) w'->Q w' s') :
  wpAny (model X.prog X.w) A (call (.builtin "dict.get") [.ref a,u]) Q E s:=by
 rcases g with⟨kvs,k,e,ey,l⟩|⟨kvs,k,b,e,ey,eb,l⟩
 ·subst ey
  obtain⟨z,hd,vs,rel,dd⟩:=jm I.hok e
  refine call_meetsIn PySem.F.slot_dict_get dd.typeIs PySem.F.entry_dict_get (PySem.F.args_dict_get_2 _ _) (meets_dict_get (bo X.prog X.w) a (lY ry) hd) ⟨_,dd.mapOf,h _ _ (I.tok _) ?_⟩
  rw[l]
  exact(rel.val k).getD rfl
 ·subst ey
  cases (show u=Value.ref b from ry)
  obtain⟨z,hd,xs,rel,dd⟩:=lN I.hok e
  refine call_meetsIn PySem.F.slot_dict_get dd.typeIs PySem.F.entry_dict_get (PySem.F.args_dict_get_2 _ _) (meetsH_dict_get (tupleKind (bo X.prog X.w)) a b hd) ⟨zzQ hu,k,xs,jO I.hok eb,dd,h _ _ (I.tok _) ?_⟩
  rw[l]
  exact(rel.val k).getD rfl
end
def JF(td ty:TE):TE:=λσ H Q=>td σ H λx H1=>∃a,x=.ref a/\Qy H1 a/\ty σ H1 λy H2=>∃o,oW H2 a y o/\Q (o.getD .non) H2
section
variable {X:Cx}{o e f:Expr}{apos cpos:Pos}{td ty tx:TE}
theorem A6(hu:X.A.units+1<cLine)(ho:PE X o td)(he:PE X e ty)(m:M1 X o "get" apos e cpos):PE X (.Call (.Attribute o "get" apos) [e] [] cpos) (JF td ty):=by intro pins s σ H Q I h;refine wpAny_Call_method m.base m.few m.line PySem.F.plainAttrs_dict PySem.F.slot_dict_get PySem.F.type_dict_get (aW (ho pins s σ H _ I h) λu s1 ⟨x,H1,I1,rx,a,ex,d,q1⟩=>?_);subst ex;obtain rfl:u=Value.ref a:=rx;obtain⟨t1,t2,_⟩:=GK I1 d;refine⟨t1,t2,?_⟩;rw[m.trees];exact Calls.callWith_builtin rfl (Calls.evalArgs_plain (zzN (aW (he pins s1 σ H1 _ I1 q1) λiv s2 ⟨y,H2,I2,ry,ov,g,q2⟩=>Calls.spliced_nil (JO hu I2 g ry λw' s3 I3 rw'=>⟨_,H2,I3,rw',q2⟩))))
end
section
variable {X:Cx}{pins:List (Addr×Obj)}{σ:St}{H:Hp}{s:Shared}{a:Addr}{kvs:List (cu×V)}{A:Around}{E:Value->Shared->Prop}
theorem qW{Q:Value->Shared->Prop}(I:Inv X pins σ H s)(e:Rd H a (.dK kvs))(h:∀p s',H p=none->Inv X pins σ (aY H p (.dK kvs)) s'->Q (.ref p) s'):wpAny (model X.prog X.w) A (call (.type "dict") [.ref a]) Q E s:=by obtain⟨z,hd,vs,rel,dd⟩:=jm I.hok e;exact kt_call_dict hd dd (by rw[<- rel.length];lia) λh' dd' hs=>(h _ _ (I.hok.fresh (zC _)) (I.laid    (λb q hq=>((hs.2 b (zW (zN hq))).trans (hps0 _ hq))) (zC _) (ur z (zze.mpr (zza (zW I.big))) rel dd')))
end
section
variable {X:Cx}{pins:List (Addr×Obj)}{σ:St}{H:Hp}{s:Shared}{a:Addr}{y:V}{u:Value}{A:Around}{E:Value->Shared->Prop}
end
section
variable {κ:Type} [DecidableEq κ]
end
end L2
set_option Elab.async false
set_option linter.all false
set_option maxRecDepth 100000
set_option maxHeartbeats 4000000
namespace J
open PySem PySem.Spec PyProof.Rows L2
def k7:List Str->List Str
 |[]=>[]
 |x::xs=>if x∈xs then k7 xs else x::k7 xs
section
variable {P:Program}{w:World}{A:Around}{E:Value->Shared->Prop}{s:Shared}
theorem Bg(ho:s.heap.get? l=some o)(hc:o.cls=.type T)(hT:T="list"\/T="tuple")(hd:o.data=.seq vs.toArray n)
  (hz:vs.length<=sizeLine) (h:Q vs { s with heap:=(s.heap.push (seqObj "list" #[] 0)).update s.heap.objs.size (Obj.mapSeq (·++vs.toArray)) }):wpAny (model P w) A (collect (.ref l)) Q E s:=by
 unfold collect
 refine zd (wpAny_runValue (zzv entry_proto_collect' ?_))
 refine zd (wpAny_newList (zB ⟨Code.quiet_builtin _ (by decide +kernel),zzv entry_list_iadd' ?_⟩))
 show wpAny _ _ (Builtin.List.listExtendWith (.ref s.heap.objs.size) (.ref l) (.ref s.heap.objs.size)) _ _ _
 unfold Builtin.List.listExtendWith
 have ho1:(s.heap.push (seqObj "list" #[] 0)).get? l=some o:=hps0 _ ho
 refine zd (wpAny_typeOf (T:=T) ⟨o,ho1,hc⟩ ?_)
 have ht:((Value.type T==Value.type "list")||(Value.type T==Value.type "tuple"))=true:=by rcases hT with rfl|rfl<;>rfl
 rw[zF (by rw[Bool.or_assoc,ht,Bool.or_true])]
 refine zd (listItems_at ho1 hd ?_)
 refine zd (listItems_at (xs:=#[]) (n:=0) (zA _ rfl) rfl ?_)
 rw[zP zS]
 refine zd (listUpdate_at (xs:=#[]) (n:=0) (zA _ rfl) rfl ?_ (ZD _) ?_)
 ·refine zB ?_
  show wpAny (model P w) A (do let o <- load s.heap.objs.size;(match o.data with|.seq xs _=>pure xs.toList|_=>unsupported "internal:collect")) Q E _
  refine zd (wpAny_load (get?_update_seq (zA _ rfl) _) ?_)
  show wpAny _ _ (pure (#[]++vs.toArray).toList) Q E _
  rw[show((#[]:Array Value)++vs.toArray).toList=vs by simp]
  exact zB h
 grind
theorem Bn(ho:s.heap.get? l=some o)(hc:o.cls=.type T)(hT:T="list"\/T="tuple")(hd:o.data=.seq vs.toArray n)
  (hS:StrsAre vs ss) (h64:vs.length<64) (h:∀(out:Array Value) (ss':List Str),StrsAre out.toList ss'->ss'.Perm ss->sortedS ss'=true->Q (.ref (s.heap.objs.size+1)) { s with heap:=sortedAll s.heap vs out }) :
  wpAny (model P w) A (call (.builtin "sorted") [.ref l]) Q E s:=by
 refine Calls.call_function_entry kind_sorted plain_sorted entry_sorted (args_sorted1 _) ?_
 refine zd  (zB (zd (Bg ho hc hT hd (by rw[Zq];lia) (zd (wpAny_newList ?_)))))
 have z:((s.heap.push (seqObj "list" #[] 0)).update s.heap.objs.size (Obj.mapSeq (·++vs.toArray))).objs.size=s.heap.objs.size+1:=(Heap.size_update _ _ _).trans (size_push' _ _)
 have hL:(((s.heap.push (seqObj "list" #[] 0)).update s.heap.objs.size (Obj.mapSeq (·++vs.toArray))).push (seqObj "list" vs.toArray 0)).get? (s.heap.objs.size+1)=some (seqObj "list" vs.toArray 0):=(congrArg _ z.symm).trans (zA _ rfl)
 rw[z]
 refine zd (ZH (ZF slot_list_sort ⟨_,hL,rfl⟩ entry_list_sort (list_sort_treeK strKind_oneLt hL hS.keysOf (λv1 v2 r e=>keyKind_strs (by rw[<- e];exact hS)) h64 λst a1 a2=>⟨_,rfl,zB ⟨_,rfl,?_⟩⟩) (args_list_sort _)))
 obtain⟨ss',b1,b2,b3⟩:=sorted_out_str hS a1 a2
 exact h _ ss' b1 b2 b3
end
theorem qY(v):∀l,(k7 (l++[v])).length=if v∈l then(k7 l).length else(k7 l).length+1
 |[]=>rfl
 |x::xs=>by
  have ih:=qY v xs
  rw[Z4,k7,k7]
  grind
theorem oJ:∀l,(k7 l).length<=l.length
 |[]=>zC _
 |x::xs=>by
  have:=oJ xs
  rw[k7]
  grind
section
variable {P:Program}{w:World}{A:Around}{E:Value->Shared->Prop}{s:Shared}
theorem yb:∀{vs:List Value}{ss:List Str},StrsAre vs ss->∀{i:Nat}{v:Value},vs[i]?=some v->∃x t,ss[i]?=some x/\v=.str x t
 |_,_,.nil,i,v,h=>by simp_all
 |_,_,.cons x t _,0,v,h=>by simp at h;exact⟨x,t,rfl,h.symm⟩
 |_,_,.cons _ _ r,i+1,v,h=>yb r  (by simp_all)
theorem yT{R:Result->Shared->Prop}{I:Addr}{fp wr:List Addr}{G:Array GenState->Array GenState->Prop}{n:Nat}{Pv:Nat->Value->Prop}{St:Nat->Shared->Prop}{ss:List Str}(W:WalksS P w A.in1 I fp wr G n Pv St)(S:Addr)(hSf:S∉fp)
  (hn:n=ss.length) (hv:∀i v,Pv i v->∃x t,ss[i]?=some x/\v=.str x t) (hb:n+1<scanBound) :
  ∀(k i:Nat) (s:Shared),n-i=k->i<=n->St i s->s.heap.SetOf (PySem.strKind P w) S (λy=>decide (y∈ss.take i)) (k7 (ss.take i)).length ->
   (∀s',Moved (S::wr) G s s'->s'.heap.SetOf (PySem.strKind P w) S (λy=>decide (y∈ss)) (k7 ss).length->R (.ok (.ret .none)) s') ->
   codeAny (model P w) A (.builtin "set.update.loop" ⟨[.ref S,.ref I],[]⟩) R s:=by
 have hSw:S∉wr:=λh=>hSf (W.sub _ h)
 have sub:∀b∈wr,b∈S::wr:=λb h=>zo _ h
 have keepS:∀{s s':Shared}{f:Str->Bool}{c:Nat},Moved wr G s s'->s.heap.SetOf (PySem.strKind P w) S f c->s'.heap.SetOf (PySem.strKind P w) S f c:=λhm hS=>by obtain⟨o,es,ep,t,ho,cT⟩:=hS;exact⟨o,es,ep,t,hm.heap S _ hSw ho,cT⟩
 intro k
 induction k with
 |zero =>
  intro i s hk hi st hS hR
  have e:i=n:=zL
  subst e
  refine zzv PyProof.Rows.F.entry_set_update_loop ?_
  rw[Around.under_plainId zzf _]
  show wpAny _ A.in1 (pyNext (.ref I) >>= _) _ _ _
  refine zd (W.done s _ _ st λs' hm=>zB (hR s' (hm.mono sub) ?_))
  rw[hn,zzm]at hS
  exact keepS hm hS
 |succ k ih =>
  intro i s hk hi st hS hR
  have hlt:i<n:=zL
  refine zzv PyProof.Rows.F.entry_set_update_loop ?_
  rw[Around.under_plainId zzf _]
  show wpAny _ A.in1 (pyNext (.ref I) >>= _) _ _ _
  refine zd (W.item i s _ _ hlt st λv s1 hP st1 hm=>?_)
  obtain⟨x,t,hx,rfl⟩:=hv i v hP
  have hS1:=keepS hm hS
  show wpAny _ A.in1 (holding [Value.str x t] (setAdd S (.str x t)) >>= _) _ _ s1
  refine zd (ZH ?_)
  unfold setAdd
  refine ZH (zd ((PySem.strKind P w).pyHash (k:=x) (strKind_is _ _ _ _) ?_))
  have room:(k7 (ss.take i)).length+1<scanBound:=by have:=oJ (ss.take i);rw[Zo]at this;lia
  refine wpAny_setAddHashed_of (knd:=PySem.strKind P w) (strKind_is _ _ _ _) rfl hS1 room λh2 hsb hS2=>?_
  have tk:ss.take (i+1)=ss.take i++[x]:=by rw[List.take_add_one,hx];rfl
  have hS3:h2.SetOf (PySem.strKind P w) S (λy=>decide (y∈ss.take (i+1))) (k7 (ss.take (i+1))).length:=by refine SetOf_congr hS2 (λy=>?_) ?_;rw[tk];simp[Bool.decide_or];rw[tk,qY];simp only[Zm]
  refine zB ⟨plainId_quiet zzf _,ih (i+1) _ zL hlt (W.frame _ s1 _ _ st1 (ZS _) λb hb o e=>?_) hS3 λs3 hm3 hS4=>hR s3 (Moved.trans W.gtrans ((hm.mono sub).then_heap (ZS _) λb o hb e=>?_) hm3) hS4⟩
  ·rw[hsb.2 b (λh:b=S=>hSf (h▸hb))];exact e
  ·rw[hsb.2 b (λh:b=S=>hb (h▸zQ))];exact e
theorem nQ:isSubtype (.type "tuple") (.type "set")=pure false/\isSubtype (.type "tuple") (.type "frozenset")=pure false:=⟨rfl,rfl⟩
abbrev mT(led:Bool):Obj:={ cls:=.type "set",dict:=none,data:=.set #[] 0 (.fresh 0 0 led) }
theorem rQ{l:Addr}{o IO:Obj}{T:String}{vs:List Value}{n:Nat}{ss:List Str}{St:Addr->Nat->Heap->Prop}{Q:Value->Shared->Prop}(hh:A.handled=none)(ho:s.heap.get? l=some o)(hc:o.cls=.type T)(hT:T="list"\/T="tuple")(hd:o.data=.seq vs.toArray n)
  (hS:StrsAre vs ss) (hb:vs.length+1<scanBound) (hIO:IO.isFreed=false) (iter:∀(A':Around) (s1:Shared) (R:Value->Shared->Prop) (F:Value->Shared->Prop),s1.heap.get? l=some o->R (.ref s1.heap.objs.size) { s1 with heap:=s1.heap.push IO }->wpAny (model P w) A' (pyIter (.ref l)) R F s1)
  (walk:∀(A':Around) (I:Addr),A'.handled=none->l≠I->Walks P w A' I [I,l] [I] vs.length (λi v=>vs[i]?=some v) (St I)) (Ee:∀(I:Addr) (h:Heap),h.get? I=some IO->h.get? l=some o->St I 0 h)
  (h:∀(h':Heap) (tk:Nat),h'.SetOf (PySem.strKind P w) s.heap.objs.size (λy=>decide (y∈ss)) (k7 ss).length->(∀b o,b<s.heap.objs.size->s.heap.get? b=some o->h'.get? b=some o)->Q (.ref s.heap.objs.size) { s with heap:=h',toks:=tk }) :
  wpAny (model P w) A (call (.type "set") [.ref l]) Q E s:=by
 obtain⟨c0,tl,hmro⟩:=Z0.mro
 have hmade:=Z0.made
 have hsub:=Z0.sub
 refine wpAny_call (codeAny_of_tree ?_)
 show wpAny _ _ (callAny (.type "set") _) _ _ _
 refine zB ⟨Code.quiet_builtin _ (by decide +kernel),zzv PySem.F.entry_type_call ?_⟩
 rw[Around.under_plain (weight_type_call_type "set" [.ref l] []) rfl]
 have h1:=Z0.notType
 have h2:=Z0.canCreate
 have hct:=PySem.F.typeCall_set_1 (.ref l)
 repeat (any_goals (first|assumption|wp_step))
 refine zzO (code_set_new_1 (.ref l) (E:=E) (Q₁:=λob s1=>∃led:Bool,ob=.ref s.heap.objs.size/\s1={ s with heap:=s.heap.push (mT led) }) λled=>⟨led,rfl,rfl⟩) λr s1 hr=>?_
 cases r with
 |error e=>exact hr
 |ok fl =>
  cases fl with
  |ret ob =>
   obtain⟨led,rfl,rfl⟩:=hr
   have hS0:(s.heap.push (mT led)).get? s.heap.objs.size=some (mT led):=zA _ rfl
   have hT0:Shared.TypeIs { s with heap:=s.heap.push (mT led) } (.ref s.heap.objs.size) "set":=⟨_,hS0,rfl⟩
   have hli:=Z0.init.lookup
   have hbi:=Z0.init.bind (.ref s.heap.objs.size)
   repeat (any_goals (first|assumption|wp_step))
   refine zzO (zzy (R:=wants (λr s2=>r=.none/\∃h' tk,s2={ s with heap:=h',toks:=tk }/\h'.SetOf (PySem.strKind P w) s.heap.objs.size (λy=>decide (y∈ss)) (k7 ss).length/\(∀b o,b<s.heap.objs.size->s.heap.get? b=some o->h'.get? b=some o)) E) Z0.init.plain PySem.F.entry_set_init (check_set_init_1 hT0 ?_)) λr2 s2 hr2=>?_
   ·obtain⟨oc,od,odt,osl⟩:=o
    simp only at hc hd
    subst hc hd
    have ho':(s.heap.push (mT led)).get? l=some ⟨.type T,od,.seq vs.toArray n,osl⟩:=hps0 _ ho
    have hs1:isSubtype (.type T) (.type "set")=pure false:=by rcases hT with rfl|rfl;exact PySem.F.sub_list_set;exact nQ.1
    have hs2:isSubtype (.type T) (.type "frozenset")=pure false:=by rcases hT with rfl|rfl;exact PySem.F.sub_list_frozenset;exact nQ.2
    have hne:(Value.type T==Value.type "dict")=false:=by rcases hT with rfl|rfl<;>decide
    unfold Builtin.«set.__init__» noKeywords Builtin.Frozenset.updateFrom
    generalize hPI:pyIter=PI
    wp_walk
    subst hPI
    have hlS:l<s.heap.objs.size:=zN ho
    have z1:(s.heap.push (mT led)).objs.size=s.heap.objs.size+1:=Z1 ..
    refine iter _ _ _ _ ho' (zd (wpAny_runValue ?_))
    refine yT (ss:=ss) ((walk _ _ (by simp[hh]) (by rw[z1];exact zW (Nat.lt_succ_of_lt hlS))).toS) s.heap.objs.size ?_ (by rw[hS.length]) (λi v e=>yb hS e) hb (vs.length-0) 0 _ rfl (ZD _) (Ee _ _ (zA _ hIO) (hps0 _ ho')) ?_ ?_
    ·rw[z1]
     simp only[zV,Zy,zz7,not_or]
     exact⟨zW (zzI _),ZX hlS⟩
    ·exact SetOf_congr ((setObjOf_fresh (knd:=PySem.strKind P w) led).setOf (hps0 _ hS0) (by unfold scanBound;lia)) (λ_=>rfl) rfl
    ·intro s' hm hS'
     obtain⟨h',g',d',tk',os'⟩:=s'
     have eg:g'=s.gens:=hm.gens
     have ed:d'=s.drawn:=hm.drawn
     have eo:os'=s.os:=hm.os
     subst eg ed eo
     refine zB (zB ⟨rfl,h',tk',rfl,hS',λb o hb e=>?_⟩)
     refine hm.heap b o ?_ (hps0 _ (hps0 _ e))
     rw[z1]
     simp only[zV,Zy,zz7,not_or]
     exact⟨zW hb,zW (Nat.lt_succ_of_lt hb)⟩
   ·cases r2 with
    |error e=>exact hr2
    |ok fl2 =>
     cases fl2 with
     |ret r =>
      obtain⟨rfl,h',tk,rfl,hS',hk'⟩:=hr2
      repeat (any_goals (first|assumption|wp_step))
      exact h _ _ hS' hk'
     |_=>exact hr2.elim
  |_=>exact hr.elim
end
inductive W where
 |non|bl (b:Bool)|int (i:Int)|str (s:Str)
 |tup (ws:List W)|lst (ws:List W)|scr (ws:List W)|dic (ks:List Str) (ws:List W)
 |ref (n:Nat)|ins (c:Nat) (ws:List W)
inductive Ob where
 |lst (ws:List W)|dic (ks:List Str) (ws:List W)
abbrev aa:=List Ob
inductive Res (α:Type) where
 |ok (a:α) (h:aa)|exc (c:Nat) (h:aa)|stuck
def bnd{α β:Type}(r:Res α)(f:α->aa->Res β):Res β:=match r with
 |.ok a h=>f a h
 |.exc c h=>.exc c h
 |.stuck=>.stuck
def eP:Nat->Str
 |0=>"Standing"
 |_=>"Register"
def aO:Nat->List Str
 |0=>["deed","part_list","follows","dead"]
 |_=>["names","standings"]
def nowh:Hp:=λ_=>none
def QT(K:Fg0)(ρ:List Addr)(H:Hp)(a:Addr)(xs:List V):Prop:=(a∉ρ/\Rd H a (.tup xs))\/kq K nowh a xs
def QL(K:Fg0)(ρ:List Addr)(H:Hp)(a:Addr)(xs:List V):Prop:=(a∉ρ/\Rd H a (.lst xs))\/iT K nowh a xs
theorem Rd.nowh(h:Rd nowh a u):False:=by rcases h with h|⟨_,h⟩<;>cases h
theorem QT.sq{K:Fg0}(q:QT K ρ H a xs):kq K H a xs:=by rcases q with⟨_,q⟩|q|q;exact .inl q;exact(Rd.nowh q).elim;exact .inr q
theorem QL.sq{K:Fg0}(q:QL K ρ H a xs):iT K H a xs:=by rcases q with⟨_,q⟩|q|q;exact .inl q;exact(Rd.nowh q).elim;exact .inr q
inductive RS (p:Addr->List V->Prop) (q:List V->Prop) (v:V):Prop
 |mk (a:Addr) (xs:List V) (e:v=.ref a) (h:p a xs) (rs:q xs)
inductive RT (ρ:List Addr) (H:Hp) (q:List V->Prop) (v:V):Prop
 |mk (a:Addr) (xs:List V) (e:v=.ref a) (n:a∉ρ) (h:H a=some (.lst xs)) (rs:q xs)
inductive RD (ρ:List Addr) (H:Hp) (ks:List Str) (q:List V->Prop) (v:V):Prop
 |mk (a:Addr) (xs:List V) (e:v=.ref a) (n:a∉ρ) (h:Rd H a (.dK ((ks.map Sum.inr).zip xs))) (l:ks.length=xs.length) (rs:q xs)
inductive RI (K:Fg0) (ρ:List Addr) (H:Hp) (c:Nat) (q:List V->Prop) (v:V):Prop
 |mk (a:Addr) (dx:Addr) (xs:List V) (C:Addr) (e:v=.ref a) (n:a∉ρ) (h:H a=some (.ins C dx ((aO c).zip xs))) (l:(aO c).length=xs.length) (m:PySem.W.nsIn K mainGlobals (eP c)=some (some (.ref C))) (rs:q xs)
inductive RC (p:V->Prop) (q:List V->Prop) (xs:List V):Prop
 |mk (y:V) (ys:List V) (e:xs=y::ys) (r:p y) (rs:q ys)
mutual
def Rel(K:Fg0)(ρ:List Addr)(H:Hp):W->V->Prop
 |.non,v=>v=.non
 |.bl b,v=>v=.bl b
 |.int i,v=>v=.int i
 |.str s,v=>v=.str s
 |.tup ws,v=>RS (QT K ρ H) (ao K ρ H ws) v
 |.lst ws,v=>RT ρ H (ao K ρ H ws) v
 |.scr ws,v=>RS (QL K ρ H) (ao K ρ H ws) v
 |.dic ks ws,v=>RD ρ H ks (ao K ρ H ws) v
 |.ref n,v=>∃a,v=.ref a/\ρ[n]?=some a
 |.ins c ws,v=>RI K ρ H c (ao K ρ H ws) v
def ao(K:Fg0)(ρ:List Addr)(H:Hp):List W->List V->Prop
 |[],xs=>xs=[]
 |w::ws,xs=>RC (Rel K ρ H w) (ao K ρ H ws) xs
end
mutual
noncomputable def ar:W->Bool
 |.tup ws=>aj ws
 |.lst ws=>aj ws
 |.scr ws=>aj ws
 |.dic _ ws=>aj ws
 |.ref _=>false
 |.ins _ ws=>aj ws
 |_=>true
noncomputable def aj:List W->Bool
 |[]=>true
 |w::ws=>ar w&&aj ws
end
mutual
theorem Rel.less{K:Fg0}(hs:∀a,a∈ρ->a∈ρ'):∀w v,ar w=true->Rel K ρ' H w v->Rel K ρ H w v
 |.non,v,_,h=>by rw[Rel]at h ⊢;exact h
 |.bl b,v,_,h=>by rw[Rel]at h ⊢;exact h
 |.int i,v,_,h=>by rw[Rel]at h ⊢;exact h
 |.str s,v,_,h=>by rw[Rel]at h ⊢;exact h
 |.tup ws,v,p,h=>by rw[Rel]at h ⊢;rw[ar]at p;obtain⟨a,xs,e,q,r⟩:=h;exact⟨a,xs,e,q.imp (λz=>⟨λy=>z.1 (hs a y),z.2⟩) id,ao.less hs ws xs p r⟩
 |.lst ws,v,p,h=>by rw[Rel]at h ⊢;rw[ar]at p;obtain⟨a,xs,e,n,q,r⟩:=h;exact⟨a,xs,e,λy=>n (hs a y),q,ao.less hs ws xs p r⟩
 |.scr ws,v,p,h=>by rw[Rel]at h ⊢;rw[ar]at p;obtain⟨a,xs,e,q,r⟩:=h;exact⟨a,xs,e,q.imp (λz=>⟨λy=>z.1 (hs a y),z.2⟩) id,ao.less hs ws xs p r⟩
 |.dic ks ws,v,p,h=>by rw[Rel]at h ⊢;rw[ar]at p;obtain⟨a,xs,e,n,q,l,r⟩:=h;exact⟨a,xs,e,λy=>n (hs a y),q,l,ao.less hs ws xs p r⟩
 |.ref n,v,p,h=>by rw[ar]at p;cases p
 |.ins c ws,v,p,h=>by rw[Rel]at h ⊢;rw[ar]at p;obtain⟨a,dx,xs,C,e,n,q,l,z,r⟩:=h;exact⟨a,dx,xs,C,e,λy=>n (hs a y),q,l,z,ao.less hs ws xs p r⟩
theorem ao.less{K:Fg0}(hs:∀a,a∈ρ->a∈ρ'):∀ws xs,aj ws=true->ao K ρ' H ws xs->ao K ρ H ws xs
 |[],xs,_,h=>by rw[ao]at h ⊢;exact h
 |w::ws,xs,p,h=>by rw[ao]at h ⊢;rw[aj,zI]at p;obtain⟨y,ys,e,r,rs⟩:=h;exact⟨y,ys,e,Rel.less hs w y p.1 r,ao.less hs ws ys p.2 rs⟩
end
def u7(K:Fg0)(ρ:List Addr)(H:Hp)(a:Addr):Ob->Prop
 |.lst ws=>aj ws=true/\∃xs,H a=some (.lst xs)/\ao K ρ H ws xs
 |.dic ks ws=>aj ws=true/\∃xs,H a=some (.dK ((ks.map Sum.inr).zip xs))/\ks.length=xs.length/\ao K ρ H ws xs
structure a8 (K:Fg0) (ρ:List Addr) (h:aa) (H:Hp):Prop where
 len:ρ.length=h.length
 nd:ρ.Nodup
 at_:∀(n:Nat) (a:Addr) (o:Ob),ρ[n]?=some a->h[n]?=some o->u7 K ρ H a o
structure Ext (ρ:List Addr) (H:Hp) (ρ':List Addr) (H':Hp):Prop where
 pre:ρ <+: ρ'
 keep:∀a o,H a=some o->a∉ρ->H' a=some o\/∃ob kvs,o=.dK kvs/\H' a=some (.frz ob o)
 out:∀a o,H a=some o->a∉ρ->a∉ρ'
theorem Ext.refl:Ext ρ H ρ H:=⟨List.prefix_refl _,λ_ _ e _=>.inl e,λ_ _ _ h=>h⟩
theorem Ext.trans(x:Ext ρ H ρ1 H1)(y:Ext ρ1 H1 ρ2 H2):Ext ρ H ρ2 H2 :=
 ⟨x.pre.trans y.pre,λa o e n=>(by
  rcases x.keep a o e n with h|⟨ob,kvs,ek,h⟩
  ·exact y.keep a o h (x.out a o e n)
  ·rcases y.keep a _ h (x.out a o e n) with h2|⟨_,_,ek2,_⟩
   ·simp_all
   simp_all),λa o e n=>(by
  rcases x.keep a o e n with h|⟨ob,kvs,ek,h⟩
  ·exact y.out a o h (x.out a o e n)
  ·exact y.out a _ h (x.out a o e n))⟩
theorem Ext.keepN(x:Ext ρ H ρ' H')(e:H a=some o)(n:a∉ρ)(d:∀kvs,o≠.dK kvs):H' a=some o:=by
 rcases x.keep a o e n with h|⟨_,kvs,ek,_⟩
 ·lia
 simp_all
theorem Ext.keepD(x:Ext ρ H ρ' H')(e:Rd H a (.dK kvs))(n:a∉ρ):Rd H' a (.dK kvs)/\a∉ρ':=by rcases e with e|⟨ob,e⟩;refine⟨?_,x.out a _ e n⟩;rcases x.keep a _ e n with h|⟨ob,_,_,h⟩;exact .inl h;exact .inr ⟨ob,h⟩;exact⟨.inr ⟨ob,x.keepN e n (λ_ z=>by simp_all)⟩,x.out a _ e n⟩
section
variable {K:Fg0}{ρ ρ':List Addr}{H H':Hp}
theorem QT.ext{a:Addr}{xs:List V}(x:Ext ρ H ρ' H')(q:QT K ρ H a xs):QT K ρ' H' a xs:=by rcases q with⟨n,q|⟨o,q⟩⟩|q;exact .inl ⟨x.out a _ q n,.inl (x.keepN q n (λ_ z=>by cases z))⟩;exact .inl ⟨x.out a _ q n,.inr ⟨o,x.keepN q n (λ_ z=>by cases z)⟩⟩;exact .inr q
theorem QL.ext{a:Addr}{xs:List V}(x:Ext ρ H ρ' H')(q:QL K ρ H a xs):QL K ρ' H' a xs:=by rcases q with⟨n,q|⟨o,q⟩⟩|q;exact .inl ⟨x.out a _ q n,.inl (x.keepN q n (λ_ z=>by cases z))⟩;exact .inl ⟨x.out a _ q n,.inr ⟨o,x.keepN q n (λ_ z=>by cases z)⟩⟩;exact .inr q
mutual
theorem Rel.ext(x:Ext ρ H ρ' H'):∀(w:W) (v:V),Rel K ρ H w v->Rel K ρ' H' w v
 |.non,v,h=>by rw[Rel]at h ⊢;exact h
 |.bl b,v,h=>by rw[Rel]at h ⊢;exact h
 |.int i,v,h=>by rw[Rel]at h ⊢;exact h
 |.str s,v,h=>by rw[Rel]at h ⊢;exact h
 |.tup ws,v,h=>by rw[Rel]at h ⊢;obtain⟨a,xs,e,q,r⟩:=h;exact⟨a,xs,e,q.ext x,ao.ext x ws xs r⟩
 |.lst ws,v,h=>by rw[Rel]at h ⊢;obtain⟨a,xs,e,n,q,r⟩:=h;exact⟨a,xs,e,x.out a _ q n,x.keepN q n (λ_ z=>by cases z),ao.ext x ws xs r⟩
 |.scr ws,v,h=>by rw[Rel]at h ⊢;obtain⟨a,xs,e,q,r⟩:=h;exact⟨a,xs,e,q.ext x,ao.ext x ws xs r⟩
 |.dic ks ws,v,h=>by rw[Rel]at h ⊢;obtain⟨a,xs,e,n,q,l,r⟩:=h;exact⟨a,xs,e,(x.keepD q n).2,(x.keepD q n).1,l,ao.ext x ws xs r⟩
 |.ref n,v,h=>by rw[Rel]at h ⊢;obtain⟨a,e,q⟩:=h;obtain⟨t,rfl⟩:=x.pre;exact⟨a,e,by rw[zJ (ze.mp q).1];exact q⟩
 |.ins c ws,v,h=>by rw[Rel]at h ⊢;obtain⟨a,dx,xs,C,e,n,q,l,z,r⟩:=h;exact⟨a,dx,xs,C,e,x.out a _ q n,x.keepN q n (λ_ z=>by cases z),l,z,ao.ext x ws xs r⟩
theorem ao.ext(x:Ext ρ H ρ' H'):∀(ws:List W) (xs:List V),ao K ρ H ws xs->ao K ρ' H' ws xs
 |[],xs,h=>by rw[ao]at h ⊢;exact h
 |w::ws,xs,h=>by rw[ao]at h ⊢;obtain⟨y,ys,e,r,rs⟩:=h;exact⟨y,ys,e,Rel.ext x w y r,ao.ext x ws ys rs⟩
end
end
section
variable {K:Fg0}{ρ:List Addr}{H:Hp}
theorem ao.length:∀{ws:List W}{xs:List V},ao K ρ H ws xs->ws.length=xs.length
 |[],xs,h=>by subst h;rfl
 |w::ws,xs,h=>by obtain⟨y,ys,rfl,_,rs⟩:=h;simp[ao.length rs]
theorem ao.get:∀{ws:List W}{xs:List V}{i:Nat}{w:W},ao K ρ H ws xs->ws[i]?=some w->∃x,xs[i]?=some x/\Rel K ρ H w x
 |[],_,_,_,_,e=>by simp_all
 |u::ws,xs,i,w,h,e=>by
  obtain⟨y,ys,rfl,r,rs⟩:=h;cases i with
  |zero=>simp_all
  |succ i=>obtain⟨x,h1,h2⟩:=ao.get  rs (by assumption);simp_all
theorem ao.nil:ao K ρ H [] []:=rfl
theorem ao.cons{w:W}{x:V}{ws:List W}{xs:List V}(r:Rel K ρ H w x)(rs:ao K ρ H ws xs):ao K ρ H (w::ws) (x::xs):=⟨x,xs,rfl,r,rs⟩
theorem ao.append:∀{ws us:List W}{xs ys:List V},ao K ρ H ws xs->ao K ρ H us ys->ao K ρ H (ws++us) (xs++ys)
 |[],_,xs,_,h,k=>by subst h;exact k
 |w::ws,us,xs,ys,h,k=>by obtain⟨y,zs,rfl,r,rs⟩:=h;exact ao.cons r (ao.append rs k)
theorem ao.set:∀{ws:List W}{xs:List V}{w:W}{x:V} (i:Nat),ao K ρ H ws xs->Rel K ρ H w x->ao K ρ H (ws.set i w) (xs.set i x)
 |[],xs,_,_,_,h,_=>by subst h;rfl
 |u::ws,xs,w,x,i,h,r=>by
  obtain⟨y,ys,rfl,r',rs⟩:=h;cases i with
  |zero=>exact ao.cons r rs
  |succ i=>exact ao.cons r' (ao.set i rs r)
theorem ao.take:∀{ws:List W}{xs:List V} (n:Nat),ao K ρ H ws xs->ao K ρ H (ws.take n) (xs.take n)
 |_,_,0,_=>rfl
 |[],xs,_+1,h=>by subst h;rfl
 |w::ws,xs,n+1,h=>by obtain⟨y,ys,rfl,r,rs⟩:=h;exact ao.cons r (ao.take n rs)
theorem ao.drop:∀{ws:List W}{xs:List V} (n:Nat),ao K ρ H ws xs->ao K ρ H (ws.drop n) (xs.drop n)
 |_,_,0,h=>h
 |[],xs,_+1,h=>by subst h;rfl
 |w::ws,xs,n+1,h=>by obtain⟨y,ys,rfl,r,rs⟩:=h;exact ao.drop n rs
theorem ao.flatrep(r:ao K ρ H ws xs):∀n:Nat,ao K ρ H (List.replicate n ws).flatten (List.replicate n xs).flatten
 |0=>.nil
 |n+1=>r.append (ao.flatrep r n)
end
abbrev ai:=List (Option W)
def gv(K:Fg0)(ρ:List Addr)(H:Hp)(o:Option W)(o':Option V):Prop:=∀w,o=some w->∃v,o'=some v/\Rel K ρ H w v
structure bE (K:Fg0) (ρ:List Addr) (H:Hp) (σ:ai) (τ:L2.St):Prop where
 len:σ.length=τ.length
 at_:∀(i:Nat) (w:W),σ[i]?=some (some w)->∃v,τ[i]?=some (some v)/\Rel K ρ H w v
section
variable {K:Fg0}{ρ ρ':List Addr}{H H':Hp}{σ:ai}{τ:L2.St}
theorem bE.ext(x:Ext ρ H ρ' H')(r:bE K ρ H σ τ):bE K ρ' H' σ τ:=⟨r.len,λi w e=>let ⟨v,h1,h2⟩:=r.at_ i w e;⟨v,h1,Rel.ext x w v h2⟩⟩
theorem bE.set(r:bE K ρ H σ τ)(i:Nat)(h:Rel K ρ H w v):bE K ρ H (σ.set i (some w)) (τ.set i (some v)):=by refine⟨by simp[r.len],λj u e=>?_⟩;rw[List.getElem?_set]at e ⊢;split at e;rename_i hij;rw[zF hij];split at e;rename_i hl;rw[zF (by rw[<- r.len];exact hl)];simp_all;simp_all;rename_i hij;rw[zP hij];exact r.at_ j u e
end
abbrev cC:=Nat->aa->List Addr->Hp->Prop
def RQ{α:Type}(K:Fg0)(EX:cC)(ρ:List Addr)(H:Hp)(r:Res α)(k:α->aa->List Addr->Hp->Prop):Prop:=match r with
 |.ok a h=>∀ρ' H',Ext ρ H ρ' H'->a8 K ρ' h H'->k a h ρ' H'
 |.exc c h=>∀ρ' H',Ext ρ H ρ' H'->a8 K ρ' h H'->EX c h ρ' H'
 |.stuck=>False
section
variable {α β:Type}{K:Fg0}{EX:cC}{ρ:List Addr}{H:Hp}{h:aa}
theorem RQ.bnd{r:Res α}{f:α->aa->Res β}{k:β->aa->List Addr->Hp->Prop}(q:RQ K EX ρ H (bnd r f) k) :
  RQ K EX ρ H r (λa h' ρ' H'=>RQ K EX ρ' H' (f a h') k):=by
 cases r with
 |ok a h' =>
  intro ρ' H' x hr
  cases e:f a h' with
  |ok b h2 =>
   have q' :=by have q1:RQ K EX ρ H (f a h') k:=q;rw[e]at q1;omega
   exact λρ2 H2 y hr2=>q' ρ2 H2 (x.trans y) hr2
  |exc c h2 =>
   have q' :=by have q1:RQ K EX ρ H (f a h') k:=q;rw[e]at q1;omega
   exact λρ2 H2 y hr2=>q' ρ2 H2 (x.trans y) hr2
  |stuck =>
   have q1:RQ K EX ρ H (f a h') k:=q
   rw[e]at q1;exact q1
 |exc c h'=>exact q
 |stuck=>exact q
theorem RQ.mono{r:Res α}{k k':α->aa->List Addr->Hp->Prop}(q:RQ K EX ρ H r k)(m:∀a h' ρ' H',Ext ρ H ρ' H'->a8 K ρ' h' H'->k a h' ρ' H'->k' a h' ρ' H'):RQ K EX ρ H r k':=by
 cases r with
 |ok a h'=>exact λρ' H' x hr=>m _ _ _ _ x hr (q ρ' H' x hr)
 |exc c h'=>exact q
 |stuck=>exact q
theorem RQ.wk{r:Res α}{k:α->aa->List Addr->Hp->Prop}{ρ1:List Addr}{H1:Hp}(x:Ext ρ H ρ1 H1)(q:RQ K EX ρ H r k):RQ K EX ρ1 H1 r k:=by
 cases r with
 |ok a h'=>exact λρ' H' y hr=>q ρ' H' (x.trans y) hr
 |exc c h'=>exact λρ' H' y hr=>q ρ' H' (x.trans y) hr
 |stuck=>exact q
theorem RQ.here{a:α}{k:α->aa->List Addr->Hp->Prop}(hr:a8 K ρ h H)(q:RQ K EX ρ H (.ok a h) k):k a h ρ H:=q ρ H .refl hr
end
inductive TR {α:Type} (K:Fg0) (EX:cC) (ev:ai->aa->Res α) (k:α->aa->List Addr->Hp->Prop) (τ:L2.St) (H:Hp):Prop
 |mk (ρ:List Addr) (σ:ai) (h:aa) (re:bE K ρ H σ τ) (hr:a8 K ρ h H) (q:RQ K EX ρ H (ev σ h) k)
def tI(K:Fg0)(EX:cC)(ev:ai->aa->Res W):TE:=λτ H Q=>TR K EX ev (λw _ ρ' H'=>∀v,Rel K ρ' H' w v->Q v H') τ H
def fP(K:Fg0)(EX:cC)(ev:ai->aa->Res Bool):TT:=λτ H Q=>TR K EX ev (λb _ _ H'=>Q b H') τ H
def mV(K:Fg0)(EX:cC)(ev:ai->aa->Res (List W)):TA:=λτ H Q=>TR K EX ev (λws _ ρ' H'=>∀vs,ao K ρ' H' ws vs->Q vs H') τ H
inductive Fl where
 |nx (σ:ai)|ret (w:W)|brk (σ:ai)|cnt (σ:ai)
def kF(K:Fg0)(D:Ends):Fl->aa->List Addr->Hp->Prop
 |.nx σ,_,ρ,H=>∀τ,bE K ρ H σ τ->D.nx τ H
 |.brk σ,_,ρ,H=>∀τ,bE K ρ H σ τ->D.bk τ H
 |.cnt σ,_,ρ,H=>∀τ,bE K ρ H σ τ->D.ct τ H
 |.ret w,_,ρ,H=>∀v,Rel K ρ H w v->D.rt v H
def dE(K:Fg0)(EX:cC)(ex:ai->aa->Res Fl):TS:=λD τ H=>TR K EX ex (kF K D) τ H
theorem _root_.L2.PE.sub(p:PE X e t)(h:∀τ H Q,t' τ H Q->t τ H Q):PE X e t':=λpins s σ H Q I q=>p pins s σ H Q I (h _ _ _ q)
theorem _root_.L2.PT.sub(p:PT X e t)(h:∀τ H Q,t' τ H Q->t τ H Q):PT X e t':=λpins s σ H Q I q=>p pins s σ H Q I (h _ _ _ q)
theorem _root_.L2.PW.sub(p:PW X e t)(h:∀τ H Q,t' τ H Q->t τ H Q):PW X e t':=λwhole pins s σ H Q I q=>p whole pins s σ H Q I (h _ _ _ q)
theorem _root_.L2.PA.sub(p:PA X e t)(h:∀τ H Q,t' τ H Q->t τ H Q):PA X e t':=λpos pins s σ H Q I q=>p pos pins s σ H Q I (h _ _ _ q)
theorem _root_.L2.PS.sub(p:PS X e t)(h:∀D τ H,t' D τ H->t D τ H):PS X e t':=λpins s σ H D I q=>p pins s σ H D I (h _ _ _ q)
theorem _root_.L2.PSs.sub(p:PSs X e t)(h:∀D τ H,t' D τ H->t D τ H):PSs X e t':=λpins s σ H D I q=>p pins s σ H D I (h _ _ _ q)
inductive Ty where|int|bool|str|tuple|list
 deriving DecidableEq
inductive Bl where|len|list|tuple|max|min|int|sorted|dict|all|any
 deriving DecidableEq
inductive Mt where|append|clear|pop|extend|get|get2|index
 deriving DecidableEq
set_option genInjectivity false
set_option genInjectivity false in
inductive E where
 |con (w:W)|var (i:Nat)
 |bin (op:Operator) (a b:E)|neg (a:E)
 |cmp (op:CmpOp) (a b:E)
 |and_ (a b:E)|or_ (a b:E)|not_ (a:E)|ite (c a b:E)
 |tup (es:List E)|lst (es:List E)
 |ix (a b:E)|sl (a:E) (lo hi:Option E)
 |call (f:Nat) (es:List E)|blt (b:Bl) (es:List E)|isi (a:E) (ts:List Ty)
 |meth (m:Mt) (a:E) (es:List E)
 |dic0|newAdd (a b:E)
 |fld (c k:Nat) (a:E)|mth (f:Nat) (a:E) (es:List E)|chn (o1 o2:CmpOp) (a b c:E)
 |slen (a:E)|lrng (a b:E)|zipE (a b:E)|enmE (k:Int) (a:E)|revE (a:E)|lrev (a:E)
 |compS (is:List Nat) (n:Nat) (a:E) (ifs:List E) (elt:E)
 |compR (is:List Nat) (n:Nat) (es:List E) (ifs:List E) (elt:E)
def g9(t:Bool):Int:=if t then 3 else 2
abbrev V0:E:=.var 0
abbrev V1:E:=.var 1
abbrev Y2:E:=.var 2
abbrev Y3:E:=.var 3
abbrev v4:E:=.var 4
abbrev V5:E:=.var 5
abbrev v6:E:=.var 6
abbrev V7:E:=.var 7
abbrev V8:E:=.var 8
abbrev V9:E:=.var 9
abbrev sA:E:=.var 10
abbrev xS:E:=.var 11
abbrev HF:E:=.var 12
abbrev sm:E:=.var 13
abbrev GO:E:=.var 14
abbrev KZ:E:=.var 15
abbrev xJ:E:=.var 16
abbrev N0:E:=.con (.int 0)
abbrev N1:E:=.con (.int 1)
abbrev N2:E:=.con (.int 2)
abbrev N3:E:=.con (.int 3)
abbrev N4:E:=.con (.int 4)
abbrev N5:E:=.con (.int 5)
abbrev N6:E:=.con (.int 6)
abbrev Lw:E:=.con (.int 10)
abbrev BZ:E:=.con (.int 12)
abbrev JV:E:=.con (.int 13)
abbrev qB:E:=.con (.int 20)
abbrev Kl:E:=.con (.int 26)
abbrev MV:E:=.con (.int 30)
abbrev Ho:E:=.con (.int 60)
set_option genInjectivity false in
inductive It where
 |seq (a:E)|rng (es:List E)|rng2 (t:Bool) (a b:E)
set_option genInjectivity false in
inductive Fp where
 |lit|con|var (i:Nat)|rep (i:Nat)
inductive Hd where
 |ret (w:W)|asg (i:Nat) (w:W)
set_option genInjectivity false in
inductive S where
 |raise (c:Nat) (ps:List Fp)|tryR (e:E) (hs:List (Nat×Hd))|tryA (i:Nat) (e:E) (hs:List (Nat×Hd))|tryF (e:E) (i:Nat) (cs all:List Nat)|tryX (e:E) (i:Nat) (cs all:List Nat)|tryB (b:List S) (i:Nat) (cs all:List Nat)
 |dupd (i:Nat) (e:E) (k v:Nat)|freshD (i:Nat)|freshD1 (i:Nat) (k v:E)|freshC (i:Nat) (e:E)
 |asg (i:Nat) (e:E)|fresh (i:Nat) (e:E)|par (i j:Nat) (a b:E)|unp (is:List Nat) (e:E)
 |setix (a b e:E)|exp (e:E)|ret (e:E)
 |if_ (c:E) (a b:List S)|while_ (c:E) (b:List S)|for_ (is:List Nat) (it:It) (b:List S)
 |pass_|brk|cnt|bad
set_option genInjectivity true
noncomputable def i7(h:aa):W->Option (List W)
 |.lst ws=>some ws
 |.scr ws=>some ws
 |.ref n=>match h[n]? with
  |some (.lst ws)=>some ws
  |_=>none
 |_=>none
noncomputable def bH(h:aa):W->Option (List Str×List W)
 |.dic ks ws=>some (ks,ws)
 |.ref n=>match h[n]? with
  |some (.dic ks ws)=>some (ks,ws)
  |_=>none
 |_=>none
def eU:List Str->List W->Str->Option W
 |k::ks,w::ws,x=>if k=x then some w else eU ks ws x
 |_,_,_=>none
def o7:List Str->List W->Str->W->List W
 |k::ks,w::ws,x,v=>(if k=x then v else w)::o7 ks ws x v
 |_,ws,_,_=>ws
noncomputable def dY(ks:List Str)(ws:List W)(x:Str)(v:W):List Str×List W:=if(ks.any λk=>decide (k=x))=true then(ks,o7 ks ws x v) else(ks++[x],ws++[v])
def bN(h:aa):W->Option (List W)
 |.lst ws=>some ws
 |.ref n=>match h[n]? with
  |some (.lst ws)=>some ws
  |_=>none
 |_=>none
def hZ:W->Option (List W)
 |.tup ws=>some ws
 |_=>none
def seqA(h:aa)(w:W):Option (List W):=(hZ w).or (i7 h w)
def jB(i:Int)(h:aa):Res W:=.ok (.int i) h
def fH(b:Bool)(h:aa):Res W:=.ok (.bl b) h
def pQ{α:Type}(a:α):α:=Classical.choose (⟨a,rfl⟩:∃x,x=a)
theorem fT{α:Type}{a:α}:pQ a=a:=Classical.choose_spec (⟨a,rfl⟩:∃x,x=a)
noncomputable def sZ(i j:Int):Bool:=decide ((-(2^64)<i/\i<2^64)\/(-(2^64)<j/\j<2^64))||decide (PySem.Builtin.Int.intBits i+PySem.Builtin.Int.intBits j<=134217728)
def fB(i j:Int):Bool:=pQ (sZ i j)
theorem gP:fB i j=sZ i j:=fT
noncomputable def ml(op:Operator)(i j:Int)(h:aa):Res W:=match op with
 |.Add=>jB (i+j) h
 |.Sub=>jB (i-j) h
 |.Mult=>if fB i j then jB (i*j) h else .stuck
 |.FloorDiv=>if j≠0/\j.natAbs.log2<9000 then jB (i.fdiv j) h else .stuck
 |.Mod=>if j≠0 then jB (i.fmod j) h else .stuck
 |.Pow=>if 0<=j/\j<=1000000/\i.natAbs<2^64 then jB (i^j.toNat) h else .stuck
 |_=>.stuck
noncomputable def fG(x y:Option (List W))(h:aa):Res (List W):=match x,y with
 |some ws,some us=>if ws.length+us.length<=sizeLine then .ok (ws++us) h else .stuck
 |_,_=>.stuck
noncomputable def wF(x:Option (List W))(j:Int)(h:aa):Res (List W):=match x with
 |some ws=>if -(2^63)<=j/\j<2^63/\ws.length*j.toNat<=sizeLine then .ok (List.replicate j.toNat ws).flatten h else .stuck
 |none=>.stuck
def GA(r:Res (List W)):Res W:=bnd r λws h=>.ok (.lst ws) h
def NN(r:Res (List W)):Res W:=bnd r λws h=>.ok (.tup ws) h
def i9(a b:Str):Bool:=decide (a.cps.toList<b.cps.toList)
noncomputable def dQ(op:Operator)(x y:W)(h:aa):Res W:=match x,y with
 |.int i,.int j=>ml op i j h
 |.str a,.str b=>match op with
  |.Add=>if a.length+b.length<=sizeLine then .ok (.str (a++b)) h else .stuck
  |_=>.stuck
 |.str a,.int n=>match op with
  |.Mult=>if a.length<=1000/\-1000<=n/\n<=1000 then .ok (.str (Txt.mul a n)) h else .stuck
  |_=>.stuck
 |.tup ws,.tup us=>match op with
  |.Add=>NN (fG (some ws) (some us) h)
  |_=>.stuck
 |x,.int j=>match op with
  |.Mult=>GA (wF (bN h x) j h)
  |_=>.stuck
 |x,y=>match op with
  |.Add=>GA (fG (bN h x) (bN h y) h)
  |_=>.stuck
mutual
noncomputable def fz:W->PyData
 |.non=>.none
 |.bl b=>.bool b
 |.int i=>.int i
 |.str x=>.str x
 |.tup ws=>.tuple (bO ws)
 |.lst ws=>.list (bO ws)
 |.scr ws=>.list (bO ws)
 |.dic _ _=>.none
 |.ref _=>.none
 |.ins _ _=>.none
noncomputable def bO:List W->List PyData
 |[]=>[]
 |w::ws=>fz w::bO ws
end
mutual
noncomputable def rT:W->Bool
 |.tup ws=>dH ws
 |.lst ws=>dH ws
 |.scr ws=>dH ws
 |.dic _ _=>false
 |.ref _=>false
 |.ins _ _=>false
 |_=>true
noncomputable def dH:List W->Bool
 |[]=>true
 |w::ws=>rT w&&dH ws
end
noncomputable def cH(h:aa)(w:W):Option W:=match w with
 |.ref n=>match h[n]? with
  |some (.lst ws)=>if dH ws then some (.lst ws) else none
  |_=>none
 |w=>if rT w then some w else none
noncomputable def sr(h:aa)(x y:W):Option Bool:=match x,y with
 |.int i,.int j=>some (decide (i=j))
 |.bl i,.bl j=>some (decide (i=j))
 |.str i,.str j=>some (decide (i=j))
 |x,y=>match cH h x,cH h y with
  |some a,some b=>if SeqAt.shaped (fz a)&&SeqAt.shaped (fz b) then some (PyData.eqv (fz a) (fz b)) else none
  |_,_=>none
def eE:W->Bool
 |.non=>true
 |.bl _=>true
 |.int _=>true
 |.str _=>true
 |_=>false
def uv:W->V
 |.bl b=>.bl b
 |.int i=>.int i
 |.str x=>.str x
 |_=>.non
noncomputable def xO(neg : Bool)(x y : W)(h : aa) : Res W := match bH h y with
 |some (ks, ws) => match x with
  |.str k=>fH (if neg then !(eU ks ws k).isSome else(eU ks ws k).isSome) h
  |_ => .stuck
 |none => match seqA h y with
  |some ws=>if eE x&&ws.all eE then fH (if neg then !Ke (uv x) (ws.map uv) else Ke (uv x) (ws.map uv)) h else .stuck
  |none=>.stuck
def bt:W->Bool
 |.non=>true
 |_=>false
noncomputable def bD(op:CmpOp)(x y:W)(h:aa):Res W:=match op with
 |.Eq=>match sr h x y with
  |some b=>fH b h
  |none=>.stuck
 |.NotEq=>match sr h x y with
  |some b=>fH (!b) h
  |none=>.stuck
 |.Lt=>match x,y with
  |.int i,.int j=>fH (decide (i<j)) h
  |.str i,.str j=>fH (i9 i j) h
  |_,_=>.stuck
 |.LtE=>match x,y with
  |.int i,.int j=>fH (decide (i<=j)) h
  |.str i,.str j=>fH (!i9 j i) h
  |_,_=>.stuck
 |.Gt=>match x,y with
  |.int i,.int j=>fH (decide (j<i)) h
  |.str i,.str j=>fH (i9 j i) h
  |_,_=>.stuck
 |.GtE=>match x,y with
  |.int i,.int j=>fH (decide (j<=i)) h
  |.str i,.str j=>fH (!i9 i j) h
  |_,_=>.stuck
 |.In=>xO false x y h
 |.NotIn=>xO true x y h
 |.Is=>match y with
  |.non=>fH (bt x) h
  |_=>.stuck
 |.IsNot=>match y with
  |.non=>fH (!bt x) h
  |_=>.stuck
noncomputable def NP(z:Str)(i:Int)(h:aa):Res W:=if z.length<=1000 then(match atI z.cps.toList i with
 |some c=>.ok (.str ⟨#[c]⟩) h
 |none=>.stuck) else .stuck
noncomputable def cU(x y:W)(h:aa):Res W:=match y with
 |.int i => match x with
  |.str z=>NP z i h
  |x => match seqA h x with
   |some ws=>match atI ws i with
    |some w=>.ok w h
    |none=>.stuck
   |none=>.stuck
 |.str k=>match bH h x with
   |some (ks,ws)=>match eU ks ws k with
    |some w=>.ok w h
    |none=>.stuck
   |none=>.stuck
 |_=>.stuck
noncomputable def bz(h:aa)(x:W)(t:Ty):Option Bool:=match x with
 |.int _=>some (decide (t=.int))
 |.bl _=>some (decide (t=.int)||decide (t=.bool))
 |.str _=>some (decide (t=.str))
 |.tup _=>some (decide (t=.tuple))
 |.lst _=>some (decide (t=.list))
 |.scr _=>some (decide (t=.list))
 |.ref n=>match h[n]? with
  |some (.lst _)=>some (decide (t=.list))
  |_=>none
 |_=>none
def cY:List W->Option (List Str)
 |[]=>some []
 |.str s::ws=>(cY ws).map (s::·)
 |_=>none
def J7:List W->Option (List Int)
 |[]=>some []
 |.int s::ws=>(J7 ws).map (s::·)
 |_=>none
def gb:List W->Option (List Bool)
 |[]=>some []
 |.bl s::ws=>(gb ws).map (s::·)
 |_=>none
def t7{α:Type}(lt:α->α->Bool)(x:α):List α->List α
 |[]=>[x]
 |y::ys=>if lt y x then y::t7 lt x ys else x::y::ys
def mU{α:Type}(lt:α->α->Bool):List α->List α
 |[]=>[]
 |x::xs=>t7 lt x (mU lt xs)
noncomputable def mW(x:W)(h:aa):Res W:=match seqA h x with
 |some us=>jB us.length h
 |none=>match bH h x with
  |some (ks,_)=>jB ks.length h
  |none=>match x with
   |.str z=>if z.length<=1000 then jB z.length h else .stuck
   |_=>.stuck
def vt(x:W)(h:aa):Res W:=match bH h x with
 |some (ks,ws)=>.ok (.dic ks ws) h
 |none=>.stuck
def pv(x:W)(h:aa):Res W:=match seqA h x with
 |some us=>.ok (.tup us) h
 |none=>.stuck
def vY(x:W)(h:aa):Res W:=match seqA h x with
 |some us=>.ok (.lst us) h
 |none=>.stuck
def IF(x:W)(h:aa):Res W:=match x with
 |.int i=>jB i h
 |.bl k=>jB (if k then 1 else 0) h
 |_=>.stuck
noncomputable def v7(x:W)(h:aa):Res W:=match(seqA h x).bind cY with
 |some ss=>if ss.length<64 then .ok (.lst ((mU i9 ss).map W.str)) h else .stuck
 |none=>.stuck
def D7(f:List Bool->Bool)(x:W)(h:aa):Res W:=match(bN h x).bind gb with
 |some bs=>fH (f bs) h
 |none=>.stuck
def qQ(f:W->aa->Res W)(ws:List W)(h:aa):Res W:=match ws with
 |[x]=>f x h
 |_=>.stuck
def uR:W->Option Int
 |.int i=>some i
 |_=>none
noncomputable def Nt(f:Int->Int->Int)(ws:List W)(h:aa):Res W:=match ws with
 |[x,y]=>match uR x with
  |some i=>match uR y with
   |some j=>jB (f i j) h
   |none=>.stuck
  |none=>.stuck
 |_=>.stuck
noncomputable def bK:Bl->List W->aa->Res W
 |.len=>qQ mW
 |.dict=>qQ vt
 |.tuple=>qQ pv
 |.list=>qQ vY
 |.int=>qQ IF
 |.sorted=>qQ v7
 |.all=>qQ (D7 λbs=>bs.all id)
 |.any=>qQ (D7 λbs=>bs.any id)
 |.max=>Nt λi j=>if j>i then j else i
 |.min=>Nt λi j=>if j<i then j else i
def qU(h:aa):W->Option Bool
 |.bl b=>some b
 |_=>none
def jb(r:Res W):Res Bool:=bnd r λw h=>match qU h w with
 |some b=>.ok b h
 |none=>.stuck
noncomputable def k8(ws:List W)(lo hi:Option Int):List W:=(ws.drop (HT.sIx ws.length 0 lo)).take (HT.sIx ws.length ws.length hi-HT.sIx ws.length 0 lo)
noncomputable def FA(x:W)(lo hi:Option Int)(h:aa):Res W:=match x with
 |.str z=>if z.length<=1000 then .ok (.str (Txt.slice z lo hi)) h else .stuck
 |.tup ws=>if HT.sIx ws.length 0 lo=0/\HT.sIx ws.length ws.length hi=ws.length then .stuck else .ok (.tup (k8 ws lo hi)) h
 |x=>match i7 h x with
  |some ws=>.ok (.lst (k8 ws lo hi)) h
  |none=>.stuck
noncomputable def DI(x w:W)(h:aa):Res W:=match x with
 |.ref n=>match h[n]? with
  |some (.lst us)=>if ar w=true/\us.length<sizeLine then .ok .non (h.set n (.lst (us++[w]))) else .stuck
  |_=>.stuck
 |_=>.stuck
noncomputable def O8(x:W)(h:aa):Res W:=match x with
 |.ref n=>match h[n]? with
  |some (.lst _)=>.ok .non (h.set n (.lst []))
  |_=>.stuck
 |_=>.stuck
noncomputable def G3(x:W)(h:aa):Res W:=match x with
 |.ref n=>match h[n]? with
  |some (.lst us)=>match us[us.length-1]? with
   |some w=>.ok w (h.set n (.lst us.dropLast))
   |none=>.stuck
  |_=>.stuck
 |_=>.stuck
noncomputable def EM(x y:W)(h:aa):Res W:=match x with
 |.ref n=>match h[n]? with
  |some (.lst us)=>match bN h y with
   |some ws=>if aj ws=true/\us.length+ws.length<=sizeLine then .ok .non (h.set n (.lst (us++ws))) else .stuck
   |none=>.stuck
  |_=>.stuck
 |_=>.stuck
noncomputable def Ey(x k d:W)(h:aa):Res W:=match bH h x with
 |some (ks,ws)=>match k with
  |.str s=>.ok ((eU ks ws s).getD d) h
  |_=>.stuck
 |none=>.stuck
noncomputable def OF(x k:W)(h:aa):Res W:=match(bN h x).bind cY,k with
 |some ss,.str s=>if s∈ss/\ss.length<=1000 then .ok (.int ((ss.idxOf s:Nat):Int)) h else .stuck
 |_,_=>.stuck
noncomputable def jr(m:Mt)(x:W)(ws:List W)(h:aa):Res W:=match m with
 |.append=>qQ (DI x) ws h
 |.extend=>qQ (EM x) ws h
 |.index=>qQ (OF x) ws h
 |.clear=>if ws.isEmpty then O8 x h else .stuck
 |.pop=>if ws.isEmpty then G3 x h else .stuck
 |.get=>qQ (λk=>Ey x k .non) ws h
 |.get2=>match ws with
  |[k,d]=>Ey x k d h
  |_=>.stuck
def eT(m:Mt)(h:aa)(x:W):Bool:=match m with
 |.get=>(bH h x).isSome
 |.get2=>(bH h x).isSome
 |_=>(bN h x).isSome
def uB:W->Bool
 |.ins 1 _=>true
 |_=>false
noncomputable section
def fX:List Nat->List W->ai->Option ai
 |[],[],σ=>some σ
 |i::is,w::ws,σ=>fX is ws (σ.set i (some w))
 |_,_,_=>none
noncomputable def aV(is:List Nat)(w:W)(σ:ai):Option ai:=match is with
 |[i]=>some (σ.set i (some w))
 |is=>match w with
  |.tup ws=>fX is ws σ
  |.lst ws=>fX is ws σ
  |_=>none
noncomputable def jR(ws:List W):Option (List W):=match ws with
 |[.int j]=>if -(2^62)<=j/\j<2^62 then some ((List.range j.toNat).map λ(k:Nat)=>W.int (0+(k:Int))) else none
 |[.int i,.int j]=>if -(2^62)<=i/\i<2^62/\-(2^62)<=j/\j<2^62 then some ((List.range (j-i).toNat).map λ(k:Nat)=>W.int (i+(k:Int))) else none
 |_=>none
def kG(ws:List W):Option (List W):=pQ (jR ws)
theorem cQ:kG ws=jR ws:=fT
def ji(z:Str):List W:=z.cps.toList.map λc=>W.str ⟨#[c]⟩
def Fg(h:aa):W->Option (List W)
 |.str z=>if z.length<=1000 then some (ji z) else none
 |x=>seqA h x
def kE{α:Type}:List Nat->List (Option α)->List (Option α)
 |[],σ=>σ
 |i::is,σ=>kE is (σ.set i none)
def lz:W->Option Nat
 |.ref k=>some k
 |_=>none
open Classical in
noncomputable def lc(n:Nat)(src:Option Nat)(f:W->aa->Res (Option W)):List W->aa->Res Unit
 |[],h=>.ok () h
 |w::ws,h=>bnd (f w h) λo h'=>if(∀k,src=some k->h'[k]?=h[k]?) then(match o with
  |none=>lc n src f ws h'
  |some u=>match h'[n]? with
   |some (.lst us)=>if ar u=true/\us.length<sizeLine then lc n src f ws (h'.set n (.lst (us++[u]))) else .stuck
   |_=>.stuck) else .stuck
noncomputable def jP(n0:Nat)(r:Res Unit):Res W:=match r with
 |.ok _ h=>match h[n0]? with
  |some (.lst us)=>.ok (.lst us) (h.take n0)
  |_=>.stuck
 |_=>.stuck
noncomputable def cK(bd:Option ai)(ts:ai->aa->Res Bool)(ev:ai->aa->Res W)(h:aa):Res (Option W):=match bd with
 |none=>.stuck
 |some σ=>bnd (ts σ h) λb h=>if b=true then bnd (ev σ h) λw h=>.ok (some w) h else .ok none h
abbrev CF:=Nat->List W->aa->Res W
mutual
noncomputable def af(cf:CF):E->ai->aa->Res W
 |.con w,_,h=>.ok w h
 |.dic0,_,h=>.ok (.dic [] []) h
 |.newAdd a b,σ,h=>bnd (af cf a σ h) λx h=>bnd (af cf b σ h) λy h=>bnd (fG (bN h x) (bN h y) h) λws h=>if aj ws then .ok (.ref h.length) (h++[.lst ws]) else .stuck
 |.var i,σ,h=>match σ[i]? with
  |some (some w)=>.ok w h
  |_=>.stuck
 |.bin op a b,σ,h=>bnd (af cf a σ h) λx h=>bnd (af cf b σ h) λy h=>dQ op x y h
 |.neg a,σ,h=>bnd (af cf a σ h) λx h=>match x with
  |.int i=>jB (-i) h
  |_=>.stuck
 |.cmp op a b,σ,h=>bnd (af cf a σ h) λx h=>bnd (af cf b σ h) λy h=>bD op x y h
 |.and_ a b,σ,h=>bnd (af cf a σ h) λx h=>match x with
  |.bl true=>af cf b σ h
  |.bl false=>fH false h
  |_=>.stuck
 |.or_ a b,σ,h=>bnd (af cf a σ h) λx h=>match x with
  |.bl true=>fH true h
  |.bl false=>af cf b σ h
  |_=>.stuck
 |.not_ a,σ,h=>bnd (jb (af cf a σ h)) λb h=>fH (!b) h
 |.ite c a b,σ,h=>bnd (jb (af cf c σ h)) λk h=>if k then af cf a σ h else af cf b σ h
 |.tup es,σ,h=>bnd (bL cf es σ h) λws h=>if ws.length<=sizeLine then .ok (.tup ws) h else .stuck
 |.lst es,σ,h=>bnd (bL cf es σ h) λws h=>if ws.length<=sizeLine then .ok (.lst ws) h else .stuck
 |.ix a b,σ,h=>bnd (af cf a σ h) λx h=>bnd (af cf b σ h) λy h=>cU x y h
 |.sl a lo hi,σ,h=>bnd (af cf a σ h) λx h=>bnd (um cf lo σ h) λl h=>bnd (um cf hi σ h) λu h=>FA x l u h
 |.call f es,σ,h=>bnd (bL cf es σ h) λws h=>cf f ws h
 |.blt b es,σ,h=>bnd (bL cf es σ h) λws h=>bK b ws h
 |.isi a ts,σ,h=>bnd (af cf a σ h) λx h=>match ts.mapM (bz h x) with
  |some bs=>fH (bs.any id) h
  |none=>.stuck
 |.fld c k a,σ,h=>bnd (af cf a σ h) λx h=>match x with
  |.ins c' ws=>if c'=c then(match ws[k]? with
   |some w=>.ok w h
   |none=>.stuck) else .stuck
  |_=>.stuck
 |.mth f a es,σ,h=>bnd (af cf a σ h) λx h=>if uB x then bnd (bL cf es σ h) λws h=>cf f (x::ws) h else .stuck
 |.chn o1 o2 a b c,σ,h=>bnd (af cf a σ h) λx h=>bnd (af cf b σ h) λy h=>bnd (bD o1 x y h) λk h=>match k with
  |.bl true=>bnd (af cf c σ h) λz h=>bD o2 y z h
  |.bl false=>fH false h
  |_=>.stuck
 |.slen a,σ,h=>bnd (af cf a σ h) λx h=>match(seqA h x).bind cY with
  |some ss=>if ss.length<64 then jB (k7 ss).length h else .stuck
  |none=>.stuck
 |.lrng a b,σ,h=>bnd (af cf a σ h) λx h=>bnd (af cf b σ h) λy h=>match kG [x,y] with
  |some ks=>if ks.length<=1000 then .ok (.lst ks) h else .stuck
  |none=>.stuck
 |.lrev a,σ,h=>bnd (af cf a σ h) λx h=>match x with
  |.tup us=>if us.length<=1000 then .ok (.lst us.reverse) h else .stuck
  |_=>.stuck
 |.revE a,σ,h=>bnd (af cf a σ h) λx h=>match seqA h x with
  |some us=>.ok (.lst us.reverse) h
  |none=>.stuck
 |.zipE a b,σ,h=>bnd (af cf a σ h) λx h=>bnd (af cf b σ h) λy h=>match seqA [] x,seqA [] y with
  |some us,some vs=>.ok (.lst (List.zipWith (λu v=>W.tup [u,v]) us vs)) h
  |_,_=>.stuck
 |.enmE k a,σ,h=>bnd (af cf a σ h) λx h=>match seqA [] x with
  |some us=>.ok (.lst (us.mapIdx λi u=>W.tup [.int (k+(i:Int)),u])) h
  |none=>.stuck
 |.meth m a es,σ,h=>bnd (af cf a σ h) λx h=>if eT m h x then bnd (bL cf es σ h) λws h=>jr m x ws h else .stuck
 |.compS is n a ifs elt,σ,h=>bnd (af cf a σ h) λx h=>match Fg h x with
  |some ws=>jP h.length (lc h.length (lz x) (λw h=>cK (aV is w (kE is σ++List.replicate n none)) (cg cf ifs) (af cf elt) h) ws (h++[.lst []]))
  |none=>.stuck
 |.compR is n es ifs elt,σ,h=>bnd (bL cf es σ h) λws h=>match kG ws with
  |some ks=>jP h.length (lc h.length none (λw h=>cK (aV is w (kE is σ++List.replicate n none)) (cg cf ifs) (af cf elt) h) ks (h++[.lst []]))
  |none=>.stuck
noncomputable def cg(cf:CF):List E->ai->aa->Res Bool
 |[],_,h=>.ok true h
 |e::es,σ,h=>bnd (jb (af cf e σ h)) λb h=>if b=true then cg cf es σ h else .ok false h
noncomputable def bL(cf:CF):List E->ai->aa->Res (List W)
 |[],_,h=>.ok [] h
 |e::es,σ,h=>bnd (af cf e σ h) λw h=>bnd (bL cf es σ h) λws h=>.ok (w::ws) h
noncomputable def um(cf:CF):Option E->ai->aa->Res (Option Int)
 |none,_,h=>.ok none h
 |some e,σ,h=>bnd (af cf e σ h) λw h=>match w with
  |.int i=>.ok (some i) h
  |_=>.stuck
end
noncomputable def nV(cf:CF):E->ai->aa->Res (List W)
 |.lst es,σ,h=>bnd (bL cf es σ h) λws h=>if ws.length<=sizeLine then .ok ws h else .stuck
 |.bin .Mult a b,σ,h=>bnd (af cf a σ h) λx h=>bnd (af cf b σ h) λy h=>match y with
  |.int j=>wF (bN h x) j h
  |_=>.stuck
 |.bin .Add a b,σ,h=>bnd (af cf a σ h) λx h=>bnd (af cf b σ h) λy h=>fG (bN h x) (bN h y) h
 |.blt .list [a],σ,h=>bnd (af cf a σ h) λx h=>match seqA h x with
  |some us=>.ok us h
  |none=>.stuck
 |.revE a,σ,h=>bnd (af cf a σ h) λx h=>match i7 h x with
  |some us=>.ok us.reverse h
  |none=>.stuck
 |_,_,_=>.stuck
noncomputable def uC(σ:ai):Fp->Bool
 |.lit=>true
 |.con=>true
 |.var i=>match σ[i]? with
  |some (some (.int n))=>decide (n.natAbs<10^100)
  |some (some (.str s))=>decide (s.length<=1000)
  |_=>false
 |.rep i=>match σ[i]? with
  |some (some (.str s))=>decide (s.length<=1000)&&s.cps.toList.all λc=>decide (c<1000)
  |_=>false
noncomputable def uJ(hs:List (Nat×Hd))(sub:Nat->Nat->Bool)(c:Nat)(σ:ai):Option Fl:=match hs with
 |[]=>none
 |(d,hd)::hs=>if sub c d then some (match hd with
  |.ret w=>.ret w
  |.asg i w=>.nx ((σ.map λ_=>none).set i (some w))) else uJ hs sub c σ
noncomputable def wh(test:ai->aa->Res Bool)(body:ai->aa->Res Fl):Nat->ai->aa->Res Fl
 |0,_,_=>.stuck
 |n+1,σ,h=>bnd (test σ h) λc h=>if c then bnd (body σ h) λfl h=>match fl with
   |.nx σ=>wh test body n σ h
   |.cnt σ=>wh test body n σ h
   |.brk σ=>.ok (.nx σ) h
   |.ret w=>.ok (.ret w) h
  else .ok (.nx σ) h
noncomputable def fo(is:List Nat)(body:ai->aa->Res Fl):List W->ai->aa->Res Fl
 |[],σ,h=>.ok (.nx σ) h
 |w::ws,σ,h=>match aV is w σ with
  |none=>.stuck
  |some σ=>bnd (body σ h) λfl h=>match fl with
   |.nx σ=>fo is body ws σ h
   |.cnt σ=>fo is body ws σ h
   |.brk σ=>.ok (.nx σ) h
   |.ret w=>.ok (.ret w) h
noncomputable def Ck(n:Nat)(is:List Nat)(body:ai->aa->Res Fl):Nat->Nat->ai->aa->Res Fl
 |0,_,_,_=>.stuck
 |k+1,i,σ,h=>match h[n]? with
  |some (.lst ws)=>match ws[i]? with
   |none=>.ok (.nx σ) h
   |some w=>match aV is w σ with
    |none=>.stuck
    |some σ=>bnd (body σ h) λfl h=>match fl with
     |.nx σ=>Ck n is body k (i+1) σ h
     |.cnt σ=>Ck n is body k (i+1) σ h
     |.brk σ=>.ok (.nx σ) h
     |.ret w=>.ok (.ret w) h
  |_=>.stuck
mutual
noncomputable def aL(cf:CF)(fw:Nat):S->ai->aa->Res Fl
 |.raise c ps,σ,h=>if ps.all (uC σ) then .exc c h else .stuck
 |.tryR e hs,σ,h=>match af cf e σ h with
  |.ok w h=>.ok (.ret w) h
  |.exc c h=>match uJ hs (λc d=>decide (c=d)) c σ with
   |some fl=>.ok fl h
   |none=>.stuck
  |.stuck=>.stuck
 |.tryA i e hs,σ,h=>match af cf e σ h with
  |.ok w h=>.ok (.nx (σ.set i (some w))) h
  |.exc c h=>match uJ hs (λc d=>decide (c=d)) c σ with
   |some fl=>.ok fl h
   |none=>.stuck
  |.stuck=>.stuck
 |.tryF e i cs all,σ,h=>match af cf e σ h with
  |.ok w h=>.ok (.ret w) h
  |.exc c h=>if all.contains c then .ok (.nx ((σ.map λ_=>none).set i (some (.lst (cs.map λk=>.bl (decide (c=k))))))) h else .stuck
  |.stuck=>.stuck
 |.tryX e i cs all,σ,h=>match af cf e σ h with
  |.exc c h=>if all.contains c then .ok (.nx ((σ.map λ_=>none).set i (some (.lst (cs.map λk=>.bl (decide (c=k)||k==999)))))) h else .stuck
  |_=>.stuck
 |.tryB b i cs all,σ,h=>match a9 cf fw b σ h with
  |.exc c h=>if all.contains c then .ok (.nx ((σ.map λ_=>none).set i (some (.lst (cs.map λk=>.bl (decide (c=k))))))) h else .stuck
  |r=>r
 |.dupd i e k v,σ,h=>bnd (af cf e σ h) λx h=>match bH h x,σ[k]?,σ[v]? with
  |some (ks,ws),some (some (.str s)),some (some y)=>if i≠k/\i≠v/\ks.length<1000 then .ok (.nx (σ.set i (some (.dic (dY ks ws s y).1 (dY ks ws s y).2)))) h else .stuck
  |_,_,_=>.stuck
 |.freshD i,σ,h=>.ok (.nx (σ.set i (some (.ref h.length)))) (h++[.dic [] []])
 |.freshC i e,σ,h=>bnd (af cf e σ h) λx h=>match bH h x with
  |some (ks,ws)=>if aj ws then .ok (.nx (σ.set i (some (.ref h.length)))) (h++[.dic ks ws]) else .stuck
  |none=>.stuck
 |.freshD1 i k v,σ,h=>bnd (af cf k σ (h++[.dic [] []])) λx h1=>bnd (af cf v σ h1) λy h2=>match x,h2[h.length]? with
  |.str s,some (.dic [] [])=>if ar y then .ok (.nx (σ.set i (some (.ref h.length)))) (h2.set h.length (.dic [s] [y])) else .stuck
  |_,_=>.stuck
 |.asg i e,σ,h=>bnd (af cf e σ h) λw h=>.ok (.nx (σ.set i (some w))) h
 |.fresh i e,σ,h=>bnd (nV cf e σ h) λws h=>if aj ws then .ok (.nx (σ.set i (some (.ref h.length)))) (h++[.lst ws]) else .stuck
 |.par i j a b,σ,h=>bnd (af cf a σ h) λx h=>bnd (af cf b σ h) λy h=>.ok (.nx ((σ.set i (some x)).set j (some y))) h
 |.unp is e,σ,h=>bnd (af cf e σ h) λw h=>match w with
  |.tup ws=>match fX is ws σ with
   |some σ=>.ok (.nx σ) h
   |none=>.stuck
  |.lst ws=>match fX is ws σ with
   |some σ=>.ok (.nx σ) h
   |none=>.stuck
  |_=>.stuck
 |.setix a b e,σ,h=>bnd (af cf e σ h) λw h=>bnd (af cf a σ h) λx h=>bnd (af cf b σ h) λy h=>match x,y with
  |.ref n,.int k=>match h[n]? with
   |some (.lst us)=>if ar w then(match ixN us.length k with
    |some j=>.ok (.nx σ) (h.set n (.lst (us.set j w)))
    |none=>.stuck) else .stuck
   |_=>.stuck
  |.ref n,.str k=>match h[n]? with
   |some (.dic ks ws)=>if ar w=true/\ks.length<sizeLine then .ok (.nx σ) (h.set n (.dic (dY ks ws k w).1 (dY ks ws k w).2)) else .stuck
   |_=>.stuck
  |_,_=>.stuck
 |.exp e,σ,h=>bnd (af cf e σ h) λ_ h=>.ok (.nx σ) h
 |.ret e,σ,h=>bnd (af cf e σ h) λw h=>.ok (.ret w) h
 |.if_ c a b,σ,h=>bnd (jb (af cf c σ h)) λk h=>if k then a9 cf fw a σ h else a9 cf fw b σ h
 |.while_ c b,σ,h=>wh (λσ h=>jb (af cf c σ h)) (a9 cf fw b) fw σ h
 |.for_ is (.seq a) b,σ,h=>bnd (af cf a σ h) λx h=>match x with
  |.ref n=>Ck n is (a9 cf fw b) fw 0 σ h
  |.tup ws=>fo is (a9 cf fw b) ws σ h
  |.lst ws=>fo is (a9 cf fw b) ws σ h
  |.scr ws=>fo is (a9 cf fw b) ws σ h
  |_=>.stuck
 |.for_ is (.rng es) b,σ,h=>bnd (bL cf es σ h) λws h=>match kG ws with
  |some ks=>fo is (a9 cf fw b) ks σ h
  |none=>.stuck
 |.for_ is (.rng2 t a c) b,σ,h=>bnd (af cf a σ h) λx h=>bnd (af cf c σ h) λy h=>match x,y with
  |.int i,.int j=>if -1000<=i/\i<=1000/\-1000<=j/\j<=1000 then fo is (a9 cf fw b) ((List.range ((j-i+g9 t-1)/g9 t).toNat).map λ(k:Nat)=>W.int (i+(k:Int)*g9 t)) σ h else .stuck
  |_,_=>.stuck
 |.pass_,σ,h=>.ok (.nx σ) h
 |.bad,_,_=>.stuck
 |.brk,σ,h=>.ok (.brk σ) h
 |.cnt,σ,h=>.ok (.cnt σ) h
noncomputable def a9(cf:CF)(fw:Nat):List S->ai->aa->Res Fl
 |[],σ,h=>.ok (.nx σ) h
 |s::ss,σ,h=>bnd (aL cf fw s σ h) λfl h=>match fl with
  |.nx σ=>a9 cf fw ss σ h
  |fl=>.ok fl h
end
structure Fn where
 np:Nat
 ns:Nat
 body:List S
 ini:Option (Nat×List (Bool×E)):=none
mutual
noncomputable def iE(h:aa)(n0:Nat):W->Option W
 |.ref n=>if n<n0 then some (.ref n) else match h[n]? with
  |some (.lst ws)=>some (.lst ws)
  |some (.dic ks ws)=>some (.dic ks ws)
  |none=>none
 |.tup ws=>(fQ h n0 ws).map .tup
 |.lst ws=>(fQ h n0 ws).map .lst
 |.scr ws=>(fQ h n0 ws).map .scr
 |.ins c ws=>(fQ h n0 ws).map (.ins c)
 |.dic ks ws=>(fQ h n0 ws).map (.dic ks)
 |w=>some w
noncomputable def fQ(h:aa)(n0:Nat):List W->Option (List W)
 |[]=>some []
 |w::ws=>match iE h n0 w,fQ h n0 ws with
  |some u,some us=>some (u::us)
  |_,_=>none
end
noncomputable def fin(n0:Nat)(r:Res Fl):Res W:=match r with
 |.stuck=>.stuck
 |.exc c h=>.exc c (h.take n0)
 |.ok fl h => match fl with
  |.ret w => match iE h n0 w with
   |some u=>.ok u (h.take n0)
   |none => .stuck
  |.nx _=>.ok .non (h.take n0)
  |_ => .stuck
noncomputable def finO(n0:Nat)(r:Res Fl):Res W:=match r with
 |.ok (.ret (.ref n)) h=>if n<n0 then .ok (.ref n) (h.take n0) else match h[n]? with
  |some (.lst ws)=>.ok (.ref n0) (h.take n0++[.lst ws])
  |_=>.stuck
 |r=>fin n0 r
noncomputable def eN(cf:CF)(σ:ai):List (Bool×E)->aa->Res (List W)
 |[],h=>.ok [] h
 |(false,e)::r,h=>bnd (af cf e σ h) λw h=>bnd (eN cf σ r h) λws h=>.ok (w::ws) h
 |(true,e)::r,h=>bnd (nV cf e σ h) λus h=>if aj us then bnd (eN cf σ r (h++[.lst us])) λws h'=>.ok (.ref h.length::ws) h' else .stuck
noncomputable def ae(fw:Nat)(tb:List Fn):Nat->CF
 |0=>λ_ _ _=>.stuck
 |d+1=>λf ws h=>match tb[f]? with
  |some g=>if ws.length=g.np then fin h.length (a9 (ae fw tb d) fw g.body (ws.map some++List.replicate (g.ns-g.np) none) h) else .stuck
  |none=>match tb[f-1000]? with
   |some g=>if 1000<=f/\ws.length=g.np then finO h.length (a9 (ae fw tb d) fw g.body (ws.map some++List.replicate (g.ns-g.np) none) h) else .stuck
   |none=>match tb[f-2000]? with
    |some g=>match g.ini with
     |some (c,fl)=>if 2000<=f/\ws.length+1=g.np then bnd (eN (ae fw tb d) (none::ws.map some) fl h) λus h=>.ok (.ins c us) h else .stuck
     |none=>.stuck
    |none=>.stuck
end
section
variable {K:Fg0}{ρ:List Addr}{H:Hp}{h:aa}
theorem a8.trk(r:a8 K ρ h H)(m:a∈ρ):∃o,H a=some o:=by
 obtain⟨n,hn,e⟩:=List.getElem_of_mem m;have hl:n<h.length:=by rw[<- r.len];lia
 have q:=r.at_ n a h[n] (by simp_all) (zK hl);cases e2:h[n] with
 |lst ws=>rw[e2]at q;obtain⟨_,xs,z,_⟩:=q;simp_all
 |dic ks ws=>rw[e2]at q;obtain⟨_,xs,z,_⟩:=q;simp_all
theorem a8.new(r:a8 K ρ h H)(n:H a=none):a∉ρ:=λm=>by
 obtain⟨o,e⟩:=r.trk m
 grind
theorem ext_new{a:Addr}{o:HO}(r:a8 K ρ h H)(n:H a=none):Ext ρ H ρ (aY H a o) :=
 ⟨List.prefix_refl _,λb u e _=>.inl (by rw[aB (ba e n)];lia),λ_ _ _ z=>z⟩
theorem u7.ext{ρ':List Addr}{H':Hp}{a:Addr}{o:Ob}(x:Ext ρ H ρ' H')(k:∀u,H a=some u->H' a=some u)(q:u7 K ρ H a o):u7 K ρ' H' a o:=by
 cases o with
 |lst ws=>obtain⟨p,xs,e,r⟩:=q;exact⟨p,xs,k _ e,ao.ext x ws xs r⟩
 |dic ks ws=>obtain⟨p,xs,e,l,r⟩:=q;exact⟨p,xs,k _ e,l,ao.ext x ws xs r⟩
theorem a8.ext_new{a:Addr}{o:HO}(r:a8 K ρ h H)(n:H a=none):a8 K ρ h (aY H a o) :=
 ⟨r.len,r.nd,λm b u e1 e2=>(r.at_ m b u e1 e2).ext (J.ext_new r n) λv e=>by rw[aB (ba e n)];lia⟩
theorem ext_cell{a:Addr}{o:HO}(r:a8 K ρ h H)(n:H a=none):Ext ρ H (ρ++[a]) (aY H a o) :=
 ⟨List.prefix_append _ _,λb u e _=>.inl (by rw[aB (ba e n)];lia),λb u e z m=>by simp_all⟩
theorem a8.cell{a:Addr}{ws:List W}{xs:List V}(r:a8 K ρ h H)(n:H a=none)(p:aj ws=true)(q:ao K ρ H ws xs):a8 K (ρ++[a]) (h++[.lst ws]) (aY H a (.lst xs)):=by
 have x:=J.ext_cell (o:=.lst xs) r n;refine⟨by simp[r.len],?_,λm b u e1 e2=>?_⟩;rw[ZK];refine⟨r.nd,zS,λb hb c hc=>?_⟩;rw[zT.mp hc];rintro rfl;exact r.new n hb;by_cases hm:m<ρ.length;rw[zJ hm]at e1;rw[zJ (by rw[<- r.len];exact hm)]at e2;exact(r.at_ m b u e1 e2).ext x λv e=>by rw[aB (ba e n)];exact e
 rw[zE (by simp_all)]at e1;rw[zE (by have:=r.len;lia)]at e2;have h0:m-ρ.length=0:=by grind
 rw[h0]at e1;rw[show m-h.length=0 by have:=r.len;lia]at e2;simp at e1 e2;subst e1;subst e2;exact⟨p,xs,aI,ao.ext x ws xs q⟩
theorem ext_write{n:Nat}{a:Addr}{o:HO}(e:ρ[n]?=some a):Ext ρ H ρ (aY H a o) :=
 ⟨List.prefix_refl _,λb u q z=>.inl (by
  have hb:b≠a:=by rintro rfl;exact z (zH e)
  rw[aB hb];lia),λ_ _ _ z=>z⟩
theorem a8.write(r:a8 K ρ h H)(e:ρ[n]?=some a)(p:aj ws=true)(q:ao K ρ H ws xs):a8 K ρ (h.set n (.lst ws)) (aY H a (.lst xs)):=by
 have x:=J.ext_write (H:=H) (o:=.lst xs) e;refine⟨by simp[r.len],r.nd,λm b u e1 e2=>?_⟩;by_cases hm:n=m;subst hm;rw[e]at e1;cases e1;rw[Zb (by rw[<- r.len];grind)]at e2;cases e2;exact⟨p,xs,aI,ao.ext x ws xs q⟩;rw[Zc hm]at e2;refine(r.at_ m b u e1 e2).ext x λv hv=>?_;have hb:b≠a:=by rintro rfl;exact hm ((List.getElem?_inj (ze.mp e).1 r.nd).mp (e.trans e1.symm))
 rw[aB hb];exact hv
theorem a8.cellD(r:a8 K ρ h H)(n:H a=none):a8 K (ρ++[a]) (h++[.dic [] []]) (aY H a (.dK [])):=by
 have x:=J.ext_cell (o:=.dK []) r n;refine⟨by simp[r.len],?_,λm b u e1 e2=>?_⟩;rw[ZK];refine⟨r.nd,zS,λb hb c hc=>?_⟩;rw[zT.mp hc];rintro rfl;exact r.new n hb;by_cases hm:m<ρ.length;rw[zJ hm]at e1;rw[zJ (by rw[<- r.len];exact hm)]at e2;exact(r.at_ m b u e1 e2).ext x λv e=>by rw[aB (ba e n)];exact e
 rw[zE zL]at e1;rw[zE (by have:=r.len;lia)]at e2;have h0:m-ρ.length=0:=by grind
 rw[h0]at e1;rw[show m-h.length=0 by have:=r.len;lia]at e2;simp at e1 e2;subst e1;subst e2;exact⟨rfl,[],aI,rfl,.nil⟩
theorem a8.writeD(r:a8 K ρ h H)(e:ρ[n]?=some a)(p:aj ws=true)(l:ks.length=xs.length)(q:ao K ρ H ws xs):a8 K ρ (h.set n (.dic ks ws)) (aY H a (.dK ((ks.map Sum.inr).zip xs))):=by
 have x:=J.ext_write (H:=H) (o:=.dK ((ks.map Sum.inr).zip xs)) e;refine⟨by simp[r.len],r.nd,λm b u e1 e2=>?_⟩;by_cases hm:n=m;subst hm;rw[e]at e1;cases e1;rw[Zb (by rw[<- r.len];grind)]at e2;cases e2;exact⟨p,xs,aI,l,ao.ext x ws xs q⟩;rw[Zc hm]at e2;refine(r.at_ m b u e1 e2).ext x λv hv=>?_;have hb:b≠a:=by rintro rfl;exact hm ((List.getElem?_inj (ze.mp e).1 r.nd).mp (e.trans e1.symm))
 rw[aB hb];exact hv
theorem cy(r:a8 K ρ h H)(e:bH h w=some (ks,ws))(q:Rel K ρ H w v):∃a xs,v=.ref a/\Rd H a (.dK ((ks.map Sum.inr).zip xs))/\ks.length=xs.length/\ao K ρ H ws xs:=by
 cases w with
 |dic ks' ws'=>rw[Rel]at q;obtain⟨a,xs,e1,_,e2,e3,e4⟩:=q;cases (z9 e);exact⟨a,xs,e1,e2,e3,e4⟩
 |ref n=>
  obtain⟨a,e1,e2⟩:=q;have e':(match h[n]? with|some (.dic ks ws)=>some (ks,ws)|_=>none)=some (ks,ws):=e;split at e'<;>try (cases e';done)
  rename_i us vs e3;cases e';obtain⟨_,xs,z,zl,zr⟩:=r.at_ n a _ e2 e3;exact⟨a,xs,e1,.inl z,zl,zr⟩
 |_=>cases e
theorem j8{x:Str}:∀{ks:List Str}{ws:List W}{xs:List V},ks.length=xs.length->ao K ρ H ws xs->(∀w,eU ks ws x=some w->∃v,iJ ((ks.map Sum.inr).zip xs) (Sum.inr x:cu)=some v/\Rel K ρ H w v)/\(eU ks ws x=none->iJ ((ks.map Sum.inr).zip xs) (Sum.inr x:cu)=none)
 |[],ws,xs,l,r=>⟨λw e=>(by cases e),λ_=>rfl⟩
 |k::ks,[],xs,l,r=>by rw[ao]at r;subst r;cases l
 |k::ks,w::ws,xs,l,r=>by obtain⟨y,ys,rfl,r1,r2⟩:=r;have ih:=j8 (x:=x) (ks:=ks) (ws:=ws) (xs:=ys) (by simpa using l) r2;rw[zR,zzo];unfold eU;by_cases hk:k=x;subst hk;rw[zF rfl,iU rfl];simp_all;rw[zP hk,jw (by simp_all)];exact ih
theorem mZ(l:ks.length=xs.length)(r:ao K ρ H ws xs):(eU ks ws x).isSome=(iJ ((ks.map Sum.inr).zip xs) (Sum.inr x:cu)).isSome:=by
 obtain⟨h1,h2⟩:=j8  l r;cases e:eU ks ws x with
 |none=>rw[h2 e];rfl
 |some w=>grind
theorem qT{x:Str}{w:W}{v:V}{ks:List Str}{ws:List W}{xs:List V}(l:ks.length=xs.length)(r:ao K ρ H ws xs)(rv:Rel K ρ H w v) :
  ∃ys,gO ((ks.map Sum.inr).zip xs) (Sum.inr x:cu) v=(((dY ks ws x w).1).map Sum.inr).zip ys/\(dY ks ws x w).1.length=ys.length/\ao K ρ H (dY ks ws x w).2 ys:=by
 have any_eq:∀{ks:List Str}{xs:List V},ks.length=xs.length->(((ks.map Sum.inr).zip xs).any λkv=>decide (kv.1=(Sum.inr x:cu)))=ks.any λk=>decide (k=x):=by
  intro ks;induction ks with
  |nil=>intro xs _;rfl
  |cons k ks ih=>
   intro xs l;cases xs with
   |nil=>cases l
   |cons y ys=>rw[zR,zzo,List.any_cons,List.any_cons,ih (by simpa using l)];congr 1;simp
 have set_eq:∀{ks:List Str}{ws:List W}{xs:List V},ks.length=xs.length->ao K ρ H ws xs->∃ys,((ks.map Sum.inr).zip xs).map (λkv=>if kv.1=(Sum.inr x:cu) then(kv.1,v) else kv)=(ks.map Sum.inr).zip ys/\ks.length=ys.length/\ao K ρ H (o7 ks ws x w) ys:=by
  intro ks;induction ks with
  |nil=>intro ws xs l r;cases xs with
   |nil=>exact⟨[],rfl,rfl,by unfold o7;exact r⟩
   |cons y ys=>cases l
  |cons k ks ih=>
   intro ws xs l r;cases ws with
   |nil=>rw[ao]at r;subst r;cases l
   |cons u ws=>rw[ao]at r;obtain⟨y,ys,rfl,r1,r2⟩:=r;obtain⟨zs,e1,e2,e3⟩:=ih (ws:=ws) (xs:=ys) (by simpa using l) r2;rw[zR,zzo,zR,e1];unfold o7;by_cases hk:k=x;subst hk;rw[zF rfl,zF rfl];exact⟨v::zs,rfl,by simp[e2],.cons rv e3⟩;rw[zP hk,zP (by intro z;exact hk (Sum.inr.inj z))];exact⟨y::zs,rfl,by simp[e2],.cons r1 e3⟩
 unfold gO dY
 rw[any_eq l]
 by_cases ha:(ks.any λk=>decide (k=x))=true
 ·rw[zF ha,zF ha]
  exact set_eq l r
 ·rw[zP ha,zP ha]
  refine⟨xs++[v],?_,by simp[l],r.append (.cons rv .nil)⟩
  rw[zY,List.zip_append (by simp[l])]
  rfl
theorem ia{w:W}{v:V}{ws:List W}(r:a8 K ρ h H)(e:i7 h w=some ws)(q:Rel K ρ H w v):∃a xs,v=.ref a/\iT K H a xs/\ao K ρ H ws xs:=by
 cases w with
 |lst us=>rw[Rel]at q;obtain⟨a,xs,e1,_,e2,e3⟩:=q;cases (show us=ws from z9 e);exact⟨a,xs,e1,.inl (.inl e2),e3⟩
 |scr us=>rw[Rel]at q;obtain⟨a,xs,e1,e2,e3⟩:=q;cases (z9 e);exact⟨a,xs,e1,e2.sq,e3⟩
 |ref n=>
  rw[Rel]at q;obtain⟨a,e1,e2⟩:=q;have e':(match h[n]? with|some (.lst ws)=>some ws|_=>none)=some ws:=e;split at e'<;>try (cases e';done)
  rename_i us e3;cases e';obtain⟨_,xs,z,zr⟩:=r.at_ n a _ e2 e3;exact⟨a,xs,e1,.inl (.inl z),zr⟩
 |_=>cases e
theorem cm{w:W}{v:V}{ws:List W}(r:a8 K ρ h H)(e:bN h w=some ws)(q:Rel K ρ H w v):∃a xs,v=.ref a/\H a=some (.lst xs)/\ao K ρ H ws xs:=by
 cases w with
 |lst us=>rw[Rel]at q;obtain⟨a,xs,e1,_,e2,e3⟩:=q;cases (show us=ws from z9 e);simp_all
 |ref n=>
  rw[Rel]at q;obtain⟨a,e1,e2⟩:=q;have e':(match h[n]? with|some (.lst ws)=>some ws|_=>none)=some ws:=e;split at e'<;>try (cases e';done)
  rename_i us e3;cases e';obtain⟨_,xs,z,zr⟩:=r.at_ n a _ e2 e3;simp_all
 |_=>cases e
theorem Ac(e:hZ w=some ws)(q:Rel K ρ H w v):∃a xs,v=.ref a/\kq K H a xs/\ao K ρ H ws xs:=by
 cases w with
 |tup us=>obtain⟨a,xs,e1,e2,e3⟩:=q;cases (z9 e);exact⟨a,xs,e1,e2.sq,e3⟩
 |_=>cases e
theorem eG(r:a8 K ρ h H)(e:seqA h w=some ws)(q:Rel K ρ H w v):∃a xs,v=.ref a/\(iT K H a xs\/kq K H a xs)/\ao K ρ H ws xs:=by
 unfold seqA at e;cases e1:hZ w with
 |some us=>rw[e1]at e;cases e;obtain⟨a,xs,h1,h2,h3⟩:=Ac e1 q;exact⟨a,xs,h1,.inr h2,h3⟩
 |none=>rw[e1]at e;obtain⟨a,xs,h1,h2,h3⟩:=ia r e q;exact⟨a,xs,h1,.inl h2,h3⟩
end
section
variable {X:Cx}{EX:cC}{cf:CF}{pos:Pos}
def rW(K:Fg0)(EX:cC)(f:W->W->aa->Res W):R2:=λx y H Q =>
 ∃ρ h w1 w2,a8 K ρ h H/\Rel K ρ H w1 x/\Rel K ρ H w2 y/\RQ K EX ρ H (f w1 w2 h) λw _ ρ' H'=>∀v,Rel K ρ' H' w v->Q v H'
theorem Ci{K:Fg0}
  (q:tI K EX (λσ h=>bnd (ea σ h) λx h=>bnd (eb σ h) λy h=>f x y h) τ H Q) :
  Kj (rW K EX f) (tI K EX ea) (tI K EX eb) τ H Q:=by
 obtain⟨ρ,σ,h,re,hr,q⟩:=q
 exact⟨ρ,σ,h,re,hr,q.bnd.mono λw1 h1 ρ1 H1 x1 hr1 q1 v1 r1=>(⟨ρ1,σ,h1,re.ext x1,hr1,q1.bnd.mono λw2 h2 ρ2 H2 x2 hr2 q2 v2 r2=>(⟨ρ2,h2,w1,w2,hr2,Rel.ext x2 _ _ r1,r2,q2⟩)⟩)⟩
theorem one{K:Fg0}{f:W->aa->Res W}
  (q:tI K EX (λσ h=>bnd (ea σ h) λx h=>f x h) τ H Q) :
  tI K EX ea τ H λx H1=>∃ρ h w1,a8 K ρ h H1/\Rel K ρ H1 w1 x/\RQ K EX ρ H1 (f w1 h) λw _ ρ' H'=>∀v,Rel K ρ' H' w v->Q v H':=by
 obtain⟨ρ,σ,h,re,hr,q⟩:=q
 exact⟨ρ,σ,h,re,hr,q.bnd.mono λw1 h1 ρ1 H1 x1 hr1 q1 v1 r1=>⟨ρ1,h1,w1,hr1,r1,q1⟩⟩
theorem wU:PE X (.Constant (.int i) j pos) (tI X.K EX (af cf (.con (.int i)))):=tH.sub λτ H Q zq=>by obtain⟨ρ,σ,h,re,hr,q⟩:=zq;exact RQ.here hr q _ (rfl)
theorem As:PE X (.Constant (.bool b) j pos) (tI X.K EX (af cf (.con (.bl b)))):=KI.sub λτ H Q zq=>by obtain⟨ρ,σ,h,re,hr,q⟩:=zq;exact RQ.here hr q _ (rfl)
theorem xH:PE X (.Constant (.str s) j pos) (tI X.K EX (af cf (.con (.str s)))):=lQ.sub λτ H Q zq=>by obtain⟨ρ,σ,h,re,hr,q⟩:=zq;exact RQ.here hr q _ (rfl)
theorem xx:PE X (.Constant .none j pos) (tI X.K EX (af cf (.con .non))):=G9.sub λτ H Q zq=>by obtain⟨ρ,σ,h,re,hr,q⟩:=zq;exact RQ.here hr q _ (rfl)
theorem Jq(hg:Gl X x)(hm:X.mg x=some u)(r:RelV v u)(rw':∀ρ H,Rel X.K ρ H w v)(hd:(x==("__debug__"))=false):PE X (.Name x pos) (tI X.K EX (af cf (.con w))) :=
 (vw hg hm r hd).sub λτ H Q zq=>by obtain⟨ρ,σ,h,re,hr,q⟩:=zq;exact RQ.here hr q _ (rw' _ _)
theorem Lb(hN:X.N[i]?=some x)(hv:uX X.env.scope x)(hd:(x==("__debug__"))=false)(hcd:(x==("__classdict__"))=false) :
  PE X (.Name x pos) (tI X.K EX (af cf (.var i))):=(eX hN hv hd hcd).sub λτ H Q zq=>by
 obtain⟨ρ,σ,h,re,hr,q⟩:=zq
 rw[af]at q
 split at q
 ·rename_i w e
  obtain⟨v,h1,h2⟩:=re.at_ i w e
  exact⟨v,h1,RQ.here hr q v h2⟩
 ·exact q.elim
variable {a b:Expr}{ea eb:ai->aa->Res W}
theorem Kx(ho:hU X (binaryOp op) (rW X.K EX (dQ op)))(ha:PE X a (tI X.K EX (af cf a')))(hb:PE X b (tI X.K EX (af cf b'))) :
 PE X (.BinOp a op b pos) (tI X.K EX (af cf (.bin op a' b'))):=(uZ ho ha hb).sub λτ H Q q=>Ci (by assumption)
theorem yD(h:fB i j=true):PySem.IntMulOk i j:=by rw[gP]at h;unfold sZ at h;rw[zzw]at h;rcases h with h|h;rcases Zd h with⟨h1,h2⟩|⟨h1,h2⟩;exact .of_left (intBits_le_64 h1 h2);exact .of_right (intBits_le_64 h1 h2);exact PyProof.Rows.mulOk_of_bits (zC _) (zC _) (Zd h)
theorem E6:hU X (binaryOp .Mult) (rI (λi j=>fB i j=true) λi j=>.int (i*j)):=L2.opI λ_ _ _ _ _ _ _ hc q=>mul_int q (yD hc)
theorem Bo:hU X (binaryOp .FloorDiv) (rI (λ_ j=>j≠0/\j.natAbs.log2<9000) λi j=>.int (i.fdiv j)):=L2.opI λ_ _ _ _ _ _ _ hc q=>floordiv_int hc.1 q (.inl (PyProof.noPylong_of_log2 hc.2))
theorem a7{K:Fg0}(h:Rel K ρ H (.int i) v):v=.int i:=h
theorem aG{K:Fg0}(h:Rel K ρ H (.str i) v):v=.str i:=h
theorem bW{K:Fg0}(h:Rel K ρ H (.bl i) v):v=.bl i:=h
theorem kR{K:Fg0}(h:Rel K ρ H .non v):v=.non:=h
theorem bf{K:Fg0}:Rel K ρ H (.int i) (.int i):=rfl
theorem gA{K:Fg0}:Rel K ρ H (.str i) (.str i):=rfl
theorem bA{K:Fg0}:Rel K ρ H (.bl i) (.bl i):=rfl
theorem l8{K:Fg0}:Rel K ρ H .non .non:=rfl
theorem JU{K:Fg0}{a:Addr}(hr:a8 K ρ h H)(n:H a=none)(r:ao K ρ H ws xs):Rel K ρ (aY H a (.tup xs)) (.tup ws) (.ref a):=⟨a,xs,rfl,.inl ⟨hr.new n,.inl aI⟩,ao.ext (ext_new hr n) _ _ r⟩
theorem HC{K:Fg0}{a:Addr}(hr:a8 K ρ h H)(n:H a=none)(r:ao K ρ H ws xs):Rel K ρ (aY H a (.lst xs)) (.lst ws) (.ref a):=⟨a,xs,rfl,hr.new n,aI,ao.ext (ext_new hr n) _ _ r⟩
theorem RQ.tup{K:Fg0}{Q:VK}(hr:a8 K ρ h H)(r:ao K ρ H ws xs)
  (q:RQ K EX ρ H (.ok (.tup ws) h) λw _ ρ' H'=>∀v,Rel K ρ' H' w v->Q v H'):∀p,H p=none->Q (.ref p) (aY H p (.tup xs)):=λp n =>
 q ρ _ (ext_new hr n) (hr.ext_new n) _ (JU hr n r)
theorem RQ.lst{K:Fg0}{Q:VK}(hr:a8 K ρ h H)(r:ao K ρ H ws xs)
  (q:RQ K EX ρ H (.ok (.lst ws) h) λw _ ρ' H'=>∀v,Rel K ρ' H' w v->Q v H'):∀p,H p=none->Q (.ref p) (aY H p (.lst xs)):=λp n =>
 q ρ _ (ext_new hr n) (hr.ext_new n) _ (HC hr n r)
theorem xM(h:x.length<=1000/\-1000<=n/\n<=1000):PySem.MulOk x n:=by
 obtain⟨h1,h2,h3⟩:=h
 refine⟨?_,λh4 _=>?_,λh4 _=>?_⟩
 ·grind
 ·have h6:(1000:Int)<=(2^63-1)/n:=Int.le_ediv_of_mul_le zL zL
  lia
 ·have h6:x.length*n.toNat<=1000*1000:=zzp h1 zL
  exact zX (by rw[Zq];lia)
theorem DU{E:Value->Shared->Prop}{t b:Addr}{vs us:List Value}(ht:IsTup s.heap t vs.toArray)(hb:IsTup s.heap b us.toArray)(hv:vs=[])
  (h:Q (.ref b) s):wpAny (model prog w) A (binaryOp .Add (.ref t) (.ref b)) Q E s:=by
 obtain⟨⟨c1,d1,o1,l1⟩,h1,k1,n1,z1⟩:=id ht
 obtain⟨⟨c2,d2,o2,l2⟩,h2,k2,n2,z2⟩:=id hb
 subst k1 z1 k2 z2
 exact concat_meets ⟨_,h1,rfl⟩ ⟨_,h2,rfl⟩ noFill_tuple_add seq_tuple_add PySem.F.slot_tuple_add PySem.F.entry_tuple_add (PySem.F.args_tuple_add_2 _ _) (tuple_addW0 t b vs.toArray us.toArray n1 n2 d1 d2 l1 l2 (by simp_all)) ⟨h1,h2,h⟩
theorem Ip(op:Operator):hU X (binaryOp op) (rW X.K EX (dQ op)):=by
 intro pins s σ H x y v u Q I rx ry zq12
 obtain⟨ρ,h,w1,w2,hr,r1,r2,q⟩:=zq12
 unfold dQ at q
 split at q
 ·-- ints
  rename_i i j
  cases a7 r1;cases a7 r2
  unfold ml at q
  cases op with
  |Add=>exact Gi pins s σ H _ _ v u Q I rx ry ⟨i,j,rfl,rfl,RQ.here hr q _ bf⟩
  |Sub=>exact Gm pins s σ H _ _ v u Q I rx ry ⟨i,j,rfl,rfl,RQ.here hr q _ bf⟩
  |Mult =>
   dsimp only at q
   split at q
   ·rename_i hm;exact E6 pins s σ H _ _ v u Q I rx ry ⟨i,j,rfl,rfl,hm,RQ.here hr q _ bf⟩
   ·exact q.elim
  |FloorDiv =>
   dsimp only at q
   split at q
   ·rename_i hm;exact Bo pins s σ H _ _ v u Q I rx ry ⟨i,j,rfl,rfl,hm,RQ.here hr q _ bf⟩
   ·exact q.elim
  |Mod =>
   dsimp only at q
   split at q
   ·rename_i hm;exact Ej pins s σ H _ _ v u Q I rx ry ⟨i,j,rfl,rfl,hm,RQ.here hr q _ bf⟩
   ·exact q.elim
  |Pow =>
   dsimp only at q
   split at q
   ·rename_i hm;exact Ha pins s σ H _ _ v u Q I rx ry ⟨i,j,rfl,rfl,hm,RQ.here hr q _ bf⟩
   ·exact q.elim
  |_=>exact q.elim
 ·rename_i i j
  cases aG r1;cases aG r2
  split at q
  ·split at q
   ·rename_i hm;exact tj pins s σ H _ _ v u Q I rx ry ⟨i,j,rfl,rfl,hm,RQ.here hr q _ gA⟩
   ·exact q.elim
  ·exact q.elim
 ·rename_i z n
  cases aG r1;cases a7 r2
  split at q
  ·split at q
   ·rename_i hm
    obtain⟨t,rfl⟩:=rx
    obtain⟨t',rfl⟩:=ry
    exact PySem.SB.mul (xM hm) λt' k=>⟨.str _,H,I.tok _,⟨_,rfl⟩,RQ.here hr q _ gA⟩
   ·exact q.elim
  ·exact q.elim
 ·rename_i ws us
  split at q
  ·rw[Rel]at r1 r2
   obtain⟨a,xs,rfl,q1,s1⟩:=r1
   obtain⟨b,ys,rfl,q2,s2⟩:=r2
   unfold fG NN at q
   dsimp only at q
   split at q
   ·rename_i hm
    cases ws with
    |nil =>
     have e0:=s1.length
     cases xs with
     |cons _ _=>cases e0
     |nil =>
     cases rx
     cases ry
     obtain⟨its,l1,p1,_⟩:=I.tuple q1.sq
     obtain⟨its2,l2,p2,_⟩:=I.tuple q2.sq
     refine DU p1 p2 (l1.nil_iff.mpr rfl) ⟨.ref b,H,I,rfl,?_⟩
     refine RQ.here hr q _ ?_
     rw[zzV,Rel]
     exact⟨b,ys,rfl,q2,s2⟩
    |cons w0 ws0 =>
    refine(E7 (X:=X)) pins s σ H _ _ v u Q I rx ry ⟨a,b,xs,ys,rfl,rfl,q1.sq,q2.sq,?_,by rw[<- s1.length,<- s2.length];exact hm,λe=>?_,λ_=>RQ.tup hr (s1.append s2) q⟩
    ·intro e
     have:=s1.length
     rw[e]at this
     cases this
    ·subst e
     have:=s2.length
     cases us with
     |nil =>
      refine RQ.here hr q _ ?_
      rw[Zi,Rel]
      exact⟨a,xs,rfl,q1,s1⟩
     |cons w ws=>simp at this
   ·exact q.elim
  ·exact q.elim
 ·rename_i j _ _
  split at q
  ·cases a7 r2
   unfold GA at q
   cases e:bN h w1 with
   |none=>rw[e]at q;exact q.elim
   |some ws =>
    rw[e]at q
    unfold wF at q
    dsimp only at q
    split at q
    ·rename_i hm
     obtain⟨a,xs,rfl,e1,s1⟩:=cm hr e r1
     exact(Aa (X:=X)) pins s σ H _ _ v u Q I rx ry ⟨a,j,xs,rfl,rfl,e1,hm.1,hm.2.1,by rw[<- s1.length];exact hm.2.2,RQ.lst hr (s1.flatrep _) q⟩
    ·exact q.elim
  ·exact q.elim
 ·split at q
  ·unfold GA at q
   cases e:bN h w1 with
   |none=>rw[e]at q;exact q.elim
   |some ws =>
    cases e':bN h w2 with
    |none=>rw[e,e']at q;exact q.elim
    |some us =>
     rw[e,e']at q
     unfold fG at q
     dsimp only at q
     split at q
     ·rename_i hm
      obtain⟨a,xs,rfl,e1,s1⟩:=cm hr e r1
      obtain⟨b,ys,rfl,e2,s2⟩:=cm hr e' r2
      exact(sQ (X:=X)) pins s σ H _ _ v u Q I rx ry ⟨a,b,xs,ys,rfl,rfl,e1,e2,by rw[<- s1.length,<- s2.length];exact hm,RQ.lst hr (s1.append s2) q⟩
     ·exact q.elim
  ·exact q.elim
end
section
variable {X:Cx}{EX:cC}{cf:CF}{pos:Pos}{a b c:Expr}{a' b' c':E}
mutual
theorem sk{pins:List (Addr×Obj)}{σ:L2.St}{H:Hp}{s:Shared}(I:Inv X pins σ H s){ρ:List Addr}:∀(w:W) (v:V) (u:Value),rT w=true->Rel X.K ρ H w v->RelV v u->∃as,Reads s.heap u (fz w) as
 |.non,v,u,_,r,q=>by cases kR r;cases q;exact⟨_,.none⟩
 |.bl b,v,u,_,r,q=>by cases bW r;cases q;exact⟨_,.bool b⟩
 |.int i,v,u,_,r,q=>by cases a7 r;obtain⟨t,rfl⟩:=q;exact⟨_,.int i t⟩
 |.str i,v,u,_,r,q=>by cases aG r;obtain⟨t,rfl⟩:=q;exact⟨_,.str i t⟩
 |.tup ws,v,u,ok,r,q=>by rw[Rel]at r;rw[rT]at ok;obtain⟨a,xs,rfl,hq,rs⟩:=r;cases q;obtain⟨its,rv,⟨o,ho,hc,n,hd⟩,hz⟩:=I.tuple hq.sq;obtain⟨as,ra⟩:=fE I ws xs its ok rs rv;exact⟨as,by rw[fz];exact .tuple ho hc hd (by simpa using ra)⟩
 |.lst ws,v,u,ok,r,q=>by rw[Rel]at r;rw[rT]at ok;obtain⟨a,xs,rfl,_,hq,rs⟩:=r;cases q;obtain⟨its,rv,⟨o,n,ho,hc,_,hd⟩,hz⟩:=I.list (.inl (.inl hq));obtain⟨as,ra⟩:=fE I ws xs its ok rs rv;exact⟨_,by rw[fz];exact .list ho hc hd (by simpa using ra)⟩
 |.scr ws,v,u,ok,r,q=>by rw[Rel]at r;rw[rT]at ok;obtain⟨a,xs,rfl,hq,rs⟩:=r;cases q;obtain⟨its,rv,⟨o,n,ho,hc,_,hd⟩,hz⟩:=I.list hq.sq;obtain⟨as,ra⟩:=fE I ws xs its ok rs rv;exact⟨_,by rw[fz];exact .list ho hc hd (by simpa using ra)⟩
 |.dic _ _,v,u,ok,r,q=>by rw[rT]at ok;cases ok
 |.ref _,v,u,ok,r,q=>by rw[rT]at ok;cases ok
 |.ins _ _,v,u,ok,r,q=>by rw[rT]at ok;cases ok
theorem fE{pins:List (Addr×Obj)}{σ:L2.St}{H:Hp}{s:Shared}(I:Inv X pins σ H s){ρ:List Addr}:∀(ws:List W) (xs:List V) (us:List Value),dH ws=true->ao X.K ρ H ws xs->Vals xs us->∃as,ReadsAll s.heap us (bO ws) as
 |[],xs,us,_,r,q=>by rw[ao]at r;subst r;cases q;exact⟨[],by rw[bO];exact .nil⟩
 |w::ws,xs,us,ok,r,q=>by
  rw[ao]at r;rw[dH,zI]at ok;obtain⟨y,ys,rfl,r1,r2⟩:=r;cases q with
  |cons q1 q2=>obtain⟨as,ra⟩:=sk I w y _ ok.1 r1 q1;obtain⟨bs,rb⟩:=fE I ws ys _ ok.2 r2 q2;exact⟨_,by rw[bO];exact .cons ra rb⟩
end
theorem eS{pins:List (Addr×Obj)}{σ:L2.St}{H:Hp}{s:Shared}(I:Inv X pins σ H s){ρ:List Addr}{h:aa}{w w':W}{v:V}{u:Value}(hr:a8 X.K ρ h H)(e:cH h w=some w')(r:Rel X.K ρ H w v)(q:RelV v u):∃as,Reads s.heap u (fz w') as:=by
 have plain:∀(z:cH h w=if rT w then some w else none),∃as,Reads s.heap u (fz w') as:=λz=>by rw[z]at e;split at e;rename_i ok;cases e;exact sk I w v u ok r q;cases e
 cases w with
 |ref n=>
  have e':(match h[n]? with|some (.lst ws)=>if dH ws then some (W.lst ws) else none|_=>none)=some w':=e;split at e'<;>try (cases e';done)
  rename_i ws e3;split at e';rename_i ok;cases e';obtain⟨l,xs,rfl,hx,rs⟩:=cm  (ws:=ws) hr (by show(match h[n]? with|some (.lst ws)=>some ws|_=>none)=some ws;rw[e3]) r;cases q;obtain⟨its,rv,⟨o,n,ho,hc,_,hd⟩,hz⟩:=I.list (.inl (.inl hx));obtain⟨as,ra⟩:=fE I ws xs its ok rs rv;exact⟨_,by rw[fz];exact .list ho hc hd (by simpa using ra)⟩;cases e'
 |non=>exact plain rfl
 |bl k=>exact plain rfl
 |int k=>exact plain rfl
 |str k=>exact plain rfl
 |tup k=>exact plain rfl
 |lst k=>exact plain rfl
 |scr k=>exact plain rfl
 |dic k l=>exact plain rfl
 |ins k l=>exact plain rfl
theorem pX{K:Fg0}(e:sr h x y=some k)(r1:Rel K ρ H x v)(r2:Rel K ρ H y u):(Hr v u=true/\decide (v=u)=k) \/
  ∃a b,cH h x=some a/\cH h y=some b/\SeqAt.shaped (fz a)=true/\SeqAt.shaped (fz b)=true/\PyData.eqv (fz a) (fz b)=k:=by
 unfold sr at e
 split at e
 ·rename_i i j
  cases a7 r1;cases a7 r2;cases e
  exact .inl ⟨rfl,zS⟩
 ·rename_i i j
  cases bW r1;cases bW r2;cases e
  exact .inl ⟨rfl,zS⟩
 ·rename_i i j
  cases aG r1;cases aG r2;cases e
  exact .inl ⟨rfl,zS⟩
 ·split at e
  ·simp_all
  ·cases e
theorem my{K:Fg0}(f:eE w=true)(r:Rel K ρ H w v):v=uv w:=by
 cases w with
 |non=>assumption
 |bl b=>assumption
 |int b=>assumption
 |str b=>assumption
 |_=>cases f
theorem jT{K:Fg0}{ρ:List Addr}{H:Hp}:∀{ws:List W}{xs:List V},ws.all eE=true->ao K ρ H ws xs->xs=ws.map uv
 |[],xs,_,r=>by assumption
 |w::ws,xs,f,r=>by rw[ZO,zI]at f;obtain⟨y,ys,rfl,r1,r2⟩:=r;rw[my f.1 r1,jT f.2 r2];rfl
theorem lC(f:eE w=true):iB (uv w)=true:=by
 cases w with
 |non=>rfl
 |bl b=>rfl
 |int b=>rfl
 |str b=>rfl
 |_=>rfl
theorem jJ:∀{ws:List W},ws.all eE=true->(ws.map uv).all iB=true
 |[],_=>rfl
 |w::ws,f=>by rw[ZO,zI]at f;rw[zR,ZO,lC f.1,jJ f.2];rfl
theorem nW{K:Fg0}(r:Rel K ρ H w v):decide (v=.non)=bt w:=by
 cases w with
 |non=>cases kR r;rfl
 |bl b=>cases bW r;rfl
 |int b=>cases a7 r;rfl
 |str b=>cases aG r;rfl
 |ref n=>obtain⟨a,rfl,_⟩:=r;rfl
 |ins c us=>obtain⟨a,dx,xs,C,rfl⟩:=r;rfl
 |_=>obtain⟨a,xs,rfl⟩:=r;rfl
theorem ij(hu:X.A.units+64<cLine)(op:CmpOp):hU X (compareOp op) (rW X.K EX (bD op)):=by
 intro pins s σ H x y v u Q I rx ry zq12;obtain⟨ρ,h,w1,w2,hr,r1,r2,q⟩:=zq12;unfold bD at q;cases op with
 |Eq=>dsimp only at q;split at q;rename_i k e;rcases pX e r1 r2 with⟨h1,h2⟩|⟨a,b,h1,h2,h3,h4,h5⟩;exact Ld pins s σ H _ _ v u Q I rx ry ⟨h1,by rw[h2];exact RQ.here hr q _ bA⟩;obtain⟨as,ra⟩:=eS I hr h1 r1 rx;obtain⟨bs,rb⟩:=eS I hr h2 r2 ry;exact eq_dataH ra rb h3 h4 hu ⟨.bl k,H,I,by rw[h5];rfl,RQ.here hr q _ bA⟩;exact q.elim
 |NotEq=>dsimp only at q;split at q;rename_i k e;rcases pX e r1 r2 with⟨h1,h2⟩|⟨a,b,h1,h2,h3,h4,h5⟩;exact Mb pins s σ H _ _ v u Q I rx ry ⟨h1,by rw[h2];exact RQ.here hr q _ bA⟩;obtain⟨as,ra⟩:=eS I hr h1 r1 rx;obtain⟨bs,rb⟩:=eS I hr h2 r2 ry;exact ne_dataH ra rb h3 h4 hu ⟨.bl (!k),H,I,by rw[h5];rfl,RQ.here hr q _ bA⟩;exact q.elim
 |Lt=>dsimp only at q;split at q;rename_i i j;cases a7 r1;cases a7 r2;exact Le pins s σ H _ _ v u Q I rx ry ⟨i,j,rfl,rfl,RQ.here hr q _ bA⟩;rename_i i j;cases aG r1;cases aG r2;obtain⟨t,rfl⟩:=rx;obtain⟨t',rfl⟩:=ry;exact PySem.P.lt_str ⟨.bl (i9 i j),H,I,rfl,RQ.here hr q _ bA⟩;exact q.elim
 |LtE=>dsimp only at q;split at q;rename_i i j;cases a7 r1;cases a7 r2;exact Lp pins s σ H _ _ v u Q I rx ry ⟨i,j,rfl,rfl,RQ.here hr q _ bA⟩;rename_i i j;cases aG r1;cases aG r2;obtain⟨t,rfl⟩:=rx;obtain⟨t',rfl⟩:=ry;exact PySem.P.le_str ⟨.bl (!i9 j i),H,I,rfl,RQ.here hr q _ bA⟩;exact q.elim
 |Gt=>dsimp only at q;split at q;rename_i i j;cases a7 r1;cases a7 r2;exact MG pins s σ H _ _ v u Q I rx ry ⟨i,j,rfl,rfl,RQ.here hr q _ bA⟩;rename_i i j;cases aG r1;cases aG r2;obtain⟨t,rfl⟩:=rx;obtain⟨t',rfl⟩:=ry;exact PySem.P.gt_str ⟨.bl (i9 j i),H,I,rfl,RQ.here hr q _ bA⟩;exact q.elim
 |GtE=>dsimp only at q;split at q;rename_i i j;cases a7 r1;cases a7 r2;exact N9 pins s σ H _ _ v u Q I rx ry ⟨i,j,rfl,rfl,RQ.here hr q _ bA⟩;rename_i i j;cases aG r1;cases aG r2;obtain⟨t,rfl⟩:=rx;obtain⟨t',rfl⟩:=ry;exact PySem.P.ge_str ⟨.bl (!i9 i j),H,I,rfl,RQ.here hr q _ bA⟩;exact q.elim
 |In=>dsimp only at q;unfold xO at q;split at q;rename_i ks ws e;split at q;rename_i k;cases aG r1;obtain⟨a,xs,rfl,hd,hl,rs⟩:=cy hr e r2;have hdg:oW H a (.str k) (iJ ((ks.map Sum.inr).zip xs) (Sum.inr k:cu)):=(.inl ⟨_,Sum.inr k,hd,rfl,rfl⟩);cases ry;refine OO (zzP zL hu) I hdg rx λs' I'=>⟨.bl _,H,I',rfl,?_⟩;rw[<- mZ hl rs];exact RQ.here hr q _ bA;exact q.elim;rename_i hnd;split at q;rename_i ws e;split at q;rename_i hf;rw[zI]at hf;obtain⟨a,xs,rfl,hq,rs⟩:=eG hr e r2;have e1:=my hf.1 r1;have e2:=jT hf.2 rs;subst e1 e2;exact wH pins s σ H _ _ v u Q I rx ry ⟨a,_,rfl,hq,lC hf.1,jJ hf.2,RQ.here hr q _ bA⟩;exact q.elim;exact q.elim
 |NotIn=>dsimp only at q;unfold xO at q;split at q;rename_i ks ws e;split at q;rename_i k;cases aG r1;obtain⟨a,xs,rfl,hd,hl,rs⟩:=cy hr e r2;have hdg:oW H a (.str k) (iJ ((ks.map Sum.inr).zip xs) (Sum.inr k:cu)):=(.inl ⟨_,Sum.inr k,hd,rfl,rfl⟩);cases ry;refine Cn (zzP zL hu) I hdg rx λs' I'=>⟨.bl _,H,I',rfl,?_⟩;rw[<- mZ hl rs];exact RQ.here hr q _ bA;exact q.elim;rename_i hnd;split at q;rename_i ws e;split at q;rename_i hf;rw[zI]at hf;obtain⟨a,xs,rfl,hq,rs⟩:=eG hr e r2;have e1:=my hf.1 r1;have e2:=jT hf.2 rs;subst e1 e2;exact oH pins s σ H _ _ v u Q I rx ry ⟨a,_,rfl,hq,lC hf.1,jJ hf.2,RQ.here hr q _ bA⟩;exact q.elim;exact q.elim
 |Is=>dsimp only at q;split at q;cases kR r2;exact II pins s σ H _ _ v u Q I rx ry ⟨rfl,by rw[nW r1];exact RQ.here hr q _ bA⟩;exact q.elim
 |IsNot=>dsimp only at q;split at q;cases kR r2;exact Cp pins s σ H _ _ v u Q I rx ry ⟨rfl,by rw[nW r1];exact RQ.here hr q _ bA⟩;exact q.elim
def kJ(e:Expr):Bool:=match e with
 |.Set ..=>false
 |_=>true
theorem rS(h:kJ e=true):behindInMarks op e=false:=by cases e<;>first|rfl|cases h
theorem LH(hu:X.A.units+64<cLine)(ha:PE X a (tI X.K EX (af cf a')))(hb:PE X b (tI X.K EX (af cf b')))(hp:kJ b=true) :
 PE X (.Compare a [op] [b] pos) (tI X.K EX (af cf (.cmp op a' b'))):=(D5 (ij hu op) ha hb (rS hp)).sub λτ H Q q=>Ci (by assumption)
theorem Lr{K:Fg0}{h:aa}{w:W}{k:Bool}(e:qU h w=some k):w=.bl k:=by cases w<;>first|(cases e;rfl)|cases e
abbrev bJ(cf:CF)(a:E):ai->aa->Res Bool:=λσ h=>jb (af cf a σ h)
theorem oR{K:Fg0}(q:fP K EX (λσ h=>jb (ev σ h)) τ H Q):tI K EX ev τ H λx H1=>∃k,x=.bl k/\Q k H1:=by obtain⟨ρ,σ,h,re,hr,q⟩:=q;refine⟨ρ,σ,h,re,hr,q.bnd.mono λw h1 ρ1 H1 x1 hr1 q1 v r=>?_⟩;split at q1;rename_i k e;have e':=Lr (K:=K) e;subst e';exact⟨k,bW r,RQ.here hr1 q1⟩;exact q1.elim
theorem Mr{op:CmpOp}(hu:X.A.units+64<cLine)(ha:PE X a (tI X.K EX (af cf a')))(hb:PE X b (tI X.K EX (af cf b')))(hp:kJ b=true) :
  PT X (.Compare a [op] [b] pos) (fP X.K EX (bJ cf (.cmp op a' b'))):=(De (ij hu op) ha hb (rS hp)).sub λτ H Q q=>by
 have q':=oR q
 exact Ci (by assumption)
theorem qZ{K:Fg0}(q:tI K EX (af cf (.chn op op' a' b' c')) τ H Q) :
  uo (rW K EX (bD op)) (rW K EX (bD op')) (tI K EX (af cf a')) (tI K EX (af cf b')) (tI K EX (af cf c')) τ H Q:=by
 obtain⟨ρ,σ,h,re,hr,q⟩:=q
 refine⟨ρ,σ,h,re,hr,q.bnd.mono λw1 h1 ρ1 H1 x1 hr1 q1 v1 r1=>⟨ρ1,σ,h1,re.ext x1,hr1,q1.bnd.mono λw2 h2 ρ2 H2 x2 hr2 q2 v2 r2=>(⟨ρ2,h2,w1,w2,hr2,Rel.ext x2 _ _ r1,r2,q2.bnd.mono λwk h3 ρ3 H3 x3 hr3 q3 vk rk=>?_⟩)⟩⟩
 cases wk with
 |bl k =>
  cases k with
  |true=>exact⟨true,bW rk,pU ⟨ρ3,σ,h3,((re.ext x1).ext x2).ext x3,hr3,(q3).bnd.mono λwz h4 ρ4 H4 x4 hr4 q4 vz rz=>⟨ρ4,h4,w2,wz,hr4,Rel.ext x4 _ _ (Rel.ext x3 _ _ r2),rz,q4⟩⟩⟩
  |false=>exact⟨false,bW rk,qd (RQ.here hr3 q3 _ bA)⟩
 |_=>exact q3.elim
theorem Nv{op op':CmpOp}(hu:X.A.units+64<cLine)(ha:PE X a (tI X.K EX (af cf a')))(hb:PE X b (tI X.K EX (af cf b')))(hc:PE X c (tI X.K EX (af cf c')))(hm:lastMarks [op,op'] [b,c]=false) :
 PE X (.Compare a [op,op'] [b,c] pos) (tI X.K EX (af cf (.chn op op' a' b' c'))):=(AA (ij hu op) (ij hu op') ha hb hc hm).sub λ_ _ _ q=>qZ q
theorem ME{op op':CmpOp}(hu:X.A.units+64<cLine)(ha:PE X a (tI X.K EX (af cf a')))(hb:PE X b (tI X.K EX (af cf b')))(hc:PE X c (tI X.K EX (af cf c')))(hm:lastMarks [op,op'] [b,c]=false) :
 PT X (.Compare a [op,op'] [b,c] pos) (fP X.K EX (bJ cf (.chn op op' a' b' c'))):=(AQ (ij hu op) (ij hu op') ha hb hc hm).sub λ_ _ _ q=>qZ (oR q)
def t9(e:Expr):Bool:=match e with
 |.UnaryOp .Not _ _=>false
 |.BoolOp ..=>false
 |.IfExp ..=>false
 |.Compare ..=>false
 |_=>true
theorem wZ(h:t9 e=true):∀env whole,isTrue e env whole=(do let v <- whole;standAt e.pos;holding [v] (truthy v)):=by
 intro env whole;cases e with
 |UnaryOp op x p=>cases op<;>first|rfl|cases h
 |BoolOp=>cases h
 |IfExp=>cases h
 |Compare=>cases h
 |_=>rfl
theorem DN(ha:PE X a (tI X.K EX (af cf a')))(hp:t9 a=true):PT X a (fP X.K EX (bJ cf a')) :=
 (Ju ha (wZ hp _)).sub λτ H Q q=>oR q
theorem KW(ha:PE X a (tI X.K EX (af cf a'))):PE X (.UnaryOp .Not a pos) (tI X.K EX (af cf (.not_ a'))):=(IS ha).sub λτ H Q zq=>by obtain⟨ρ,σ,h,re,hr,q⟩:=zq;refine oR ⟨ρ,σ,h,re,hr,q.bnd.mono λk h1 ρ1 H1 x1 hr1 q1=>RQ.here hr1 q1 _ bA⟩
theorem Nh(ha:PT X a (fP X.K EX (bJ cf a'))):PT X (.UnaryOp .Not a pos) (fP X.K EX (bJ cf (.not_ a'))):=(J0 ha).sub λτ H Q zq=>by obtain⟨ρ,σ,h,re,hr,q⟩:=zq;refine⟨ρ,σ,h,re,hr,?_⟩;have q1:=q.bnd;exact q1.bnd.mono λk h1 ρ1 H1 x1 hr1 q2=>RQ.here hr1 (RQ.here hr1 q2)
theorem K6{cT:List Expr}(ha:PE X a (tI X.K EX (af cf a')))(hb:PE X (.BoolOp .And (b::cT) pos) (tI X.K EX (af cf b'))):PE X (.BoolOp .And (a::b::cT) pos) (tI X.K EX (af cf (.and_ a' b'))) :=
 (Hm ha hb).sub λτ H Q zq=>by obtain⟨ρ,σ,h,re,hr,q⟩:=zq;refine⟨ρ,σ,h,re,hr,q.bnd.mono λw h1 ρ1 H1 x1 hr1 q1 v r=>?_⟩;split at q1;exact⟨true,bW r,by rw[zF rfl];exact⟨ρ1,σ,h1,re.ext x1,hr1,q1⟩⟩;exact⟨false,bW r,by exact RQ.here hr1 q1 _ bA⟩;exact q1.elim
theorem P5{cT:List Expr}(ha:PE X a (tI X.K EX (af cf a')))(hb:PE X (.BoolOp .Or (b::cT) pos) (tI X.K EX (af cf b'))):PE X (.BoolOp .Or (a::b::cT) pos) (tI X.K EX (af cf (.or_ a' b'))) :=
 (LN ha hb).sub λτ H Q zq=>by obtain⟨ρ,σ,h,re,hr,q⟩:=zq;refine⟨ρ,σ,h,re,hr,q.bnd.mono λw h1 ρ1 H1 x1 hr1 q1 v r=>?_⟩;split at q1;exact⟨true,bW r,by rw[zF rfl];exact RQ.here hr1 q1 _ bA⟩;exact⟨false,bW r,by exact⟨ρ1,σ,h1,re.ext x1,hr1,q1⟩⟩;exact q1.elim
theorem BG{op:BoolOp}(ha:PT X a (fP X.K EX (bJ cf a'))):PW X (.BoolOp op [a] pos) (fP X.K EX (bJ cf a')):=by
 cases op with
 |And=>exact Dj ha
 |Or=>exact Jd ha
theorem cV(r)(f:α->aa->Res β)(g:β->aa->Res γ):bnd (bnd r f) g=bnd r λx h=>bnd (f x h) g:=by cases r<;>rfl
theorem CC(cf)(a b)(σ)(h):bJ cf (.and_ a b) σ h=bnd (bJ cf a σ h) λk h=>if k=true then bJ cf b σ h else .ok false h:=by
 show jb (af cf (.and_ a b) σ h)=bnd (jb (af cf a σ h)) _;rw[af];cases af cf a σ h with
 |ok w h1=>
  cases w with
  |bl k=>cases k<;>rfl
  |_=>rfl
 |exc c h1=>rfl
 |stuck=>rfl
theorem sX(cf)(a b)(σ)(h):bJ cf (.or_ a b) σ h=bnd (bJ cf a σ h) λk h=>if k=true then .ok true h else bJ cf b σ h:=by
 show jb (af cf (.or_ a b) σ h)=bnd (jb (af cf a σ h)) _;rw[af];cases af cf a σ h with
 |ok w h1=>
  cases w with
  |bl k=>cases k<;>rfl
  |_=>rfl
 |exc c h1=>rfl
 |stuck=>rfl
theorem CI(cf)(c a b)(σ)(h):bJ cf (.ite c a b) σ h=bnd (bJ cf c σ h) λk h=>if k=true then bJ cf a σ h else bJ cf b σ h:=by
 show jb (af cf (.ite c a b) σ h)=bnd (jb (af cf c σ h)) _;rw[af];cases af cf c σ h with
 |ok w h1=>
  cases w with
  |bl k=>cases k<;>rfl
  |_=>rfl
 |exc c h1=>rfl
 |stuck=>rfl
theorem FY{cT:List Expr}(ha:PT X a (fP X.K EX (bJ cf a')))(hb:PW X (.BoolOp .And (b::cT) pos) (fP X.K EX (bJ cf b'))):PW X (.BoolOp .And (a::b::cT) pos) (fP X.K EX (bJ cf (.and_ a' b'))) :=
 (Ka ha hb).sub λτ H Q zq=>by
  obtain⟨ρ,σ,h,re,hr,q⟩:=zq;rw[CC]at q;refine⟨ρ,σ,h,re,hr,q.bnd.mono λk h1 ρ1 H1 x1 hr1 q1=>?_⟩;cases k with
  |true=>exact pU ⟨ρ1,σ,h1,re.ext x1,hr1,by simp_all⟩
  |false=>exact qd (RQ.here hr1 (by assumption))
theorem MA{cT:List Expr}(ha:PT X a (fP X.K EX (bJ cf a')))(hb:PW X (.BoolOp .Or (b::cT) pos) (fP X.K EX (bJ cf b'))):PW X (.BoolOp .Or (a::b::cT) pos) (fP X.K EX (bJ cf (.or_ a' b'))) :=
 (LA ha hb).sub λτ H Q zq=>by
  obtain⟨ρ,σ,h,re,hr,q⟩:=zq;rw[sX]at q;refine⟨ρ,σ,h,re,hr,q.bnd.mono λk h1 ρ1 H1 x1 hr1 q1=>?_⟩;cases k with
  |true=>exact pU (RQ.here hr1 (by assumption))
  |false=>exact qd ⟨ρ1,σ,h1,re.ext x1,hr1,by simp_all⟩
theorem Mn(hc:PT X c (fP X.K EX (bJ cf c')))(ha:PE X a (tI X.K EX (af cf a')))(hb:PE X b (tI X.K EX (af cf b'))):PE X (.IfExp c a b pos) (tI X.K EX (af cf (.ite c' a' b'))) :=
 (Ai hc ha hb).sub λτ H Q zq=>by
  obtain⟨ρ,σ,h,re,hr,q⟩:=zq;refine⟨ρ,σ,h,re,hr,q.bnd.mono λk h1 ρ1 H1 x1 hr1 q1=>?_⟩;cases k with
  |true=>exact pU ⟨ρ1,σ,h1,re.ext x1,hr1,by simp_all⟩
  |false=>exact qd ⟨ρ1,σ,h1,re.ext x1,hr1,by simp_all⟩
theorem nY:PA X [] (mV X.K EX (bL cf [])):=bF.sub λτ H Q zq=>by obtain⟨ρ,σ,h,re,hr,q⟩:=zq;rw[bL]at q;exact RQ.here hr q _ .nil
def az(e:Expr):Bool:=match e with
 |.Starred ..=>false
 |_=>true
theorem au(h:az e=true)(es)(env):starEach (e::es) env=(false,eval e env)::starEach es env:=by cases e<;>first|rfl|cases h
theorem gG(ha:PE X a (tI X.K EX (af cf a')))(hr:PA X es (mV X.K EX (bL cf es')))(hs:az a=true):PA X (a::es) (mV X.K EX (bL cf (a'::es'))) :=
 (aM ha hr (au hs es _)).sub λτ H Q zq=>by obtain⟨ρ,σ,h,re,hr,q⟩:=zq;exact⟨ρ,σ,h,re,hr,q.bnd.mono λw h1 ρ1 H1 x1 hr1 q1 v r=>(⟨ρ1,σ,h1,re.ext x1,hr1,q1.bnd.mono λws h2 ρ2 H2 x2 hr2 q2 vs rs=>RQ.here hr2 q2 _ (.cons (Rel.ext x2 _ _ r) rs)⟩)⟩
theorem K5(h:PA X es (mV X.K EX (bL cf es'))):PE X (.Tuple es k pos) (tI X.K EX (af cf (.tup es'))):=(Jf h).sub λτ H Q zq=>by obtain⟨ρ,σ,h,re,hr,q⟩:=zq;refine⟨ρ,σ,h,re,hr,q.bnd.mono λws h1 ρ1 H1 x1 hr1 q1 vs rs=>?_⟩;split at q1;exact⟨by rw[<- rs.length];lia,RQ.tup hr1 rs q1⟩;exact q1.elim
theorem LV(h:PA X es (mV X.K EX (bL cf es'))):PE X (.List es pos) (tI X.K EX (af cf (.lst es'))):=(oE h).sub λτ H Q zq=>by obtain⟨ρ,σ,h,re,hr,q⟩:=zq;refine⟨ρ,σ,h,re,hr,q.bnd.mono λws h1 ρ1 H1 x1 hr1 q1 vs rs=>?_⟩;split at q1;exact⟨by rw[<- rs.length];lia,RQ.lst hr1 rs q1⟩;exact q1.elim
theorem IM:PE X (.Dict [] [] pos) (tI X.K EX (af cf .dic0)):=qc.sub λτ H Q zq=>by obtain⟨ρ,σ,h,re,hr,q⟩:=zq;intro p n;exact q ρ _ (ext_new hr n) (hr.ext_new n) _ (⟨p,[],rfl,hr.new n,.inl aI,rfl,.nil⟩)
def iz(e:Expr):Bool:=match e with
 |.Slice ..=>false
 |_=>true
theorem K4(h:iz e=true):vM e:=λo i=>by cases e<;>first|rfl|cases h
theorem CD{K:Fg0}(r:ao K ρ H ws xs)(e:atI ws i=some w):∃v,atI xs i=some v/\Rel K ρ H w v:=by
 unfold atI at e ⊢;rw[<- r.length];cases e1:ixN ws.length i with
 |none=>simp_all
 |some j=>rw[e1]at e;exact r.get e
theorem Hi(hu:X.A.units+64<cLine):MN X (rW X.K EX cU):=by
 intro value slice pins s σ H x y v u Q I rx ry zq14 hs;obtain⟨ρ,h,w1,w2,hr,r1,r2,q⟩:=zq14;unfold cU at q;split at q;rename_i i;cases a7 r2;split at q;rename_i z;cases aG r1;unfold NP at q;split at q;rename_i hz;split at q;rename_i c ec;exact Ib value slice pins s σ H _ _ v u Q I rx ry ⟨z,i,c,rfl,rfl,zf hz zD,ec,RQ.here hr q _ gA⟩ hs;exact q.elim;exact q.elim;split at q;rename_i ws e;split at q;rename_i w e2;obtain⟨a,xs,rfl,hq,rs⟩:=eG hr e r1;obtain⟨z,ez,rz⟩:=CD rs e2;rcases hq with hq|hq;exact DG value slice pins s σ H _ _ v u Q I rx ry ⟨a,xs,i,z,rfl,rfl,hq,ez,RQ.here hr q _ rz⟩ hs;exact Iw value slice pins s σ H _ _ v u Q I rx ry ⟨a,xs,i,z,rfl,rfl,hq,ez,RQ.here hr q _ rz⟩ hs;exact q.elim;exact q.elim;rename_i k;cases aG r2;split at q;rename_i ks ws e;split at q;rename_i w e2;obtain⟨a,xs,rfl,hd,hl,rs⟩:=cy hr e r1;obtain⟨z,ez,rz⟩:=(j8 (x:=k) hl rs).1 w e2;have hdg:oW H a (.str k) (some z):=by rw[<- ez];exact(.inl ⟨_,Sum.inr k,hd,rfl,rfl⟩)
 cases rx;exact tail_any (pZ I hdg) PySem.F.slot_dict_getitem.lookup (xy (zzP zL hu) I hdg ry λw' s' I' rw'=>⟨z,H,I',rw',RQ.here hr q _ rz⟩) hs;exact q.elim;exact q.elim;exact q.elim
theorem Oi(hu:X.A.units+64<cLine)(ha:PE X a (tI X.K EX (af cf a')))(hb:PE X b (tI X.K EX (af cf b')))(hp:iz b=true):PE X (.Subscript a b pos) (tI X.K EX (af cf (.ix a' b'))) :=
 (Kt (Hi hu) ha hb (K4 hp)).sub λτ H Q q=>Ci (by assumption)
theorem Me(ha:PE X a (tI X.K EX (af cf a'))):PE X (.UnaryOp .USub a pos) (tI X.K EX (af cf (.neg a'))):=(Kn JM ha).sub λτ H Q zq=>by obtain⟨ρ,σ,h,re,hr,q⟩:=zq;refine⟨ρ,σ,h,re,hr,q.bnd.mono λw h1 ρ1 H1 x1 hr1 q1 v r=>?_⟩;split at q1;rename_i i;exact⟨i,a7 r,RQ.here hr1 q1 _ bf⟩;exact q1.elim
end
section
variable {X:Cx}{EX:cC}{cf:CF}{fw:Nat}{pos:Pos}{a b c e:Expr}{a' b' c' e':E}
def rB(K:Fg0)(EX:cC)(f:List W->aa->Res W):List V->Hp->VK->Prop:=λxs H Q =>
 ∃ρ h ws,a8 K ρ h H/\ao K ρ H ws xs/\RQ K EX ρ H (f ws h) λw _ ρ' H'=>∀v,Rel K ρ' H' w v->Q v H'
theorem se{K:Fg0}(r:ao K ρ H [w] xs):∃x,xs=[x]/\Rel K ρ H w x:=by obtain⟨y,ys,rfl,r1,r2⟩:=r;rw[ao]at r2;simp_all
theorem Bc{K:Fg0}(r:ao K ρ H [w,w2] xs):∃x y,xs=[x,y]/\Rel K ρ H w x/\Rel K ρ H w2 y:=by obtain⟨y,ys,rfl,r1,r2⟩:=r;obtain⟨z,rfl,r3⟩:=se r2;exact⟨y,z,rfl,r1,r3⟩
theorem gJ{fv:Value}(k:∀(pins:List (Addr×Obj)) (s:Shared) (σ:L2.St) (H:Hp) (x:V) (u:Value) (Q:VK) (ρ:List Addr) (h:aa) (w:W),Inv X pins σ H s->RelV x u->a8 X.K ρ h H->Rel X.K ρ H w x ->
  RQ X.K EX ρ H (f w h) (λw _ ρ' H'=>∀v,Rel X.K ρ' H' w v->Q v H')->wpAny (model X.prog X.w) X.A (call fv [u]) (EP X pins σ Q) X.xe s):bx X fv (rB X.K EX (qQ f)):=by
 intro pins s σ H xs us Q I r zq9
 obtain⟨ρ,h,ws,hr,rl,q⟩:=zq9
 match ws,rl,q with
 |[w],rl,q =>
  obtain⟨x,rfl,rx⟩:=se rl
  obtain⟨u,rfl,ru⟩:=r.one
  exact k pins s σ H x u Q ρ h w I ru hr rx q
 |[],rl,q=>exact q.elim
 |_::_::_,rl,q=>exact q.elim
theorem Jo:bx X (.builtin "len") (rB X.K EX (bK .len)):=gJ λpins s σ H x u Q ρ h w I ru hr rx q=>by
 unfold mW at q;cases e:seqA h w with
 |some us'=>rw[e]at q;obtain⟨p,ys,rfl,hq,rs⟩:=eG hr e rx;exact pq pins s σ H _ _ Q I (.cons ru .nil) ⟨p,ys,rfl,hq,RQ.here hr q _ (by rw[rs.length];exact bf)⟩
 |none=>
  rw[e]at q;cases e2:bH h w with
  |some kw=>obtain⟨ks,us'⟩:=kw;rw[e2]at q;obtain⟨p,ys,rfl,hd,hl,rs⟩:=cy hr e2 rx;cases ru;exact L7 I hd λt s' I'=>⟨.int _,H,I',⟨t,rfl⟩,RQ.here hr q _ (by rw[List.length_zip,zj,<- hl,Nat.min_self];exact bf)⟩
  |none=>
   rw[e2]at q;cases w with
   |str z=>cases aG rx;dsimp only at q;split at q;rename_i hz;exact pC pins s σ H _ _ Q I (.cons ru .nil) ⟨z,rfl,zf hz (by rw[Zq];decide),RQ.here hr q _ bf⟩;exact q.elim
   |_=>exact q.elim
theorem DS:bx X (.type "list") (rB X.K EX (bK .list)):=gJ λpins s σ H x u Q ρ h w I ru hr rx q=>by
 unfold vY at q;cases e:seqA h w with
 |some us'=>rw[e]at q;obtain⟨p,ys,rfl,hq,rs⟩:=eG hr e rx;exact iZ pins s σ H _ _ Q I (.cons ru .nil) ⟨p,ys,rfl,hq,RQ.lst hr rs q⟩
 |none=>rw[e]at q;exact q.elim
theorem BS:bx X (.type "tuple") (rB X.K EX (bK .tuple)):=gJ λpins s σ H x u Q ρ h w I ru hr rx q=>by
 unfold pv at q;cases e1:hZ w with
 |some us2=>
  cases w with
  |tup ws'=>have rx':=rx;obtain⟨p,ys,rfl,hq,rs⟩:=rx';exact iC pins s σ H _ _ Q I (.cons ru .nil) ⟨p,ys,rfl,.inr ⟨hq.sq,RQ.here hr q _ rx⟩⟩
  |_=>cases e1
 |none=>
  cases e:seqA h w with
  |some us'=>rw[e]at q;unfold seqA at e;rw[e1]at e;obtain⟨p,ys,rfl,hq,rs⟩:=ia hr e rx;exact iC pins s σ H _ _ Q I (.cons ru .nil) ⟨p,ys,rfl,.inl ⟨hq,RQ.tup hr rs q⟩⟩
  |none=>rw[e]at q;exact q.elim
theorem yR{f:Int->Int->Int}{K:Fg0}{Q:VK}(hr:a8 K ρ h H)(rl:ao K ρ H ws xs)(q:RQ K EX ρ H (Nt f ws h) λw _ ρ' H'=>∀v,Rel K ρ' H' w v->Q v H'):∃i j,xs=[.int i,.int j]/\Q (.int (f i j)) H:=by
 match ws,rl,q with
 |[x,y],rl,q =>
  obtain⟨a,b,rfl,rx,ry⟩:=Bc rl
  cases x with
  |int i =>
   cases y with
   |int j =>
    cases a7 rx;cases a7 ry
    exact⟨i,j,rfl,RQ.here hr q _ bf⟩
   |_=>exact q.elim
  |_=>exact q.elim
 |[],rl,q=>exact q.elim
 |[_],rl,q=>exact q.elim
 |_::_::_::_,rl,q=>exact q.elim
theorem JL(hc:X.calm=true):bx X (.builtin "max") (rB X.K EX (bK .max)):=λpins s σ H xs us Q I r zq=>by obtain⟨ρ,h,ws,hr,rl,q⟩:=zq;exact wA hc pins s σ H _ us Q I r (yR hr rl q)
theorem G5(hc:X.calm=true):bx X (.builtin "min") (rB X.K EX (bK .min)):=λpins s σ H xs us Q I r zq=>by obtain⟨ρ,h,ws,hr,rl,q⟩:=zq;exact xC hc pins s σ H _ us Q I r (yR hr rl q)
theorem IA:bx X (.type "int") (rB X.K EX (bK .int)):=gJ λpins s σ H x u Q ρ h w I ru hr rx q=>by
 cases w with
 |int i=>cases a7 rx;exact nH pins s σ H _ _ Q I (.cons ru .nil) (.inl ⟨i,rfl,RQ.here hr q _ bf⟩)
 |bl i=>cases bW rx;exact nH pins s σ H _ _ Q I (.cons ru .nil) (.inr ⟨i,rfl,RQ.here hr q _ bf⟩)
 |_=>exact q.elim
theorem EG:bx X (.type "dict") (rB X.K EX (bK .dict)):=gJ λpins s σ H x u Q ρ h w I ru hr rx q=>by
 unfold vt at q;cases e:bH h w with
 |some kw=>rw[e]at q;obtain⟨p,ys,rfl,hd,hl,rs⟩:=cy hr e rx;cases ru;exact qW I hd λp' s' n I'=>⟨.ref p',_,I',rfl,(q ρ _ (ext_new hr n) (hr.ext_new n) _ (⟨p',ys,rfl,hr.new n,.inl aI,hl,ao.ext (ext_new hr n) _ _ rs⟩))⟩
 |none=>rw[e]at q;exact q.elim
section
variable {α:Type}{lt:α->α->Bool}
theorem jQ(x:α):∀l,(t7 lt x l).Perm (x::l)
 |[]=>.refl _
 |y::ys=>by unfold t7;split;exact((jQ x ys).cons y).trans (.swap x y ys);rfl
theorem bS:∀l:List α,(mU lt l).Perm l
 |[]=>.refl _
 |x::xs=>(jQ x _).trans ((bS xs).cons x)
def gS(lt:α->α->Bool)(l:List α):Prop:=l.Pairwise λa b=>lt b a=false
theorem oi(tr:∀a b c,lt a b=false->lt b c=false->lt a c=false)(as:∀a b,lt a b=true->lt b a=false)(x:α):∀l,gS lt l->gS lt (t7 lt x l)
 |[],_=>by simp[t7,gS]
 |y::ys,h=>by
  unfold gS at h
  rw[Z5]at h
  unfold t7
  split
  ·rename_i hl
   unfold gS
   rw[Z5]
   refine⟨λz hz=>?_,oi tr as x ys h.2⟩
   rcases zV.mp ((jQ x ys).mem_iff.mp hz) with e|hz
   ·subst e;exact as _ _ hl
   ·exact h.1 z hz
  ·rename_i hl
   unfold gS
   rw[Z5,Z5]
   grind
theorem iw(tr:∀a b c,lt a b=false->lt b c=false->lt a c=false)(as:∀a b,lt a b=true->lt b a=false):∀l,gS lt (mU lt l)
 |[]=>by simp[mU,gS]
 |x::xs=>oi tr as x _ (iw tr as xs)
theorem jL(an:∀a b,lt a b=false->lt b a=false->a=b):∀{l k:List α},gS lt l->gS lt k->l.Perm k->l=k
 |[],k,_,_,p=>p.nil_eq
 |x::l,[],_,_,p=>by simp_all
 |x::l,y::k,hl,hk,p=>by
  unfold gS at hl hk
  rw[Z5]at hl hk
  have e:x=y:=by
   have h1:x∈y::k:=p.mem_iff.mp zQ
   have h2 :=p.mem_iff.mpr zQ
   grind
  subst e
  rw[jL an hl.2 hk.2 (List.perm_cons x |>.mp p)]
end
theorem tR(a b)(h:i9 a b=true):i9 b a=false:=by
 unfold i9 at *
 grind
theorem ot(a b c)(h:i9 a b=false)(k:i9 b c=false):i9 a c=false:=by
 unfold i9 at *
 grind
theorem yQ(a b)(h:i9 a b=false)(k:i9 b a=false):a=b:=by have h1:=of_decide_eq_false h;have k1:=of_decide_eq_false k;have e:=List.le_antisymm (List.not_lt.mp k1) (List.not_lt.mp h1);cases a;simp_all
theorem Iy:∀{l:List Str},sortedS l=true->gS i9 l:=by
 have tr:∀(p:Str) (l:List Str),risingS p l=true->(∀x∈l,i9 x p=false)/\gS i9 l:=by
  intro p l;induction l generalizing p with
  |nil=>exact λ_=>⟨zS,by simp[gS]⟩
  |cons x r ih=>
   intro h;have h':(!ltCps x.cps.toList p.cps.toList&&risingS x r)=true:=h;rw[zI,ltCps_eq]at h';have hx:i9 x p=false:=by unfold i9;simpa using h'.1
   obtain⟨i1,i2⟩:=ih x h'.2;refine⟨λz hz=>?_,?_⟩;rcases zV.mp hz with e|hz;subst e;exact hx;exact ot _ _ _ (i1 z hz) hx;unfold gS;rw[Z5];exact⟨i1,i2⟩
 intro l h;cases l with
 |nil=>simp[gS]
 |cons x r=>obtain⟨i1,i2⟩:=tr x r h;unfold gS;rw[Z5];exact⟨i1,i2⟩
theorem rD{K:Fg0}:∀{ws:List W}{ss:List Str}{xs:List V},cY ws=some ss->ao K ρ H ws xs->xs=ss.map V.str
 |[],ss,xs,e,r=>by cases e;exact r
 |w::ws,ss,xs,e,r=>by
  obtain⟨y,ys,rfl,r1,r2⟩:=r;cases w with
  |str s=>
   have e':(cY ws).map (s::·)=some ss:=e;cases e1:cY ws with
   |none=>simp_all
   |some ts=>rw[e1]at e';cases e';rw[aG r1,rD e1 r2];rfl
  |_=>cases e
theorem jI:∀{ss:List Str}{us:List Value},Vals (ss.map V.str) us->StrsAre us ss
 |[],us,h=>by cases h;exact .nil
 |s::ss,us,h=>by
  cases h with
  |cons r rs=>obtain⟨t,rfl⟩:=r;exact .cons s t (jI rs)
theorem nc:∀{ss:List Str}{us:List Value},StrsAre us ss->Vals (ss.map V.str) us
 |[],us,h=>by cases h;exact .nil
 |s::ss,us,h=>by
  cases h with
  |cons _ t rs=>exact .cons ⟨t,rfl⟩ (nc rs)
theorem rK{K:Fg0}:∀ss:List Str,ao K ρ H (ss.map W.str) (ss.map V.str)
 |[]=>.nil
 |s::ss=>.cons gA (rK ss)
theorem nE{K:Fg0}:∀{ws:List W}{bs:List Bool}{xs:List V},gb ws=some bs->ao K ρ H ws xs->xs=bs.map V.bl
 |[],bs,xs,e,r=>by cases e;exact r
 |w::ws,bs,xs,e,r=>by
  obtain⟨y,ys,rfl,r1,r2⟩:=r;cases w with
  |bl s=>obtain⟨ts,e1,rfl⟩:=Zk.mp (e);rw[bW r1,nE e1 r2];rfl
  |_=>cases e
theorem u9{pins:List (Addr×Obj)}{σ:L2.St}{H:Hp}{s:Shared}{ρ:List Addr}{h:aa}{w:W}{x:V}{ss:List Str}(I:Inv X pins σ H s)(hr:a8 X.K ρ h H)(rx:Rel X.K ρ H w x)(e:(seqA h w).bind cY=some ss) :
  ∃p T o n its,x=.ref p/\(T="list"\/T="tuple")/\s.heap.get? p=some o/\o.cls=.type T/\o.data=.seq its.toArray n/\StrsAre its ss/\its.length=ss.length:=by
 obtain⟨us',e1,e2⟩:=obs e
 obtain⟨p,ys,rfl,hq,rs⟩:=eG hr e1 rx
 have ey:=rD e2 rs
 subst ey
 rcases hq with hq|hq
 ·obtain⟨its,rv,⟨o,n,ho,hc,_,hd⟩,hz⟩:=I.list hq
  exact⟨p,"list",o,n,its,rfl,.inl rfl,ho,hc,hd,jI rv,by rw[<- rv.length,zj]⟩
 ·obtain⟨its,rv,⟨o,ho,hc,n,hd⟩,hz⟩:=I.tuple hq
  exact⟨p,"tuple",o,n,its,rfl,.inr rfl,ho,hc,hd,jI rv,by rw[<- rv.length,zj]⟩
theorem xw:bx X (.builtin "sorted") (rB X.K EX (bK .sorted)):=gJ λpins s σ H x u Q ρ h w I ru hr rx q=>by unfold v7 at q;split at q;rename_i ss e;split at q;obtain⟨p,T,o,n,its,rfl,hT,ho,hc,hd,hS,hl⟩:=u9 I hr rx e;cases ru;refine Bn ho hc hT hd hS (by simp_all) λout ss' a1 a2 a3=>?_;obtain⟨ep,he⟩:=sortedAll_at s.heap its out;have e' :=jL yQ (Iy a3) (iw ot tR ss) (a2.trans (bS ss).symm);subst e';refine⟨.ref (s.heap.objs.size+1),_,I.laid  (o:=.lst ((mU i9 ss).map V.str)) (λ_ _ e=>sortedAll_old e) (ZS _) ⟨?_,out.toList,ep,nc a1,he⟩,rfl,RQ.lst hr (rK _) q _ (I.hok.fresh (ZS _))⟩;rw[zj,(bS ss).length_eq,Zq];lia;exact q.elim;exact q.elim
theorem vy:∀{bs:List Bool}{us:List Value},Vals (bs.map V.bl) us->∀{i:Nat}{v:Value},us[i]?=some v->v=.bool (bs.getD i false)
 |[],us,h,i,v,e=>by cases h;simp_all
 |b::bs,us,h,i,v,e=>by
  cases h with
  |cons r rs=>
   cases i with
   |zero=>cases r;simp_all
   |succ i=>exact vy rs  (by simp_all)
theorem nT(bs:List Bool):(List.range bs.length).all (λi=>bs.getD i false)=bs.all id/\(List.range bs.length).any (λi=>bs.getD i false)=bs.any id:=by
 have e:(List.range bs.length).map (λi=>bs.getD i false)=bs:=by refine List.ext_getElem zS λi h1 h2=>?_;simp_all
 have a1:=List.all_map (l:=List.range bs.length) (f:=λi=>bs.getD i false) (p:=id);have a2:=List.any_map (l:=List.range bs.length) (f:=λi=>bs.getD i false) (p:=id);simp_all
theorem mH{pins : List (Addr×Obj)}{σ : L2.St}{H : Hp}{s : Shared}{ρ : List Addr}{h : aa}{w : W}{x : V}{u : Value}{bs : List Bool}{A : Around}{E : Value -> Shared -> Prop}(hh : A.handled = none)(I : Inv X pins σ H s)(hr : a8 X.K ρ h H)(rx : Rel X.K ρ H w x)(ru : RelV x u)(e : (bN h w).bind gb = some bs) : wpAny (model X.prog X.w) A (pyIter u) (λit s2 => ∃I0 fp wr n P St tr, it = .ref I0 /\ Walks X.prog X.w A I0 fp wr n P St /\ St 0 s2.heap /\ TruthOf X.prog X.w A P tr /\ n = bs.length /\ (∀i, tr i = bs.getD i false) /\
   ∀h' tk,(∀b o,b∉wr->s2.heap.get? b=some o->h'.get? b=some o)->Inv X pins σ H { s2 with heap:=h',toks:=tk }) E s:=by
 obtain⟨us',e1,e2⟩:=obs e
 obtain⟨p,ys,rfl,hq,rs⟩:=cm hr e1 rx
 have ey:=nE e2 rs
 subst ey
 cases ru
 obtain⟨its,rv,⟨o,n,ho,hc,_,hd⟩,hz⟩:=I.list (.inl (.inl hq))
 have hL:s.heap.IsList p its.toArray:=⟨o,ho,hc,n,hd⟩
 have hlt:p<s.heap.objs.size:=zN ho
 refine zz4 hL ⟨_,_,_,_,_,_,λi=>bs.getD i false,rfl,Walks.list hh _ p (zW hlt) its.toArray,⟨⟨_,zA _ rfl,rfl,rfl⟩,hL.push _⟩,?_,?_,λ_=>rfl,λh' tk hk=>?_⟩
 ·intro i v s Q E hP hQ
  have :=vy rv (by simpa using hP)
  subst this
  exact ZR hQ
 ·rw[<- zj (f:=V.bl),rv.length];simp
 ·refine I.kept λb ob eb=>hk b ob ?_ (hps0 _ eb)
  simp only[zT]
  exact zW (zN eb)
theorem JX(hc:X.calm=true):bx X (.builtin "all") (rB X.K EX (bK .all)):=gJ λpins s σ H x u Q ρ h w I ru hr rx q=>by unfold D7 at q;split at q;rename_i bs e;refine call_all_walk (ZL (mH (by simpa using I.ok.hd hc) I hr rx ru e) (λit s2 zq=>?_) λ_ _ z=>z);obtain⟨I0,fp,wr,n,P,S0,tr,e1,W,st,t,e2,e3,k⟩:=zq;refine⟨I0,fp,wr,n,P,S0,tr,e1,W,st,t,λh' tk hk=>?_⟩;have e4 :=funext e3;rw[e2,e4,(nT bs).1];exact⟨.bl _,H,k h' tk hk,rfl,RQ.here hr q _ bA⟩;exact q.elim
theorem IJ(hc:X.calm=true):bx X (.builtin "any") (rB X.K EX (bK .any)):=gJ λpins s σ H x u Q ρ h w I ru hr rx q=>by unfold D7 at q;split at q;rename_i bs e;refine call_any_walk (ZL (mH (by simpa using I.ok.hd hc) I hr rx ru e) (λit s2 zq=>?_) λ_ _ z=>z);obtain⟨I0,fp,wr,n,P,S0,tr,e1,W,st,t,e2,e3,k⟩:=zq;refine⟨I0,fp,wr,n,P,S0,tr,e1,W,st,t,λh' tk hk=>?_⟩;have e4 :=funext e3;rw[e2,e4,(nT bs).2];exact⟨.bl _,H,k h' tk hk,rfl,RQ.here hr q _ bA⟩;exact q.elim
noncomputable def lj:Bl->Str
 |.len=>"len"|.list=>"list"|.tuple=>"tuple"|.max=>"max"|.min=>"min"|.int=>"int"|.sorted=>"sorted"|.dict=>"dict"|.all=>"all"|.any=>"any"
theorem fD:∀{es:List Expr} (h:es.all az=true) (pos:Pos) (env:Env),(backTo pos (starEach es env)).any (·.1)=false
 |[],_,_,_=>rfl
 |e::es,h,pos,env=>by rw[ZO,zI]at h;rw[au h.1];have:=fD h.2 pos env;simpa [backTo] using this
theorem Lv(hc:X.calm=true)(hg:Gl X (lj bb))(hm:X.mg (lj bb)=none)(ha:PA X (e::es) (mV X.K EX (bL cf es')))(hs:(e::es).all az=true) :
  PE X (.Call (.Name (lj bb) p) (e::es) [] pos) (tI X.K EX (af cf (.blt bb es'))):=by
 have hs':=hs
 rw[ZO,zI]at hs'
 have h1:=au hs'.1 es X.env
 have h2:=fD hs'.2 pos X.env
 have key:∀τ H Q,tI X.K EX (af cf (.blt bb es')) τ H Q->O9 (rB X.K EX (bK bb)) (mV X.K EX (bL cf es')) τ H Q:=λτ H Q zq=>by obtain⟨ρ,σ,h,re,hr,q⟩:=zq;rw[af]at q;exact⟨ρ,σ,h,re,hr,q.bnd.mono λws h1 ρ1 H1 x1 hr1 q1 vs rs=>⟨ρ1,h1,ws,hr1,rs,q1⟩⟩
 cases bb with
 |len=>exact(cG Jo hg hm PySem.boot_len ha (by decide +kernel) (by decide +kernel) h1 h2).sub key
 |list=>exact(bR DS hg hm zzR ha (by decide +kernel) (by decide +kernel) h1 h2).sub key
 |tuple=>exact(bR BS hg hm PyProof.Rows.boot_tuple ha (by decide +kernel) (by decide +kernel) h1 h2).sub key
 |max=>exact(cG (JL hc) hg hm PyProof.Rows.boot_max ha (by decide +kernel) (by decide +kernel) h1 h2).sub key
 |min=>exact(cG (G5 hc) hg hm PyProof.Rows.boot_min ha (by decide +kernel) (by decide +kernel) h1 h2).sub key
 |int=>exact(bR IA hg hm PyProof.Rows.boot_int ha (by decide +kernel) (by decide +kernel) h1 h2).sub key
 |dict=>exact(bR EG hg hm (by decide +kernel) ha (by decide +kernel) (by decide +kernel) h1 h2).sub key
 |sorted=>exact(cG xw hg hm PyProof.Rows.boot_sorted ha (by decide +kernel) (by decide +kernel) h1 h2).sub key
 |all=>exact(cG (JX hc) hg hm PyProof.Rows.boot_all ha (by decide +kernel) (by decide +kernel) h1 h2).sub key
 |any=>exact(cG (IJ hc) hg hm PyProof.Rows.boot_any ha (by decide +kernel) (by decide +kernel) h1 h2).sub key
abbrev yO(X:Cx)(ss:List Str)(p:Addr):HO:=.ext λh=>h.SetOf (PySem.strKind X.prog X.w) p (λy=>decide (y∈ss)) (k7 ss).length
theorem Hz(hc:X.calm=true):bx X (.type "set") (λxs H Q=>∃ρ h w x ss,xs=[x]/\a8 X.K ρ h H/\Rel X.K ρ H w x/\(seqA h w).bind cY=some ss/\ss.length<64/\∀q,H q=none->Q (.ref q) (aY H q (yO X ss q))):=by
 intro pins s σ H xs us Q I r zq9;obtain⟨ρ,h,w,x,ss,e0,hr,rx,e,h64,q⟩:=zq9;subst e0;obtain⟨u,rfl,ru⟩:=r.one;obtain⟨p,T,o,n,its,rfl,hT,ho,hcl,hd,hS,hl⟩:=u9 I hr rx e;cases ru
 have fin:∀(h':Heap) (tk:Nat),h'.SetOf (PySem.strKind X.prog X.w) s.heap.objs.size (λy=>decide (y∈ss)) (k7 ss).length->(∀b o,b<s.heap.objs.size->s.heap.get? b=some o->h'.get? b=some o)->EP X pins σ Q (.ref s.heap.objs.size) { s with heap:=h',toks:=tk }:=λh' tk hS' k =>
  ⟨.ref s.heap.objs.size,_,I.laid (o:=yO X ss s.heap.objs.size) (λb o e=>k b o (zN e) e) (zC _) ⟨hS',(by obtain⟨o,_,_,_,z,_⟩:=hS';exact⟨o,z⟩),λh1 h2 z k2=>(by obtain⟨o,es,ep,t,z,cT⟩:=z;exact⟨o,es,ep,t,k2 _ z,cT⟩)⟩,rfl,q _ (I.hok.fresh (zC _))⟩
 have hb:its.length+1<scanBound:=by unfold scanBound;lia
 rcases hT with rfl|rfl
 exact rQ  (St:=λI0 i h=>h.IsListIter I0 p i/\h.IsList p its.toArray) (I.ok.hd hc) ho hcl (.inl rfl) hd hS hb rfl (λA' s1 R F e k=>zz4 ⟨o,e,hcl,n,hd⟩ k)
  (λA' I0 h1 h2=>by simpa using Walks.list (prog:=X.prog) (w:=X.w) h1 I0 p h2 its.toArray) (λI0 h e1 e2=>⟨⟨_,e1,rfl,rfl⟩,o,e2,hcl,n,hd⟩) fin
 exact rQ  (St:=λI0 i h=>h.IsTupleIter I0 p i/\h.IsTuple p its.toArray) (I.ok.hd hc) ho hcl (.inr rfl) hd hS hb rfl (λA' s1 R F e k=>wpAny_pyIter_tuple ⟨o,e,hcl,n,hd⟩ k)
  (λA' I0 h1 h2=>by simpa using Walks.tuple (prog:=X.prog) (w:=X.w) h1 I0 p h2 its.toArray) (λI0 h e1 e2=>⟨⟨_,e1,rfl,rfl⟩,o,e2,hcl,n,hd⟩) fin
theorem wI:bx X (.builtin "len") (λxs H Q=>∃p ss,xs=[.ref p]/\ss.length<64/\H p=some (yO X ss p)/\Q (.int (k7 ss).length) H):=by
 intro pins s σ H xs us Q I r zq9;obtain⟨p,ss,e0,h64,hp,q⟩:=zq9;subst e0;obtain⟨u,rfl,ru⟩:=r.one;cases ru;obtain⟨⟨o,es,ep,t,ho,hex,hd,hel,hmem,hb,hf,hn⟩,_⟩:=I.hok p _ hp;have:=oJ ss;have e:((es.size))=((k7 ss).length):=by rw[hn]
 refine call_len_set ho hex hd hf zL ?_;rw[e];exact⟨.int _,H,I.tok _,⟨_,rfl⟩,q⟩
theorem Jy(hc:X.calm=true)(hg:Gl X "len")(hm:X.mg "len"=none)(hg2:Gl X "set")(hm2:X.mg "set"=none)(ha:PE X a (tI X.K EX (af cf a')))(hs:az a=true) :
  PE X (.Call (.Name "len" p) [.Call (.Name "set" p2) [a] [] p3] [] pos) (tI X.K EX (af cf (.slen a'))):=by
 have h1:=bR (p:=p2) (pos:=p3) (Hz hc) hg2 hm2 (by decide +kernel) (aM ha bF (au hs _ _)) (by decide +kernel) (by decide +kernel) (au hs _ _) (by rfl)
 refine(cG wI hg hm PySem.boot_len (aM h1 bF (by rfl)) (by decide +kernel) (by decide +kernel) (by rfl) (by rfl)).sub λτ H Q zq=>?_
 obtain⟨ρ,σ,h,re,hr,q⟩:=zq
 refine⟨ρ,σ,h,re,hr,q.bnd.mono λw h1 ρ1 H1 x1 hr1 q1 v r=>?_⟩
 split at q1
 ·rename_i ss e
  split at q1
  ·rename_i h64
   exact⟨ρ1,h1,w,v,ss,rfl,hr1,r,e,h64,λq hq=>⟨q,ss,rfl,h64,aI,q1 _ _ (ext_new hr1 hq) (hr1.ext_new hq) _ bf⟩⟩
  ·exact q1.elim
 ·exact q1.elim
def aN:Ty->String
 |.int=>"int"|.bool=>"bool"|.str=>"str"|.tuple=>"tuple"|.list=>"list"
def Fx(K:Fg0)(H:Hp)(x:V)(t:Ty)(k:Bool):Prop:=match x with
 |.int _=>k=decide (t=.int)
 |.bl _=>k=(decide (t=.int)||decide (t=.bool))
 |.str _=>k=decide (t=.str)
 |.ref a=>((∃xs,iT K H a xs)/\k=decide (t=.list))\/((∃xs,kq K H a xs)/\k=decide (t=.tuple))
 |_=>False
theorem yu{K:Fg0}(hr:a8 K ρ h H)(e:bz h w t=some k)(r:Rel K ρ H w v):Fx K H v t k:=by
 cases w with
 |int i=>cases a7 r;cases e;rfl
 |bl i=>cases bW r;cases e;rfl
 |str i=>cases aG r;cases e;rfl
 |tup ws=>cases e;rw[Rel]at r;obtain⟨a,xs,rfl,q,_⟩:=r;exact .inr ⟨⟨xs,q.sq⟩,rfl⟩
 |lst ws=>cases e;rw[Rel]at r;obtain⟨a,xs,rfl,_,q,_⟩:=r;exact .inl ⟨⟨xs,.inl (.inl q)⟩,rfl⟩
 |scr ws=>cases e;rw[Rel]at r;obtain⟨a,xs,rfl,q,_⟩:=r;exact .inl ⟨⟨xs,q.sq⟩,rfl⟩
 |ref n=>
  have e':(match h[n]? with|some (.lst _)=>some (decide (t=.list))|_=>none)=some k:=e;split at e'<;>try (cases e';done)
  rename_i us e3;cases e';obtain⟨a,xs,rfl,q,_⟩:=ia (w:=.ref n) (ws:=us) hr (by show(match h[n]? with|some (.lst ws)=>some ws|_=>none)=some us;rw[e3]) r;exact .inl ⟨⟨xs,q⟩,rfl⟩
 |_=>cases e
theorem HD:bx X (.builtin "isinstance") (λxs H Q=>∃x t k,xs=[x,.ty (aN t)]/\Fx X.K H x t k/\Q (.bl k) H):=by
 intro pins s σ H xs us Q I r zq9;obtain⟨x,t,k,e,hk,q⟩:=zq9;subst e;obtain⟨u,w',rfl,rx,ry⟩:=vH r;have ry':w'=Value.type (aN t):=ry;subst ry';have fin:∀tk,EP X pins σ Q (.bool k) { s with toks:=tk }:=λtk=>⟨.bl k,H,I.tok _,rfl,q⟩;have fin0:EP X pins σ Q (.bool k) s:=⟨.bl k,H,I,rfl,q⟩;cases x with
 |int i=>
  obtain⟨tk,rfl⟩:=rx;have e:k=decide (t=.int):=hk;subst e;cases t with
  |int=>exact PySem.IsiPair.int_int fin0
  |bool=>exact PySem.IsiPair.int_bool (fin _)
  |str=>exact PySem.IsiPair.int_str (fin _)
  |tuple=>exact PySem.IsiPair.int_tuple (fin _)
  |list=>exact PySem.IsiPair.int_list (fin _)
 |bl i=>
  cases rx;have e:k=(decide (t=.int)||decide (t=.bool)):=hk;subst e;cases t with
  |int=>exact PySem.IsiPair.bool_int fin0
  |bool=>exact PySem.IsiPair.bool_bool fin0
  |str=>exact PySem.IsiPair.bool_str (fin _)
  |tuple=>exact PySem.IsiPair.bool_tuple (fin _)
  |list=>exact PySem.IsiPair.bool_list (fin _)
 |str i=>
  obtain⟨tk,rfl⟩:=rx;have e:k=decide (t=.str):=hk;subst e;cases t with
  |int=>exact PySem.IsiPair.str_int (fin _)
  |bool=>exact PySem.IsiPair.str_bool (fin _)
  |str=>exact PySem.IsiPair.str_str fin0
  |tuple=>exact PySem.IsiPair.str_tuple (fin _)
  |list=>exact PySem.IsiPair.str_list (fin _)
 |ref p=>
  cases rx;have hk':((∃xs,iT X.K H p xs)/\k=decide (t=.list))\/((∃xs,kq X.K H p xs)/\k=decide (t=.tuple)):=hk;rcases hk' with⟨⟨xs,hq⟩,e⟩|⟨⟨xs,hq⟩,e⟩;subst e;obtain⟨its,_,⟨o,n,ho,hc,_⟩,_⟩:=I.list hq;cases t with
  |int=>exact PySem.IsiPair.list_int ho hc (fin _)
  |bool=>exact PySem.IsiPair.list_bool ho hc (fin _)
  |str=>exact PySem.IsiPair.list_str ho hc (fin _)
  |tuple=>exact PySem.IsiPair.list_tuple ho hc (fin _)
  |list=>exact PySem.IsiPair.list_list ho hc fin0
  subst e;obtain⟨its,_,⟨o,ho,hc,_⟩,_⟩:=I.tuple hq;cases t with
  |int=>exact PySem.IsiPair.tuple_int ho hc (fin _)
  |bool=>exact PySem.IsiPair.tuple_bool ho hc (fin _)
  |str=>exact PySem.IsiPair.tuple_str ho hc (fin _)
  |tuple=>exact PySem.IsiPair.tuple_tuple ho hc fin0
  |list=>exact PySem.IsiPair.tuple_list ho hc (fin _)
 |_=>exact(show False from hk).elim
theorem vj:∀t,bootBuiltins (Str.ofString (aN t))=some (.type (aN t))
 |.int=>rfl
 |.bool=>rfl
 |.str=>rfl
 |.tuple=>rfl
 |.list=>rfl
theorem Mm{t:Ty}(hg:Gl X "isinstance")(hm:X.mg "isinstance"=none)(hg2:Gl X (Str.ofString (aN t)))(hm2:X.mg (Str.ofString (aN t))=none)(ha:PE X a (tI X.K EX (af cf a')))(hs:az a=true) :
  PE X (.Call (.Name "isinstance" p) [a,.Name (Str.ofString (aN t)) p2] [] pos) (tI X.K EX (af cf (.isi a' [t]))):=by
 have hty:PE X (.Name (Str.ofString (aN t)) p2) (tC (.ty (aN t))):=vF hg2 hm2 (vj t) rfl (by cases t<;>decide +kernel) (by cases t<;>decide +kernel)
 refine(cG HD hg hm zzX (aM ha (aM hty bF (by rfl)) (au hs _ _)) (by decide +kernel) (rfl) (au hs _ _) (by rfl)).sub λτ H Q zq=>?_
 obtain⟨ρ,σ,h,re,hr,q⟩:=zq
 refine⟨ρ,σ,h,re,hr,q.bnd.mono λw h1 ρ1 H1 x1 hr1 q1 v r=>?_⟩
 cases e:bz h1 w t with
 |none=>simp[e]at q1;exact q1.elim
 |some k =>
  have q2 :=by simpa [e] using q1
  exact⟨v,t,k,rfl,yu hr1 e r,RQ.here hr1 q2 _ bA⟩
end
def Kh(z:Str):L2.It:=⟨λi _=>i<z.cps.size,λi H x H'=>H'=H/\∃c,z.cps[i]?=some c/\x=.str ⟨#[c]⟩,λi _=>i=z.cps.size⟩
theorem qt{P:Program}{w:World}{K:Fg0}{tg:Expr}{z:Str}{t:Tok}{T:String}(it:Addr)(hn:["enumerate","zip","dict_itemiterator","dict_reverseitemiterator","odict_iterator","itertools.zip_longest","itertools.pairwise"].contains T=false)
  (W:∀A':Around,A'.handled=none->Walks P w A' it [it] [it] z.cps.size (SignAt z) (λi h=>h.IsStrIter it T z t i)) (hself:∀(A:Around) (i:Nat) (s:Shared) (Q:Value->Shared->Prop) (E:Value->Shared->Prop),s.heap.IsStrIter it T z t i->Q (.ref it) s->wpAny (model P w) A (pyIter (.ref it)) Q E s):Turn P w K tg (Kh z) [it] it (λi h=>h.IsStrIter it T z t i) where
 mem:=zS
 obj:=λi h st b hb=>by
  obtain rfl:b=it:=by simpa using hb
  obtain⟨o,e,c,d⟩:=st;exact⟨o,e,λv z=>by rw[d]at z;cases z⟩
 keep:=λi h h' st k=>by obtain⟨o,e,r⟩:=st;exact⟨o,k it zS o e,r⟩
 item:=by intro X hP hw hK hc i pins s σ H E I hf st hg;subst hP hw hK;obtain⟨f0,f1,f2,f3,f4,f5⟩:=hf it zS;refine(W X.A (I.ok.hd hc)).item i s _ _ hg st λv h' tk hP st' kk=>?_;obtain⟨c,u,e1,rfl⟩:=hP;have I1:Inv X pins σ H { s with heap:=h',toks:=tk }:=I.turned (λb o hb e=>kk b o (by simpa using hb) e) f0 f1 f3 f4 f5;obtain⟨o,e,c2,d⟩:=id st';exact⟨_,rfl,qv (s:={ s with heap:=h',toks:=tk }) e c2 d hn ⟨.str ⟨#[c]⟩,H,I1,⟨u,rfl⟩,⟨rfl,c,e1,rfl⟩,st',λb hb=>(hf b hb).1⟩⟩
 done:=by intro X hP hw hK hc i pins s σ H E I hf st hg;subst hP hw hK;obtain⟨f0,f1,f2,f3,f4,f5⟩:=hf it zS;cases (show i=z.cps.size from hg);exact(W X.A (I.ok.hd hc)).done s _ _ st λh' tk kk=>⟨rfl,I.turned (λb o hb e=>kk b o (by simpa using hb) e) f0 f1 f3 f4 f5⟩
 self:=λA i s Q E st h=>hself A i s Q E st h
theorem Ic{X:Cx}{tg:Expr}{pins:List (Addr×Obj)}{σ:L2.St}{H:Hp}{s:Shared}{R:L2.It->Hp->Prop}{E:Value->Shared->Prop}{z:Str}{t:Tok}(I:Inv X pins σ H s)(q:R (Kh z) H):wpAny (model X.prog X.w) X.A (pyIter (.str z t)) (NK X pins σ tg R) E s:=by
 have fp:∀b∈[s.heap.objs.size],jg X pins H b:=λb hb=>by
  obtain rfl:b=s.heap.objs.size:=by simpa using hb
  exact I.fpOk (zC _) (I.hok.fresh (zC _))
 cases ha:z.cps.all (·<128);exact wpAny_pyIter_wide ha ⟨s.heap.objs.size,[s.heap.objs.size],_,_,H,rfl,I.kept  λb o e=>hps0 _ e,qt (t:=t) _ zD (λA' hA=>Walks.strWide hA _ z t) (λA i s Q E st h=>wpAny_pyIter_striter_wide st h),⟨_,zA _ rfl,rfl,rfl⟩,fp,q⟩;exact wpAny_pyIter_ascii ha ⟨s.heap.objs.size,[s.heap.objs.size],_,_,H,rfl,I.kept (t':=s.toks) λb o e=>hps0 _ e,qt (t:=t) _ zD (λA' hA=>Walks.strAscii hA _ z t) (λA i s Q E st h=>wpAny_pyIter_striter_ascii st h),⟨_,zA _ rfl,rfl,rfl⟩,fp,q⟩
section
variable {P:Program}{w:World}{A:Around}{E:Value->Shared->Prop}
theorem n9(ne:l≠it):∀(n i:Nat) (s:Shared) (Q:List Value->Shared->Prop),s.heap.IsListIter it l i->s.heap.IsList l items->i+n<=items.size ->
  (∀h',h'.IsListIter it l (i+n)->Heap.SameBut it s.heap h'->Q ((items.toList.drop i).take n) { s with heap:=h' })->wpAny (model P w) A (draw (.ref it) n) Q E s
 |0,i,s,Q,a,b,hl,q=>by rw[draw];exact zB (q s.heap a (Heap.SameBut.refl _ _))
 |n+1,i,s,Q,a,b,hl,q=>by rw[draw];have hi:i<items.size:=zL;refine zd (wpAny_pyNext_list_item a b (x:=items[i]) zS λh1 a1 HI=>?_);obtain⟨o,o1,o2⟩:=b;refine zd (ZH (n9 ne n (i+1) _ _ a1 ⟨o,(HI.2 l ne).trans o1,o2⟩ zL λh2 a2 sb2=>zB ?_));have:=q h2 (by grind) (HI.trans sb2);rw[<- List.getElem_cons_drop (h:=by simpa using hi),Zr]at this;simpa using this
theorem jD(hh:A.handled=none)(hl:s.heap.IsList l items)(q:∀h':Heap,Heap.ExtBut s.heap.objs.size s.heap h'->Q items.toList { s with heap:=h' }):wpAny (model P w) A (unpackItems (.ref l) items.size none) Q E s:=by unfold unpackItems;refine zd ?_;refine zd (zzY hl.typeIs slot_list_iter.lookup ?_);dsimp only[Option.isSome];rw[zF rfl];refine zB ?_;rw[zP zD];refine zd (ZH (zz4 hl ?_));obtain⟨o,o1,o2⟩:=id hl;have ne:l≠s.heap.objs.size:=zW (zN o1);have hl1:(s.heap.push { cls:=.type "list_iterator",data:=.fields #[.ref l,.int 0 0] }).IsList l items:=⟨o,hps0 _ o1,o2⟩;refine zd (ZH (n9 ne items.size 0 _ _ ⟨_,zA _ rfl,rfl,rfl⟩ hl1 zS λh1 a1 HI=>?_));rw[Zz,zzS zS,zP zS];rw[zzT]at a1;obtain⟨o',o1',o2'⟩:=id hl1;refine zd (ZH (wpAny_pyNext_list_end hh a1 ⟨o',(HI.2 l ne).trans o1',o2'⟩ zS λh2 eb=>?_));rw[zP zD];refine zB (q h2 λb ob hb e=>eb b ob hb ?_);exact(HI.2 b hb).trans (hps0 _ e)
end
section
variable {X:Cx}{pos:Pos}
theorem GJ{es:List Expr}{k:Nat}{t:DC}{n:Nat}(hc:X.calm=true)(h:PGs X es t)(hn:(assignEach es X.env).length=n)(hst:(assignEach es X.env).findIdx? (·.1)=none):PG X (.Tuple es k pos) (λv σ H Q=>∃a xs,v=.ref a/\iT X.K H a xs/\xs.length=n/\t xs σ H Q):=by intro pins s σ H v u Q I r hw;obtain⟨a,xs,e1,hq,hl,hw⟩:=hw;subst e1;cases r;obtain⟨its,rv,ht,hz⟩:=I.list hq;refine zd (wpAny_standAt ?_);unfold unpack;rw[hst,show(assignEach es X.env).length=its.toArray.size by simp[hn,<- hl,rv.length]];refine zd (ZH (jD (I.ok.hd hc) ht.isList λh' hx=>?_));have I1 :=I.kept (t':=s.toks) λb o e=>hx b o (zW (zN e)) e;exact h pins _ σ H xs _ Q I1 (by simpa using rv) hw
theorem _root_.L2.PG.or(p:PG X e t)(p':PG X e t'):PG X e (λv σ H Q=>t v σ H Q\/t' v σ H Q):=λpins s σ H v u Q I r q=>by rcases q with q|q;exact p pins s σ H v u Q I r q;exact p' pins s σ H v u Q I r q
end
section
variable {X:Cx}{EX:cC}{cf:CF}{fw:Nat}{pos:Pos}{a b c e:Expr}{a' b' c' e':E}
theorem Fw:PSs X [] (dE X.K EX (a9 cf fw [])):=lb.sub λD τ H zq=>by obtain⟨ρ,σ,h,re,hr,q⟩:=zq;rw[a9]at q;exact RQ.here hr q τ re
theorem BE{st:Stmt}(h1:PS X st (dE X.K EX (aL cf fw s')))(h2:PSs X sts (dE X.K EX (a9 cf fw ss'))):PSs X (st::sts) (dE X.K EX (a9 cf fw (s'::ss'))) :=
 (dA h1 h2).sub λD τ H zq=>by
  obtain⟨ρ,σ,h,re,hr,q⟩:=zq;refine⟨ρ,σ,h,re,hr,q.bnd.mono λfl h1 ρ1 H1 x1 hr1 q1=>?_⟩;cases fl with
  |nx σ1=>exact λτ1 re1=>⟨ρ1,σ1,h1,re1,hr1,q1⟩
  |ret w=>exact RQ.here (EX:=EX) hr1 q1
  |brk σ1=>exact RQ.here (EX:=EX) hr1 q1
  |cnt σ1=>exact RQ.here (EX:=EX) hr1 q1
theorem Gs:PS X (.Pass pos) (dE X.K EX (aL cf fw .pass_)):=C9.sub λD τ H zq=>by obtain⟨ρ,σ,h,re,hr,q⟩:=zq;rw[aL]at q;exact RQ.here hr q τ re
theorem Mh:PS X (.Break pos) (dE X.K EX (aL cf fw .brk)):=ye.sub λD τ H zq=>by obtain⟨ρ,σ,h,re,hr,q⟩:=zq;exact RQ.here hr q τ re
theorem KP:PS X (.Continue pos) (dE X.K EX (aL cf fw .cnt)):=qR.sub λD τ H zq=>by obtain⟨ρ,σ,h,re,hr,q⟩:=zq;exact RQ.here hr q τ re
def cW(e:Expr):Bool:=match e with
 |.ListComp ..=>false
 |.SetComp ..=>false
 |.DictComp ..=>false
 |_=>true
theorem gn(h:cW e=true)(t)(n)(env):swapsWith e t n env=pure false:=by cases e<;>first|rfl|cases h
theorem F8{i:Nat}{x:Str}{p:Pos}(hN:X.N.Nodup)(hi:X.N[i]?=some x)(hx:sR X.env.scope x)(hf:X.fn x=true\/X.env.scope.names.lookup x=some .local)(he:PE X e (tI X.K EX (af cf e')))(hc:cW e=true) :
  PS X (.Assign [.Name x p] e pos) (dE X.K EX (aL cf fw (.asg i e'))):=(fR hN hi hx he (gn hc _ _ _) hf).sub λD τ H zq=>by
 obtain⟨ρ,σ,h,re,hr,q⟩:=zq
 exact⟨ρ,σ,h,re,hr,q.bnd.mono λw h1 ρ1 H1 x1 hr1 q1 v r=>(RQ.here hr1 q1 _ ((re.ext x1).set i r))⟩
theorem K1(he:PE X e (tI X.K EX (af cf e')))(hc:cW e=true):PS X (.Expr e pos) (dE X.K EX (aL cf fw (.exp e'))):=(EN he (gn hc _ _ _)).sub λD τ H zq=>by obtain⟨ρ,σ,h,re,hr,q⟩:=zq;exact⟨ρ,σ,h,re,hr,q.bnd.mono λw h1 ρ1 H1 x1 hr1 q1 v r=>RQ.here hr1 q1 _ (re.ext x1)⟩
theorem M6:PS X (.Expr (.Constant (.str s) j p) pos) (dE X.K EX (aL cf fw .pass_)):=G8.sub λD τ H zq=>by obtain⟨ρ,σ,h,re,hr,q⟩:=zq;exact RQ.here hr q τ re
theorem yB(he:PE X e (tI X.K EX (af cf e'))):PS X (.Return (some e) pos) (dE X.K EX (aL cf fw (.ret e'))):=(uq he).sub λD τ H zq=>by obtain⟨ρ,σ,h,re,hr,q⟩:=zq;exact⟨ρ,σ,h,re,hr,q.bnd.mono λw h1 ρ1 H1 x1 hr1 q1 v r=>RQ.here hr1 q1 _ r⟩
theorem OP(hc:PT X c (fP X.K EX (bJ cf c')))(ha:PSs X as (dE X.K EX (a9 cf fw as')))(hb:PSs X bs (dE X.K EX (a9 cf fw bs'))):PS X (.If c as bs pos) (dE X.K EX (aL cf fw (.if_ c' as' bs'))) :=
 (Lq hc ha hb).sub λD τ H zq=>by
  obtain⟨ρ,σ,h,re,hr,q⟩:=zq;refine⟨ρ,σ,h,re,hr,q.bnd.mono λk h1 ρ1 H1 x1 hr1 q1=>?_⟩;cases k with
  |true=>exact pU ⟨ρ1,σ,h1,re.ext x1,hr1,by simp_all⟩
  |false=>exact qd ⟨ρ1,σ,h1,re.ext x1,hr1,by simp_all⟩
theorem Dc(hp:PassesOwn (model X.prog X.w) X.A X.env X.xe)(hc:PT X c (fP X.K EX (bJ cf c')))(hb:PSs X bs (dE X.K EX (a9 cf fw bs'))):PS X (.While c bs [] pos) (dE X.K EX (aL cf fw (.while_ c' bs'))) :=
 (Bp hp hc hb).sub λD τ H zq=>by
  obtain⟨ρ,σ,h,re,hr,q⟩:=zq;rw[aL]at q;refine⟨λm τ H=>TR X.K EX (wh (bJ cf c') (a9 cf fw bs') m) (kF X.K D) τ H,⟨fw,ρ,σ,h,re,hr,q⟩,?_⟩;rintro m τ1 H1 ⟨ρ1,σ1,h1,re1,hr1,q1⟩;cases m with
  |zero=>exact q1.elim
  |succ n=>
   rw[wh]at q1;refine⟨ρ1,σ1,h1,re1,hr1,q1.bnd.mono λk h2 ρ2 H2 x2 hr2 q2=>?_⟩;cases k with
   |false=>exact qd (RQ.here hr2 q2 _ (re1.ext x2))
   |true=>
    refine pU ⟨λτ' H'=>TR X.K EX (wh (bJ cf c') (a9 cf fw bs') n) (kF X.K D) τ' H',λτ' H' p=>⟨n,zzI n,p⟩,?_⟩;refine⟨ρ2,σ1,h2,re1.ext x2,hr2,q2.bnd.mono λfl h3 ρ3 H3 x3 hr3 q3=>?_⟩;cases fl with
    |nx σ4=>exact λτ4 re4=>⟨ρ3,σ4,h3,re4,hr3,q3⟩
    |cnt σ4=>exact λτ4 re4=>⟨ρ3,σ4,h3,re4,hr3,q3⟩
    |brk σ4=>exact λτ4 re4=>RQ.here hr3 q3 τ4 re4
    |ret w=>exact λv r=>RQ.here hr3 q3 v r
inductive GR {α:Type} (K:Fg0) (rl:List Addr->α->Prop) (bd:α->ai->Option ai) (τ:L2.St) (H:Hp) (Q:L2.St->Hp->Prop):Prop
 |mk (ρ:List Addr) (σ:ai) (w:α) (σ':ai) (re:bE K ρ H σ τ) (r:rl ρ w) (e:bd w σ=some σ') (q:∀τ',bE K ρ H σ' τ'->Q τ' H)
def kg(K:Fg0)(is:List Nat):TG:=λv τ H Q=>GR K (λρ w=>Rel K ρ H w v) (aV is) τ H Q
def LM(K:Fg0)(is:List Nat):DC:=λvs τ H Q=>GR K (λρ ws=>ao K ρ H ws vs) (fX is) τ H Q
theorem _root_.L2.PG.sub(p:PG X e t)(h:∀v τ H Q,t' v τ H Q->t v τ H Q):PG X e t':=λpins s σ H v u Q I r q=>p pins s σ H v u Q I r (h _ _ _ _ q)
theorem _root_.L2.PGs.sub{e:List Expr}(p:PGs X e t)(h:∀v τ H Q,t' v τ H Q->t v τ H Q):PGs X e t':=λpins s σ H v u Q I r q=>p pins s σ H v u Q I r (h _ _ _ _ q)
theorem Gr(hN:X.N.Nodup)(hi:X.N[i]?=some x)(hx:sR X.env.scope x)(hf:X.fn x=true\/X.env.scope.names.lookup x=some .local):PG X (.Name x pos) (kg X.K [i]) :=
 (vA hN hi hx hf).sub λv τ H Q zq=>by obtain⟨ρ,σ,w,σ',re,r,e,q⟩:=zq;cases e;exact q _ (re.set i r)
theorem Jn:PGs X [] (LM X.K []):=EC.sub λvs τ H Q zq=>by
 obtain⟨ρ,σ,ws,σ',re,rl,e,q⟩:=zq;cases ws with
 |nil=>cases e;exact⟨rl,q τ re⟩
 |cons w ws=>cases e
theorem DV{x:Str}{es:List Expr}(hN:X.N.Nodup)(hi:X.N[i]?=some x)(hx:sR X.env.scope x)(hf:X.fn x=true\/X.env.scope.names.lookup x=some .local)(h2:PGs X es (LM X.K is)):PGs X (.Name x p::es) (LM X.K (i::is)) :=
 (A9 (vA hN hi hx hf) h2).sub λvs τ H Q zq=>by
  obtain⟨ρ,σ,ws,σ',re,rl,e,q⟩:=zq;cases ws with
  |nil=>cases e
  |cons w ws=>obtain⟨y,ys,rfl,r,rs⟩:=rl;exact⟨y,ys,rfl,ρ,_,ws,σ',re.set i r,rs,e,q⟩
theorem iN:∀{is:List Nat}{ws:List W}{σ σ':ai},fX is ws σ=some σ'->is.length=ws.length
 |[],[],_,_,_=>rfl
 |[],_::_,_,_,e=>by cases e
 |_::_,[],_,_,e=>by cases e
 |_::is,_::ws,_,_,e=>by simp[iN (is:=is)  e]
def aP(e:Expr):Bool:=match e with
 |.Name ..=>true
 |_=>false
theorem gD:∀{es:List Expr} (env:Env),es.all aP=true->(assignEach es env).length=es.length/\(assignEach es env).findIdx? (·.1)=none
 |[],_,_=>⟨rfl,rfl⟩
 |.Name x p::es,env,h=>by have:=gD (es:=es) env (‹_›);exact⟨by simp[assignEach,this.1],by simp[assignEach,List.findIdx?_cons,this.2]⟩
 |.BoolOp ..::_,_,h=>by simp[aP]at h
 |.NamedExpr ..::_,_,h=>by simp[aP]at h
 |.BinOp ..::_,_,h=>by simp[aP]at h
 |.UnaryOp ..::_,_,h=>by simp[aP]at h
 |.Lambda ..::_,_,h=>by simp[aP]at h
 |.IfExp ..::_,_,h=>by simp[aP]at h
 |.Dict ..::_,_,h=>by simp[aP]at h
 |.Set ..::_,_,h=>by simp[aP]at h
 |.ListComp ..::_,_,h=>by simp[aP]at h
 |.SetComp ..::_,_,h=>by simp[aP]at h
 |.DictComp ..::_,_,h=>by simp[aP]at h
 |.GeneratorExp ..::_,_,h=>by simp[aP]at h
 |.Await ..::_,_,h=>by simp[aP]at h
 |.Yield ..::_,_,h=>by simp[aP]at h
 |.YieldFrom ..::_,_,h=>by simp[aP]at h
 |.Compare ..::_,_,h=>by simp[aP]at h
 |.Call ..::_,_,h=>by simp[aP]at h
 |.FormattedValue ..::_,_,h=>by simp[aP]at h
 |.JoinedStr ..::_,_,h=>by simp[aP]at h
 |.Constant ..::_,_,h=>by simp[aP]at h
 |.Attribute ..::_,_,h=>by simp[aP]at h
 |.Subscript ..::_,_,h=>by simp[aP]at h
 |.Starred ..::_,_,h=>by simp[aP]at h
 |.List ..::_,_,h=>by simp[aP]at h
 |.Tuple ..::_,_,h=>by simp[aP]at h
 |.Slice ..::_,_,h=>by simp[aP]at h
theorem Mo(hc:X.calm=true)(h:PGs X es (LM X.K is))(hn:es.all aP=true)(hl:es.length=is.length)(h2:is.length≠1):PG X (.Tuple es k pos) (kg X.K is) :=
 ((HY (n:=es.length) hc h (gD X.env hn).1 (gD X.env hn).2).or (GJ (n:=es.length) hc h (gD X.env hn).1 (gD X.env hn).2)).sub λv τ H Q zq=>by obtain⟨ρ,σ,w,σ',re,r,e,q⟩:=zq;unfold aV at e;split at e;exact absurd rfl h2;split at e;rename_i ws;obtain⟨p,xs,rfl,hq,rs⟩:=r;exact .inl ⟨p,xs,rfl,hq.sq,by rw[<- rs.length,<- iN e,hl],ρ,σ,ws,σ',re,rs,e,q⟩;rename_i ws;rw[Rel]at r;obtain⟨p,xs,rfl,_,hq,rs⟩:=r;exact .inr ⟨p,xs,rfl,.inl (.inl hq),by rw[<- rs.length,<- iN e,hl],ρ,σ,ws,σ',re,rs,e,q⟩;cases e
theorem iY{K:Fg0}
  (re:bE K ρ H σ τ) (hr:a8 K ρ h H) (r:Rel K ρ H w v) (q:RQ K EX ρ H (fo is body (w::ws) σ h) (kF K D))
  (hN:∀τ' H' ρ' σ' h',Ext ρ H ρ' H'->bE K ρ' H' σ' τ'->a8 K ρ' h' H'->RQ K EX ρ' H' (fo is body ws σ' h') (kF K D)->N τ' H') :
  kg K is v τ H λτ2 H2=>dE K EX body { D with nx:=N,ct:=N,bk:=D.nx } τ2 H2:=by
 rw[fo]at q
 split at q
 ·exact q.elim
 ·rename_i σ' e
  refine⟨ρ,σ,w,σ',re,r,e,λτ' re'=>⟨ρ,σ',h,re',hr,q.bnd.mono λfl h3 ρ3 H3 x3 hr3 q3=>?_⟩⟩
  cases fl with
  |nx σ4=>exact λτ4 re4=>hN _ _ _ _ _ x3 re4 hr3 q3
  |cnt σ4=>exact λτ4 re4=>hN _ _ _ _ _ x3 re4 hr3 q3
  |brk σ4=>exact λτ4 re4=>RQ.here hr3 q3 τ4 re4
  |ret w=>exact λv r=>RQ.here hr3 q3 v r
theorem fA{ws:List W}{i:Nat}{w:W}(e:ws[i]?=some w):ws.drop i=w::ws.drop (i+1):=by obtain⟨h,rfl⟩:=ze.mp e;simp_all
theorem ao.back{K:Fg0}{i:Nat}(r:ao K ρ H ws xs)(e:xs[i]?=some x):∃w,ws[i]?=some w/\Rel K ρ H w x:=by
 have hl:i<ws.length:=by rw[r.length];grind
 obtain⟨y,h1,h2⟩:=r.get (zK hl);simp_all
def CU(K:Fg0)(tl:TE):TI:=λσ H R=>tl σ H λx H1=>(∃z,x=.str z/\R (Kh z) H1)\/∃a,x=.ref a/\(((∃xs,iT K H1 a xs)/\R (vm K a) H1)\/((∃xs,kq K H1 a xs)/\R (yh K a) H1))
theorem Ar(hl:PE X l tl):PI X tg l (CU X.K tl):=by
 intro pins s σ H R I h;refine aW (hl pins s σ H _ I h) λv s1 zq=>?_;obtain⟨x,H1,I1,r1,q1⟩:=zq;rcases q1 with⟨z,e,q⟩|⟨a,e,q1⟩;subst e;obtain⟨t,rfl⟩:=r1;exact Ic I1 q;subst e;cases r1;rcases q1 with⟨⟨xs,hq⟩,q⟩|⟨⟨xs,hq⟩,q⟩;obtain⟨its,rv,p,hz⟩:=I1.list hq;refine zz4 p.isList ?_;refine⟨s1.heap.objs.size,[s1.heap.objs.size],_,_,H1,rfl,I1.kept (t':=s1.toks) λb o e=>hps0 _ e,xI a _,⟨_,zA _ rfl,rfl,rfl⟩,λb hb=>?_,q⟩;have e:b=s1.heap.objs.size:=by simpa using hb
 subst e;exact I1.fpOk (zC _) (I1.hok.fresh (zC _));obtain⟨its,rv,p,hz⟩:=I1.tuple hq;refine wpAny_pyIter_tuple (p) ?_;refine⟨s1.heap.objs.size,[s1.heap.objs.size],_,_,H1,rfl,I1.kept (t':=s1.toks) λb o e=>hps0 _ e,sY a _,⟨_,zA _ rfl,rfl,rfl⟩,λb hb=>?_,q⟩;have e:b=s1.heap.objs.size:=by simpa using hb
 subst e;exact I1.fpOk (zC _) (I1.hok.fresh (zC _))
def cR(e:Expr):Bool:=match e with
 |.Set ..=>false
 |_=>true
theorem kX(h:cR e=true)(env)(x):foldedSetIterable e env x=pure x:=by cases e<;>first|rfl|cases h
theorem Ext.at{n:Nat}{a:Addr}(x:Ext ρ H ρ' H')(e:ρ[n]?=some a):ρ'[n]?=some a:=by obtain⟨t,rfl⟩:=x.pre;rw[zJ (ze.mp e).1];lia
inductive TX {α:Type} (K:Fg0) (EX:cC) (ρ1:List Addr) (H1:Hp) (ev:ai->aa->Res α) (k:α->aa->List Addr->Hp->Prop) (τ:L2.St) (H:Hp):Prop
 |mk (ρ:List Addr) (σ:ai) (h:aa) (x:Ext ρ1 H1 ρ H) (re:bE K ρ H σ τ) (hr:a8 K ρ h H) (q:RQ K EX ρ H (ev σ h) k)
theorem Am{tg:Expr}{is:List Nat}{bs:List Stmt}{bs':List S}(hp:PassesOwn (model X.prog X.w) X.A X.env X.xe)(hc:X.calm=true)(ha:PE X a (tI X.K EX (af cf a')))(hg:PG X tg (kg X.K is))(hb:PSs X bs (dE X.K EX (a9 cf fw bs')))
  (hs:cR a=true):PS X (.For tg a bs [] pos) (dE X.K EX (aL cf fw (.for_ is (.seq a') bs'))) :=
 (lL hp hc (Ar ha) hg hb (kX hs _)).sub λD τ H zq=>by
  obtain⟨ρ,σ,h,re,hr,q⟩:=zq;rw[aL]at q;refine⟨ρ,σ,h,re,hr,q.bnd.mono λw h1 ρ1 H1 x1 hr1 q1 v r=>?_⟩;have re1:=re.ext x1
  have lists:∀(p:Addr) (ws:List W) (xs:List V),(∀ρ2 H2,Ext ρ1 H1 ρ2 H2->iT X.K H2 p xs)->ao X.K ρ1 H1 ws xs->RQ X.K EX ρ1 H1 (fo is (a9 cf fw bs') ws σ h1) (kF X.K D) ->
    ∃W:Nat->Nat->L2.St->Hp->Prop,(∃m,W 0 m τ H1)/\∀i m σ H,W i m σ H ->
     ((vm X.K p).stop i H/\D.nx σ H)\/((vm X.K p).go i H/\∃N:L2.St->Hp->Prop,(∀σ' H',N σ' H'->∃m',m'<m/\W (i+1) m' σ' H')/\∀x H',(vm X.K p).yld i H x H'->kg X.K is x σ H' λσ2 H2=>dE X.K EX (a9 cf fw bs') { D with nx:=N,ct:=N,bk:=D.nx } σ2 H2):=by
   intro p ws xs hq rs q
   refine yx (λi τ H=>TX X.K EX ρ1 H1 (fo is (a9 cf fw bs') (ws.drop i)) (kF X.K D) τ H) ⟨ρ1,σ,h1,.refl,re1,hr1,q⟩ (λi τ2 H2 _ ⟨ρ2,_,_,x2,_,_,_⟩=>hq ρ2 H2 x2) ?_ ?_
   ·rintro i x τ2 H2 hi ⟨ρ2,σ2,h2,x2,re2,hr2,q2⟩
    obtain⟨w,e,rw'⟩:=(ao.ext x2 ws xs rs).back hi
    rw[fA e]at q2
    exact iY re2 hr2 rw' q2 λτ' H' ρ' σ' h' x re' hr' q'=>⟨ρ',σ',h',x2.trans x,re',hr',q'⟩
   ·rintro τ2 H2 ⟨ρ2,σ2,h2,x2,re2,hr2,q2⟩
    rw[zzj (by rw[rs.length]<;>exact zC _)]at q2
    rw[fo]at q2
    exact RQ.here hr2 q2 _ re2
  cases w with
  |tup ws=>rw[Rel]at r;obtain⟨p,xs,rfl,hq,rs⟩:=r;refine .inr ⟨p,rfl,.inr ⟨⟨xs,hq.sq⟩,Ew (λi τ H=>TX X.K EX ρ1 H1 (fo is (a9 cf fw bs') (ws.drop i)) (kF X.K D) τ H) ⟨ρ1,σ,h1,.refl,re1,hr1,q1⟩ (λi τ2 H2 _ ⟨ρ2,_,_,x2,_,_,_⟩=>(hq.ext x2).sq) ?_ ?_⟩⟩;rintro i x τ2 H2 hi ⟨ρ2,σ2,h2,x2,re2,hr2,q2⟩;obtain⟨w,e,rw'⟩:=(ao.ext x2 ws xs rs).back hi;rw[fA e]at q2;exact iY re2 hr2 rw' q2 λτ' H' ρ' σ' h' x re' hr' q'=>⟨ρ',σ',h',x2.trans x,re',hr',q'⟩;rintro τ2 H2 ⟨ρ2,σ2,h2,x2,re2,hr2,q2⟩;rw[zzj (by rw[rs.length]<;>exact zC _)]at q2;rw[fo]at q2;exact RQ.here hr2 q2 _ re2
  |lst ws=>rw[Rel]at r;obtain⟨p,xs,rfl,n,hq,rs⟩:=r;exact .inr ⟨p,rfl,.inl ⟨⟨xs,.inl (.inl hq)⟩,lists p ws xs (λρ2 H2 x2=>.inl (.inl (x2.keepN hq n (λ_ z=>by cases z)))) rs q1⟩⟩
  |scr ws=>rw[Rel]at r;obtain⟨p,xs,rfl,hq,rs⟩:=r;exact .inr ⟨p,rfl,.inl ⟨⟨xs,hq.sq⟩,lists p ws xs (λρ2 H2 x2=>(hq.ext x2).sq) rs q1⟩⟩
  |ref n=>
   rw[Rel]at r;obtain⟨p,rfl,hn⟩:=r;have q0:RQ X.K EX ρ1 H1 (Ck n is (a9 cf fw bs') fw 0 σ h1) (kF X.K D):=q1;have ex:∃xs,H1 p=some (.lst xs):=by
    cases fw with
    |zero=>rw[Ck]at q0;exact q0.elim
    |succ k=>rw[Ck]at q0;split at q0;rename_i ws e;obtain⟨_,xs,z,_⟩:=hr1.at_ n p _ hn e;exact⟨xs,z⟩;exact q0.elim
   obtain⟨xs0,hx0⟩:=ex;refine .inr ⟨p,rfl,.inl ⟨⟨xs0,.inl (.inl hx0)⟩,λi m τ H=>∃ρ σ h,ρ[n]?=some p/\bE X.K ρ H σ τ/\a8 X.K ρ h H/\RQ X.K EX ρ H (Ck n is (a9 cf fw bs') m i σ h) (kF X.K D),⟨fw,ρ1,σ,h1,hn,re1,hr1,q0⟩,?_⟩⟩;rintro i m τ2 H2 ⟨ρ2,σ2,h2,hn2,re2,hr2,q2⟩;cases m with
   |zero=>rw[Ck]at q2;exact q2.elim
   |succ k=>
    rw[Ck]at q2;split at q2;rename_i ws e;obtain⟨_,xs,z,rs⟩:=hr2.at_ n p _ hn2 e;split at q2;rename_i e2;refine .inl ⟨⟨xs,.inl (.inl z),?_⟩,RQ.here hr2 q2 _ re2⟩;rw[<- rs.length];exact ZQ.mp e2;rename_i w e2;obtain⟨x,ex,rx⟩:=rs.get e2;refine .inr ⟨⟨xs,x,.inl (.inl z),ex⟩,λτ' H'=>∃ρ σ h,ρ[n]?=some p/\bE X.K ρ H' σ τ'/\a8 X.K ρ h H'/\RQ X.K EX ρ H' (Ck n is (a9 cf fw bs') k (i+1) σ h) (kF X.K D),λτ' H' z=>⟨k,zzI k,z⟩,λx' H' y=>?_⟩;obtain⟨rfl,y⟩:=y;have e3:=y xs (.inl (.inl z));rw[ex]at e3;cases e3;split at q2;exact q2.elim;rename_i σ' e4;refine⟨ρ2,σ2,w,σ',re2,rx,e4,λτ' re'=>⟨ρ2,σ',h2,re',hr2,q2.bnd.mono λfl h3 ρ3 H3 x3 hr3 q3=>?_⟩⟩;cases fl with
    |nx σ4=>exact λτ4 re4=>⟨ρ3,σ4,h3,x3.at hn2,re4,hr3,q3⟩
    |cnt σ4=>exact λτ4 re4=>⟨ρ3,σ4,h3,x3.at hn2,re4,hr3,q3⟩
    |brk σ4=>exact λτ4 re4=>RQ.here hr3 q3 τ4 re4
    |ret w=>exact λv r=>RQ.here hr3 q3 v r
    exact q2.elim
  |_=>exact q1.elim
theorem dJ(cf)(e)(σ)(h):bL cf [e] σ h=bnd (af cf e σ h) λw h=>.ok [w] h:=by
 rw[bL];cases af cf e σ h with
 |ok w h1=>simp[bnd,bL]
 |exc c h1=>rfl
 |stuck=>rfl
theorem uW(cf)(e e2)(σ)(h):bL cf [e,e2] σ h=bnd (af cf e σ h) λw h=>bnd (af cf e2 σ h) λw2 h=>.ok [w,w2] h:=by
 rw[bL];cases af cf e σ h with
 |ok w h1=>have z:=dJ cf e2 σ h1;simp only[bnd]at z ⊢;rw[z];cases af cf e2 σ h1<;>rfl
 |exc c h1=>rfl
 |stuck=>rfl
theorem qJ{tg:Expr}{is:List Nat}{bs':List S}{lo:Int}{n:Nat}{D:Ends}{τ:L2.St}{ρ1:List Addr}{H1:Hp}{σ:ai}{h1:aa}(re1:bE X.K ρ1 H1 σ τ)(hr1:a8 X.K ρ1 h1 H1)
  (q1:RQ X.K EX ρ1 H1 (fo is (a9 cf fw bs') ((List.range n).map λ(k:Nat)=>W.int (lo+(k))) σ h1) (kF X.K D)) :
  ∃W:Nat->Nat->L2.St->Hp->Prop,(∃m,W 0 m τ H1)/\∀i m σ H,W i m σ H ->
   ((x9 lo n).stop i H/\D.nx σ H)\/((x9 lo n).go i H/\∃N:L2.St->Hp->Prop,(∀σ' H',N σ' H'->∃m',m'<m/\W (i+1) m' σ' H')/\∀x H',(x9 lo n).yld i H x H'->kg X.K is x σ H' λσ2 H2=>dE X.K EX (a9 cf fw bs') { D with nx:=N,ct:=N,bk:=D.nx } σ2 H2):=by
 refine wJ (λi τ H=>TR X.K EX (fo is (a9 cf fw bs') (((List.range n).map λ(k:Nat)=>W.int (lo+(k:Int))).drop i)) (kF X.K D) τ H)
  ⟨ρ1,σ,h1,re1,hr1,q1⟩ ?_ ?_
 ·rintro i τ2 H2 hi ⟨ρ2,σ2,h2,re2,hr2,q2⟩
  rw[fA (w:=.int (lo+(i:Int))) (by simp[hi])]at q2
  exact iY re2 hr2 bf q2 λτ' H' ρ' σ' h' x re' hr' q'=>⟨ρ',σ',h',re',hr',q'⟩
 ·rintro τ2 H2 ⟨ρ2,σ2,h2,re2,hr2,q2⟩
  rw[zzj zS]at q2
  exact RQ.here hr2 q2 _ re2
theorem HZ(hp:PassesOwn (model X.prog X.w) X.A X.env X.xe)(hc:X.calm=true)(hgl:Gl X "range")(hm:X.mg "range"=none)
  (ha:PE X a (tI X.K EX (af cf a'))) (hn:az a=true) (hg:PG X tg (kg X.K is)) (hb:PSs X bs (dE X.K EX (a9 cf fw bs'))) :
  PS X (.For tg (.Call (.Name "range" p) [a] [] p2) bs [] pos) (dE X.K EX (aL cf fw (.for_ is (.rng [a']) bs'))) :=
 (lL hp hc (nS hgl hm (aM ha bF (au hn _ _)) (au hn _ _)) hg hb (by intro _;rfl)).sub λD τ H zq=>by
  obtain⟨ρ,σ,h,re,hr,q⟩:=zq;rw[aL,dJ,cV]at q;refine⟨ρ,σ,h,re,hr,q.bnd.mono λw h1 ρ1 H1 x1 hr1 q1 v r=>?_⟩;have q2:RQ X.K EX ρ1 H1 (match kG [w] with|some ks=>fo is (a9 cf fw bs') ks σ h1|none=>.stuck) (kF X.K D):=q1;rw[cQ]at q2;cases w with
  |int j=>cases a7 r;unfold jR at q2;dsimp only at q2;split at q2;rename_i ks ek;split at ek;rename_i hj;cases ek;exact⟨j,rfl,hj.1,hj.2,qJ (tg:=tg) (re.ext x1) hr1 q2⟩;cases ek;exact q2.elim
  |_=>exact q2.elim
theorem J1(hp:PassesOwn (model X.prog X.w) X.A X.env X.xe)(hc:X.calm=true)(hgl:Gl X "range")(hm:X.mg "range"=none)
  (ha:PE X a (tI X.K EX (af cf a'))) (hb0:PE X b (tI X.K EX (af cf b'))) (hn:az a=true) (hn2:az b=true) (hg:PG X tg (kg X.K is)) (hb:PSs X bs (dE X.K EX (a9 cf fw bs'))) :
  PS X (.For tg (.Call (.Name "range" p) [a,b] [] p2) bs [] pos) (dE X.K EX (aL cf fw (.for_ is (.rng [a',b']) bs'))) :=
 (lL hp hc (nM hgl hm (aM ha (aM hb0 bF (au hn2 _ _)) (au hn _ _)) (by rw[au hn,au hn2];rfl) (by rw[au hn2];rfl)) hg hb (by intro _;rfl)).sub λD τ H zq=>by obtain⟨ρ,σ,h,re,hr,q⟩:=zq;rw[aL,uW,cV]at q;refine⟨ρ,σ,h,re,hr,q.bnd.mono λw h1 ρ1 H1 x1 hr1 q1 v r=>?_⟩;rw[cV]at q1;refine⟨ρ1,σ,h1,re.ext x1,hr1,q1.bnd.mono λw2 h2 ρ2 H2 x2 hr2 q2 v2 r2=>?_⟩;have r1:=Rel.ext x2 _ _ r;have q3:RQ X.K EX ρ2 H2 (match kG [w,w2] with|some ks=>fo is (a9 cf fw bs') ks σ h2|none=>.stuck) (kF X.K D):=q2;rw[cQ]at q3;unfold jR at q3;split at q3;rename_i ks ek;split at ek;rename_i e;cases e;rename_i i j e;cases e;cases a7 r1;cases a7 r2;split at ek;rename_i hj;cases ek;exact⟨i,j,rfl,hj,qJ (tg:=tg) ((re.ext x1).ext x2) hr2 q3⟩;cases ek;cases ek;exact q3.elim
end
section
variable {X:Cx}{EX:cC}{cf:CF}{fw:Nat}{pos:Pos}{a b c e:Expr}{a' b' c' e':E}
def AW(e:Expr):Bool:=match e with
 |.Tuple ..=>false
 |_=>true
theorem Er(h:AW e=true)(env):swappedStores [.Tuple es k pt] e env=pure none:=by cases e<;>first|rfl|cases h
theorem KG(hg:PG X (.Tuple es k pt) (kg X.K is))(h2:is.length≠1)(he:PE X e (tI X.K EX (af cf e')))(hc:cW e=true)(ht:AW e=true) :
  PS X (.Assign [.Tuple es k pt] e pos) (dE X.K EX (aL cf fw (.unp is e'))):=(sE he hg (by unfold swapsWithSole;exact gn hc _ _ _) (Er ht _) rfl).sub λD τ H zq=>by
 obtain⟨ρ,σ,h,re,hr,q⟩:=zq
 rw[aL]at q
 refine⟨ρ,σ,h,re,hr,q.bnd.mono λw h1 ρ1 H1 x1 hr1 q1 v r=>?_⟩
 split at q1
 ·rename_i ws
  split at q1
  ·rename_i σ' e
   refine⟨ρ1,σ,.tup ws,σ',re.ext x1,r,?_,λτ' re'=>RQ.here hr1 q1 τ' re'⟩
   unfold aV
   split
   ·exact absurd rfl h2
   ·exact e
  ·exact q1.elim
 ·rename_i ws
  split at q1
  ·rename_i σ' e
   refine⟨ρ1,σ,.lst ws,σ',re.ext x1,r,?_,λτ' re'=>RQ.here hr1 q1 τ' re'⟩
   unfold aV
   split
   ·exact absurd rfl h2
   ·exact e
  ·exact q1.elim
 ·exact q1.elim
def CG(K:Fg0)(EX:cC)(ev:ai->aa->Res (List W)):TE:=λτ H Q =>
 TR K EX ev (λws _ ρ' H'=>∀xs l,ao K ρ' H' ws xs->H' l=none->Q (.ref l) (aY H' l (.lst xs))) τ H
theorem EA(hN:X.N.Nodup)(hi:X.N[i]?=some x)(hx:sR X.env.scope x)(hf:X.fn x=true\/X.env.scope.names.lookup x=some .local)(he:PE X e (CG X.K EX (nV cf e')))(hc:cW e=true) :
  PS X (.Assign [.Name x p] e pos) (dE X.K EX (aL cf fw (.fresh i e'))):=(fR hN hi hx he (gn hc _ _ _) hf).sub λD τ H zq=>by
 obtain⟨ρ,σ,h,re,hr,q⟩:=zq
 refine⟨ρ,σ,h,re,hr,q.bnd.mono λws h1 ρ1 H1 x1 hr1 q1 xs l rs n=>?_⟩
 split at q1
 ·rename_i hpure
  have y:=ext_cell (o:=.lst xs) hr1 n
  refine q1 _ _ y (hr1.cell n hpure rs) _ (((re.ext x1).ext y).set i ?_)
  rw[Rel]
  exact⟨l,rfl,by rw[<- hr1.len];simp⟩
 ·exact q1.elim
theorem Ly(h:PA X es (mV X.K EX (bL cf es'))):PE X (.List es pos) (CG X.K EX (nV cf (.lst es'))):=(oE h).sub λτ H Q zq=>by obtain⟨ρ,σ,h,re,hr,q⟩:=zq;rw[nV]at q;refine⟨ρ,σ,h,re,hr,q.bnd.mono λws h1 ρ1 H1 x1 hr1 q1 vs rs=>?_⟩;split at q1;exact⟨by rw[<- rs.length];lia,λl n=>RQ.here hr1 q1 _ _ rs n⟩;exact q1.elim
def rF(K:Fg0)(EX:cC)(f:W->W->aa->Res (List W)):R2:=λx y H Q =>
 ∃ρ h w1 w2,a8 K ρ h H/\Rel K ρ H w1 x/\Rel K ρ H w2 y/\RQ K EX ρ H (f w1 w2 h) λws _ ρ' H'=>∀xs l,ao K ρ' H' ws xs->H' l=none->Q (.ref l) (aY H' l (.lst xs))
theorem LC{K:Fg0}
  (q:CG K EX (λσ h=>bnd (ea σ h) λx h=>bnd (eb σ h) λy h=>f x y h) τ H Q):Kj (rF K EX f) (tI K EX ea) (tI K EX eb) τ H Q:=by
 obtain⟨ρ,σ,h,re,hr,q⟩:=q
 exact⟨ρ,σ,h,re,hr,q.bnd.mono λw1 h1 ρ1 H1 x1 hr1 q1 v1 r1=>(⟨ρ1,σ,h1,re.ext x1,hr1,q1.bnd.mono λw2 h2 ρ2 H2 x2 hr2 q2 v2 r2=>(⟨ρ2,h2,w1,w2,hr2,Rel.ext x2 _ _ r1,r2,q2⟩)⟩)⟩
theorem MM(ha:PE X a (tI X.K EX (af cf a')))(hb:PE X b (tI X.K EX (af cf b'))):PE X (.BinOp a .Mult b pos) (CG X.K EX (nV cf (.bin .Mult a' b'))):=by
 have ho:hU X (binaryOp .Mult) (rF X.K EX λx y h=>match y with|.int j=>wF (bN h x) j h|_=>.stuck):=by
  intro pins s σ H x y v u Q I rx ry zq12;obtain⟨ρ,h,w1,w2,hr,r1,r2,q⟩:=zq12;cases w2 with
  |int j=>
   cases a7 r2;cases e:bN h w1 with
   |none=>simp only[e,wF]at q;exact q.elim
   |some ws=>simp only[e,wF]at q;split at q;rename_i hm;obtain⟨l,xs,rfl,e1,s1⟩:=cm hr e r1;exact(Aa (X:=X)) pins s σ H _ _ v u Q I rx ry ⟨l,j,xs,rfl,rfl,e1,hm.1,hm.2.1,by rw[<- s1.length];exact hm.2.2,λp n=>RQ.here hr q _ _ (s1.flatrep _) n⟩;exact q.elim
  |_=>exact q.elim
 exact(uZ ho ha hb).sub λτ H Q q=>LC (by assumption)
theorem KC(ha:PE X a (tI X.K EX (af cf a')))(hb:PE X b (tI X.K EX (af cf b'))):PE X (.BinOp a .Add b pos) (CG X.K EX (nV cf (.bin .Add a' b'))):=by
 have ho:hU X (binaryOp .Add) (rF X.K EX λx y h=>fG (bN h x) (bN h y) h):=by
  intro pins s σ H x y v u Q I rx ry zq12;obtain⟨ρ,h,w1,w2,hr,r1,r2,q⟩:=zq12;cases e:bN h w1 with
  |none=>simp only[e,fG]at q;exact q.elim
  |some ws=>
   cases e':bN h w2 with
   |none=>simp only[e,e',fG]at q;exact q.elim
   |some us=>simp only[e,e',fG]at q;split at q;rename_i hm;obtain⟨l,xs,rfl,e1,s1⟩:=cm hr e r1;obtain⟨l2,ys,rfl,e2,s2⟩:=cm hr e' r2;exact(sQ ) pins s σ H _ _ v u Q I rx ry ⟨l,l2,xs,ys,rfl,rfl,e1,e2,by rw[<- s1.length,<- s2.length];exact hm,λp n=>RQ.here hr q _ _ (s1.append s2) n⟩;exact q.elim
 exact(uZ ho ha hb).sub λτ H Q q=>LC (by assumption)
theorem Gn(hg:Gl X "list")(hm:X.mg "list"=none)(ha:PE X a (tI X.K EX (af cf a')))(hs:az a=true):PE X (.Call (.Name "list" p) [a] [] pos) (CG X.K EX (nV cf (.blt .list [a']))) :=
 (bR iZ hg hm zzR (aM ha bF (au hs _ _)) (by decide +kernel) (rfl) (au hs _ _) (by rfl)).sub λτ H Q zq=>by obtain⟨ρ,σ,h,re,hr,q⟩:=zq;refine⟨ρ,σ,h,re,hr,q.bnd.mono λw h1 ρ1 H1 x1 hr1 q1 v r=>?_⟩;split at q1;rename_i us e;obtain⟨p,ys,rfl,hq,rs⟩:=eG hr1 e r;exact⟨p,ys,rfl,hq,λl n=>RQ.here hr1 q1 _ _ rs n⟩;exact q1.elim
theorem y6(hN:X.N.Nodup)(hi:X.N[i]?=some x)(hx:sR X.env.scope x)(hf:X.fn x=true\/X.env.scope.names.lookup x=some .local) :
  PS X (.Assign [.Name x p] (.Dict [] [] dp) pos) (dE X.K EX (aL cf fw (.freshD i))):=(fR hN hi hx qc rfl hf).sub λD τ H zq=>by
 obtain⟨ρ,σ,h,re,hr,q⟩:=zq
 intro a n
 have x1:=ext_cell (o:=.dK []) hr n
 refine q _ _ x1 (hr.cellD n) _ ((re.ext x1).set i ?_)
 rw[Rel]
 exact⟨a,rfl,by rw[<- hr.len,zE (zC _),Nat.sub_self];rfl⟩
theorem wL(hN:X.N.Nodup)(hi:X.N[i]?=some x)(hx:sR X.env.scope x)(hf:X.fn x=true\/X.env.scope.names.lookup x=some .local)(ha:PE X a (tI X.K EX (af cf a')))(hb:PE X b (tI X.K EX (af cf b'))) :
  PS X (.Assign [.Name x p] (.Dict [some a] [b] dp) pos) (dE X.K EX (aL cf fw (.freshD1 i a' b'))) :=
 (fR hN hi hx (Cq (AX ha hb E3) rfl rfl zS zS) rfl hf).sub λD τ H zq=>by
 obtain⟨ρ,σ,h,re,hr,q⟩:=zq
 rw[aL]at q
 intro l n
 have x0:=ext_cell (o:=.dK []) hr n
 have hr0:=hr.cellD n
 have hl0:(ρ++[l])[h.length]?=some l:=by rw[<- hr.len,zE (zC _),Nat.sub_self];rfl
 refine⟨_,σ,_,re.ext x0,hr0,(RQ.wk x0 q).bnd.mono λw1 h1 ρ1 H1 x1 hr1 q1 v1 r1=>?_⟩
 refine⟨ρ1,σ,h1,(re.ext x0).ext x1,hr1,q1.bnd.mono λw2 h2 ρ2 H2 x2 hr2 q2 v2 r2=>?_⟩
 have hl2:=x2.at (x1.at hl0)
 split at q2
 ·rename_i s e
  obtain⟨_,xs,z,zl,rs⟩:=hr2.at_ _ l _ hl2 e
  cases aG (Rel.ext x2 _ _ r1)
  cases xs with
  |cons _ _=>cases zl
  |nil =>
  split at q2
  ·rename_i hp
   refine⟨z,[(Sum.inr s,v2)],rfl,by show 1<=15;decide,?_⟩
   have x3:=ext_write (H:=H2) (o:=.dK (([s].map Sum.inr).zip [v2])) hl2
   refine q2 _ _ x3 (hr2.writeD hl2 (by rw[aj,hp];rfl) rfl (.cons r2 .nil)) _ ((((re.ext x0).ext x1).ext x2).ext x3 |>.set i ?_)
   rw[Rel]
   exact⟨l,rfl,hl2⟩
  ·exact q2.elim
 ·exact q2.elim
def Kz:E9:=λo i v H Q=>Fz o i v H Q\/∃a y H',o=.ref a/\i=y/\xN H a y v H'/\Q H'
theorem qw(hu:X.A.units+64<cLine):JK X Kz:=by intro pins s σ H o i v ov iv u Q I ro ri rv h;rcases h with h|⟨a,y,H',rfl,rfl,g,q⟩;exact Ak pins s σ H o i v ov iv u Q I ro ri rv h;cases ro;exact xG (zzP zS hu) I g ri rv λs' I'=>⟨H',I',q⟩
theorem nI:∀{ks:List Str}{ws:List W}{x:Str}{w:W},aj ws=true->ar w=true->aj (o7 ks ws x w)=true
 |[],ws,x,w,h,_=>h
 |k::ks,[],x,w,h,_=>rfl
 |k::ks,u::ws,x,w,h,hw=>by
  rw[aj,zI]at h
  unfold o7
  rw[aj,nI h.2 hw]
  grind
theorem iX(h1:aj ws=true)(h2:ar w=true):aj (ws++[w])=true:=by
 induction ws with
 |nil=>show aj [w]=true;rw[aj,h2];rfl
 |cons u us ih=>rw[aj,zI]at h1;show aj (u::(us++[w]))=true;rw[aj,h1.1,ih h1.2];rfl
theorem w4(h:aj ws=true)(hw:ar w=true):aj (dY ks ws x w).2=true:=by unfold dY;split;exact nI h hw;exact iX h hw
theorem DL(hu:X.A.units+64<cLine)(ha:PE X a (tI X.K EX (af cf a')))(hb:PE X b (tI X.K EX (af cf b')))(he:PE X e (tI X.K EX (af cf e')))(hc:cW e=true)(hpl:iz b=true) :
  PS X (.Assign [.Subscript a b p] e pos) (dE X.K EX (aL cf fw (.setix a' b' e'))):=by
 have hst:swappedStores [.Subscript a b p] e X.env=pure none:=by cases e<;>rfl
 refine(sE he (B8 ha hb (qw hu) (by intro _;cases b<;>first|rfl|(unfold assign;rfl)|(exact absurd hpl (by simp[iz])))) (by unfold swapsWithSole;exact gn hc _ _ _) hst rfl).sub λD τ H zq=>?_
 obtain⟨ρ,σ,h,re,hr,q⟩:=zq
 rw[aL]at q
 refine⟨ρ,σ,h,re,hr,q.bnd.mono λw h1 ρ1 H1 x1 hr1 q1 v r=>?_⟩
 refine⟨ρ1,σ,h1,re.ext x1,hr1,q1.bnd.mono λw2 h2 ρ2 H2 x2 hr2 q2 v2 r2=>?_⟩
 refine⟨ρ2,σ,h2,(re.ext x1).ext x2,hr2,q2.bnd.mono λw3 h3 ρ3 H3 x3 hr3 q3 v3 r3=>?_⟩
 have re3:=((re.ext x1).ext x2).ext x3
 have rv:=Rel.ext x3 _ _ (Rel.ext x2 _ _ r)
 have ro:=Rel.ext x3 _ _ r2
 split at q3
 ·rename_i n k
  cases a7 r3
  rw[Rel]at ro
  obtain⟨l,rfl,hn⟩:=ro
  split at q3
  ·rename_i us e
   obtain⟨pu,xs,z,rs⟩:=hr3.at_ n l _ hn e
   split at q3
   ·rename_i hpure
    split at q3
    ·rename_i j ej
     refine .inl ⟨l,xs,k,j,rfl,rfl,z,by rw[<- rs.length];exact ej,?_⟩
     have pw:aj (us.set j w)=true:=by
      clear ej q3 e rs;induction us generalizing j with
      |nil=>exact pu
      |cons u us ih=>
       rw[aj,zI]at pu;cases j with
       |zero=>show aj (w::us)=true;rw[aj,hpure,pu.2];rfl
       |succ j=>show aj (u::us.set j w)=true;rw[aj,pu.1,ih pu.2];rfl
     exact q3 _ _ (ext_write hn) (hr3.write hn pw (rs.set j rv)) _ (re3.ext (ext_write hn))
    ·exact q3.elim
   ·exact q3.elim
  ·exact q3.elim
 ·rename_i n k
  cases aG r3
  rw[Rel]at ro
  obtain⟨l,rfl,hn⟩:=ro
  split at q3
  ·rename_i ks us e
   obtain⟨pu,xs,z,zl,rs⟩:=hr3.at_ n l _ hn e
   split at q3
   ·rename_i hp
    obtain⟨ys,e1,e2,e3⟩:=qT (x:=k) zl rs rv
    have hlen:((ks.map Sum.inr).zip xs:List (cu×V)).length<sizeLine:=by simp_all
    refine .inr ⟨l,.str k,_,rfl,rfl,xN.k (k:=Sum.inr k) z hlen,?_⟩
    rw[e1]
    exact q3 _ _ (ext_write hn) (hr3.writeD hn (w4 pu hp.1) e2 e3) _ (re3.ext (ext_write hn))
   ·exact q3.elim
  ·exact q3.elim
 ·exact q3.elim
end
section
variable {X:Cx}{EX:cC}{cf:CF}{fw:Nat}{pos:Pos}{a b c e:Expr}{a' b' c' e':E}
theorem qP:∀{xs:List V}{us:List Value},Vals xs us->Vals xs.reverse us.reverse
 |[],_,h=>by cases h;exact .nil
 |x::xs,_,h=>by
  cases h with
  |cons r rs=>rw[List.reverse_cons,List.reverse_cons];exact(qP rs).append (.cons r .nil)
theorem ao.rev{K:Fg0}:∀{ws:List W}{xs:List V},ao K ρ H ws xs->ao K ρ H ws.reverse xs.reverse
 |[],xs,r=>by subst r;rfl
 |w::ws,xs,r=>by obtain⟨x,xs',rfl,r1,r2⟩:=r;rw[List.reverse_cons,List.reverse_cons];exact(ao.rev r2).append (.cons r1 .nil)
end
structure xV (l:List Env) (ha h:Heap) (e:Addr) (C:Value):Prop where
 no:ha.get? e=none
 fly:(∃(B:Heap) (a0:Value),B.FlyingW l e C a0 h/\(∀b o,ha.get? b=some o->b∉gu l->B.get? b=some o))/\(∀b o,ha.get? b=some o->b∈gu l->∃sl,h.get? b=some { o with slots:=sl })
theorem xV.keep(x:xV l ha h e C)(hb:ha.get? b=some o)(n:b∉gu l):h.get? b=some o:=by obtain⟨⟨B,a0,f,k⟩,_⟩:=x.fly;exact f.1 b o (k b o hb n)
theorem xV.cls(x:xV l ha h e C):∃oe,h.get? e=some oe/\oe.cls=C:=by obtain⟨⟨B,a0,f,_⟩,_⟩:=x.fly;exact f.there
theorem Un.same{fs:List Addr}{H:Hp}{h h':Heap}(k:∀b o,h.get? b=some o->b∉fs->h'.get? b=some o)(s:∀b o,h.get? b=some o->b∈fs->∃sl,h'.get? b=some { o with slots:=sl }):Un fs [] H H h h' :=
 ⟨λb o e _ n _=>k b o e n,λb o e _ m _=>s b o e m,λ_ _ _ n _=>n,λb o e _=>(by grind),λ_ _ e=>e,λ_ _ _ e=>e,λb ps e=>⟨#[],by simp_all⟩⟩
theorem eV.same{P:Program}{w:World}{fs:List Addr}{H:Hp}{h h':Heap}(ok:eV P w H h)(k:∀b o,h.get? b=some o->b∉fs->h'.get? b=some o)(n:∀b∈fs,H b=none):eV P w H h':=λb u e =>
 (ok b u e).stay (λc v hc q=>k c v q (λm=>by simp_all)) (λ_ q=>q) λ_ _ q=>q
def XS(X:Cx)(pins:List (Addr×Obj))(σ:L2.St)(H:Hp)(s:Shared)(e:Addr)(C:Value):Prop :=
 ∃sa,Inv X pins σ H sa/\s.os=sa.os/\AllBare s.gens/\xV X.stack sa.heap s.heap e C
section
variable {X:Cx}{pins:List (Addr×Obj)}{σ:L2.St}{H:Hp}{s:Shared}{e:Addr}{C:Value}
theorem xV.hok(x:xV l ha h e C)(ok:eV P w H ha)(n:∀b∈gu l,H b=none):eV P w H h:=eV.same ok (λb o hb m=>x.keep hb m) n
theorem XS.inv(x:XS X pins σ H s e C):Inv X pins σ H s:=by obtain⟨sa,I,os,bare,x⟩:=x;exact I.call'  os (Un.same (λb o hb n=>x.keep hb n) x.fly.2) (x.hok I.hok I.stkFree) bare (λb z=>absurd z zS)
theorem XS.cls(x:XS X pins σ H s e C):∃oe,s.heap.get? e=some oe/\oe.cls=C:=by obtain⟨sa,I,os,bare,x⟩:=x;exact x.cls
def mL(P:Program)(w:World):BX:=λouter H s E e s'=>∃ea C H' ha,e=.ref ea/\s'.os=s.os/\AllBare s'.gens/\Un (gu outer) [] H H' s.heap ha/\eV P w H' ha/\xV outer ha s'.heap ea C/\E C none H'
theorem E8{E:XK}(I:Inv X pins σ H s)(h:mL X.prog X.w X.stack H s E ev s'):∃ea C H',ev=.ref ea/\XS X pins σ H' s' ea C/\E C none H':=by obtain⟨ea,C,H',ha,rfl,os,bare,un,hok,x,q⟩:=h;have I2 :=I.call' (s':={ s with heap:=ha })  rfl un hok I.bare (λb z=>absurd z zS);exact⟨ea,C,H',rfl,⟨_,I2,os,bare,x⟩,q⟩
theorem qA{h h':Heap}{l:List Env}{B:Heap}(up:h.UpToSlots h')(ff:h.FunFrames B l){b:Addr}{o:Obj}(m:b∈gu l)(e:h.get? b=some o):∃sl,h'.get? b=some { o with slots:=sl }:=by obtain⟨_,o',e',d⟩:=ff.mem m;rw[e]at e';cases e';exact up b o e d
theorem f9(e:h.get? b=some o)(n:b∉as):(PySem.W.hideAll h as).get? b=some o:=PySem.W.hideAll_get as e n
end
theorem wO{CX:BX}{P:Program}{w:World}{A:Around}{env:Env}{outer:List Env}{L:Addr}{H H':Hp}{s s1:Shared}{E:XK}{e:Addr}{C:Value}{ha:Heap}{E2:Value->Shared->Prop}
  (hf:A.frames=some (env::outer)) (hL:env.frame=some L) (hn:s.heap.get? L=none) (hN:∀b∈gu outer,H' b=none) (hL0:H' L=none) (hLo:L∉gu outer)
  (un:Un (gu outer) [] H H' s.heap ha) (hok:eV P w H' ha) (os:s1.os=s.os) (bare:AllBare s1.gens) (x:xV (env::outer) ha s1.heap e C) (q:E C none H') :
  wpAny (model P w) A (leaving env (.ref e)) (λ_ s''=>mL P w outer H s E (.ref e) s'') E2 s1:=by
 obtain⟨⟨B,a0,f,k⟩,sl⟩:=x.fly
 have frs_cons:gu (env::outer)=L::gu outer:=by unfold gu;simp[hL]
 refine wpAny_leaves_onW hf hL f λh' f' up=>?_
 refine⟨e,C,H',PySem.W.hideAll ha [L],rfl,os,bare,?_,?_,⟨?_,⟨B,a0,f',λb o hb m=>?_⟩,λb o hb m=>?_⟩,q⟩
 ·have pQ:∀b o,s.heap.get? b=some o->∀o',ha.get? b=some o'->(PySem.W.hideAll ha [L]).get? b=some o':=λb o e o' e'=>f9 e' (by simp;rintro rfl;rw[hn]at e;cases e)
  exact⟨λb o e n m c=>pQ b o e _ (un.keep b o e n m c),λb o e n m c=>let ⟨sl,z⟩:=un.slot b o e n m c;⟨sl,pQ b o e _ z⟩,un.free,λb o e c=>let ⟨o',z⟩:=un.there b o e c;⟨o',pQ b o e _ z⟩,un.tups,un.frzs,un.tbls⟩
 ·exact eV.same (fs:=[L]) hok (λb o hb m=>f9 hb m) (λb hb=>by rw[zT.mp hb];exact hL0)
 ·cases z:(PySem.W.hideAll ha [L]).get? e with
  |none=>rfl
  |some o=>have:=ZY _ z;rw[x.no]at this;cases this
 ·have hb':=ZY _ hb
  refine k b o hb' ?_
  rw[frs_cons]
  intro z
  rcases zV.mp z with rfl|z
  ·have:=zz5 [b] (h:=ha) (b:=b) zS
   rw[this]at hb;cases hb
  ·exact m z
 ·have hb':=ZY _ hb
  have m':b∈gu (env::outer):=by rw[frs_cons];exact zo _ m
  obtain⟨sl1,z1⟩:=sl b o hb' m'
  obtain⟨sl2,z2⟩:=qA (l:=env::outer) up f.2.2.1 m' z1
  exact⟨sl2,z2⟩
abbrev xR:List Value:=[.type "ValueError",.type "Exception",.type "BaseException",.type "object"]
abbrev newV:String:="ValueError.__new__"
structure Eo (h:Heap) (C:Addr) (bm:List Value):Prop where
 obj:∃N nm q bs hdct sn sub ab col dd k0 k1 k2 k3 k5 mN,h.get? C=some (excClassObj nm q C N bs bm hdct sn sub ab col dd k0 k1 k2 k3 k5 newV)/\h.Ns N mN/\mN "__init__"=none/\OwnTail h xR bm
theorem Eo.keeps(o:Eo h C bm)(k:∀b u,h.get? b=some u->h'.get? b=some u):Eo h' C bm:=by obtain⟨N,nm,q,bs,a,sn,sub,ab,col,dd,k0,k1,k2,k3,k5,mN,e1,e2,e3,e4⟩:=o.obj;exact⟨N,nm,q,bs,a,sn,sub,ab,col,dd,k0,k1,k2,k3,k5,mN,k _ _ e1,e2.keeps k,e3,e4.keeps k⟩
theorem Eo.top(o:Eo h C bm):bm.contains (.type "BaseException")=true:=by obtain⟨N,nm,q,bs,a,sn,sub,ab,col,dd,k0,k1,k2,k3,k5,mN,e1,e2,e3,e4⟩:=o.obj;exact e4.hasType rfl
theorem nU {E:Value→Shared→Prop} (hC:Eo s.heap C bm) (hD:Eo s.heap D bd) (he:s.heap.get? e=some oe) (hc:oe.cls=.ref C)
    (hq:Q ((Value.ref C::bm).contains (.ref D)) s):wpAny M A (excMatches (.ref e) (.ref D)) Q E s:=by
  have hB:(Value.ref D::bd).contains (.type "BaseException")=true:=by rw [List.contains_cons,hD.top,Bool.or_true]
  obtain ⟨N,nm,q,bs,hdct,sn,sub,ab,col,dd,k0,k1,k2,k3,k5,mN,oC,_⟩:=hC.obj
  obtain ⟨N',nm',q',bs',hdct',sn',sub',ab',col',dd',k0',k1',k2',k3',k5',mN',oD,_⟩:=hD.obj
  obtain ⟨hh,g,d,t,os⟩:=s
  have nt:=tc_notTuple
  unfold excMatches
  repeat (first
    | (with_reducible refine ZI he ?_;rw [hc])
    | with_reducible refine ZI oD ?_
    | (with_reducible refine zzg oD ?_;rw [hB])
    | with_reducible refine zzg oC ?_
    | wp_step)
  cases z:(Value.ref C::bm).contains (.ref D) with
  | true => rw [z] at hq; repeat wp_step
            exact hq
  | false => rw [z] at hq; repeat wp_step
             exact hq
theorem nN{h B B':Heap}:∀{l:List Env},(∀L∈gu l,B'.get? L=none)->h.FunFrames B l->h.FunFrames B' l
 |[],_,f=>f
 |env::l,n,f=>by
  unfold Heap.FunFrames at f ⊢;obtain⟨h1,⟨L,o,h2,h3,h4⟩,h5⟩:=f;have fc:gu (env::l)=L::gu l:=by unfold gu;simp_all
  exact⟨h1,⟨L,o,h2,n L (by simp_all),h4⟩,nN (λb hb=>n b (by simp_all)) h5⟩
theorem sU{P:Program}{w:World}{A:Around}{env:Env}{outer:List Env}{L:Addr}{H H':Hp}{s s2:Shared}{h1 B0:Heap}{E:XK}{e:Addr}{C:Value}{args:List Value}{E2:Value->Shared->Prop}
  (hf:A.frames=some (env::outer)) (hL:env.frame=some L) (hn:s.heap.get? L=none) (hL0:H' L=none)
  (ff:s2.heap.FunFrames B0 (env::outer)) (un:Un (gu outer) [] H H' s.heap s2.heap) (hok:eV P w H' s2.heap) (os:s2.os=s.os) (bare:AllBare s2.gens) (x:s2.heap.MadeExcOf h1 e C args) (q:E C none H') :
  wpAny (model P w) A (leaving env (.ref e)) (λ_ s''=>mL P w outer H s E (.ref e) s'') E2 { s2 with heap:=h1 }:=by
 have fc:gu (env::outer)=L::gu outer:=by unfold gu;simp[hL]
 have ff2:=nN (B':=PySem.W.hideAll s2.heap (gu (env::outer))) (λb hb=>zz5 _ hb) ff
 refine wpAny_leaves_madeW  hf hL (λb o hb=>ZY _ hb) ff2 x λh' t f' _ _ up=>?_
 refine⟨e,C,H',PySem.W.hideAll s2.heap [L],rfl,os,bare,?_,?_,⟨?_,⟨_,_,f',λb o hb m=>?_⟩,λb o hb m=>?_⟩,q⟩
 ·have pQ:∀b o,s.heap.get? b=some o->∀o',s2.heap.get? b=some o'->(PySem.W.hideAll s2.heap [L]).get? b=some o':=λb o e o' e'=>f9 e' (by simp;rintro rfl;rw[hn]at e;cases e)
  exact⟨λb o e n m c=>pQ b o e _ (un.keep b o e n m c),λb o e n m c=>let ⟨sl,z⟩:=un.slot b o e n m c;⟨sl,pQ b o e _ z⟩,un.free,λb o e c=>let ⟨o',z⟩:=un.there b o e c;⟨o',pQ b o e _ z⟩,un.tups,un.frzs,un.tbls⟩
 ·exact eV.same (fs:=[L]) hok (λb o hb m=>f9 hb m) (λb hb=>by rw[zT.mp hb];exact hL0)
 ·cases z:(PySem.W.hideAll s2.heap [L]).get? e with
  |none=>rfl
  |some o=>have:=ZY _ z;rw[x.new]at this;cases this
 ·have hb':=ZY _ hb
  refine f9 hb' ?_
  rw[fc]
  intro z
  rcases zV.mp z with rfl|z
  ·have:=zz5 [b] (h:=s2.heap) (b:=b) zS
   rw[this]at hb;cases hb
  ·exact m z
 ·have hb':=ZY _ hb
  have m':b∈gu (env::outer):=by rw[fc];exact zo _ m
  obtain⟨_,o',e',d⟩:=ff2.mem m'
  rw[hb']at e';cases e'
  exact up b o (x.keeps b o hb') d
def XL(cl:Nat->Addr)(X:Cx)(EX:cC):Prop:=∀pins σ H s e c h ρ,XS X pins σ H s e (.ref (cl c))->a8 X.K ρ h H->EX c h ρ H->X.xe (.ref e) s
def XM(cl:Nat->Addr)(X:Cx)(EX:cC):Prop:=∀pins σ H s h1 e c h ρ args,Inv X pins σ H s->s.heap.MadeExcOf h1 e (.ref (cl c)) args->a8 X.K ρ h H->EX c h ρ H->X.xe (.ref e) { s with heap:=h1 }
theorem XL.no(h:∀c h ρ H,¬ EX c h ρ H):XL cl X EX:=λpins σ H s e c h' ρ _ _ z=>(h c h' ρ H z).elim
section
variable {P:Program}{w:World}{K:Fg0}{mg:Str->Option Value}{base:Heap}{N:List Str}{qual:Str}{scope:Scope}{f:Addr}{cd:Value}{A:Around}{outer:List Env}{s:Shared}{H:Hp}{E:XK}{cl:Nat->Addr}
theorem B2:XL cl (lV (mL P w) P w K mg base N qual scope f cd A outer s H E) (λc _ _ H'=>E (.ref (cl c)) none H'):=by
 intro pins σ H1 s1 e c h ρ zq8 _ q;obtain⟨sa,I,os,bare,x⟩:=zq8;have hn:s.heap.get? s.heap.objs.size=none:=Heap.get?_none_of_le (zC _)
 exact wO (CX:=mL P w)   (H:=H) (s:=s) (ha:=sa.heap) I.ok.frames rfl hn (λb hb=>I.stkFree b (by show b∈gu (_::outer);unfold gu at hb ⊢;grind)) I.free (λz=>by
  obtain⟨_,o,ho,_⟩:=I.ok.funs.mem z
  rw[show(lV (mL P w) P w K mg base N qual scope f cd A outer s H E).s₀=s from rfl,hn]at ho;cases ho) I.base I.hok (os.trans I.os) bare x q
theorem y7:XM cl (lV (mL P w) P w K mg base N qual scope f cd A outer s H E) (λc _ _ H'=>E (.ref (cl c)) none H'):=by intro pins σ H1 s1 h1 e c h ρ args I x _ q;have hn:s.heap.get? s.heap.objs.size=none:=Heap.get?_none_of_le (zC _);exact sU     I.ok.frames rfl hn I.free I.stack I.base I.hok I.os I.bare x q
end
section
variable {X:Cx}{EX:cC}{cf:CF}{fw:Nat}{pos:Pos}{a b c e:Expr}{a' b' c' e':E}
def eO(e:Expr):Bool:=match e with
 |.Call (.Name _ _) [] [] _=>false
 |_=>true
theorem eR(h:eO o=true)(n)(env)(w):attributeBase o n env w=w:=by unfold attributeBase;split;cases h;rfl
theorem fN(h1:aj us=true)(h2:ar w=true):aj (us++[w])=true:=by
 induction us with
 |nil=>show aj [w]=true;rw[aj,h2];rfl
 |cons u us ih=>rw[aj,zI]at h1;show aj (u::(us++[w]))=true;rw[aj,h1.1,ih h1.2];rfl
theorem pJ{K:Fg0}(hr:a8 K ρ h H)(r:Rel K ρ H (.ref n) v)(e:h[n]?=some (.lst us)):∃l ys,v=.ref l/\ρ[n]?=some l/\H l=some (.lst ys)/\aj us=true/\ao K ρ H us ys:=by obtain⟨l,rfl,hn⟩:=r;obtain⟨pu,ys,hy,rs⟩:=hr.at_ n l _ hn e;simp_all
theorem Ep{m:Mt}{τ:L2.St}{H:Hp}{Q:VK}{R:V->Hp->Prop}{as:List E}{K:Fg0}(q:tI K EX (af cf (.meth m a' as)) τ H Q)
  (k:∀ρ σ h H1 w v,bE K ρ H1 σ τ->a8 K ρ h H1->Rel K ρ H1 w v->eT m h w=true->RQ K EX ρ H1 (bnd (bL cf as σ h) λws h=>jr m w ws h) (λw _ ρ' H'=>∀v,Rel K ρ' H' w v->Q v H')->R v H1):tI K EX (af cf a') τ H R:=by
 obtain⟨ρ,σ,h,re,hr,q⟩:=q
 refine⟨ρ,σ,h,re,hr,q.bnd.mono λw h1 ρ1 H1 x1 hr1 q1 v r=>?_⟩
 split at q1
 ·rename_i hi;exact k ρ1 σ h1 H1 w v (re.ext x1) hr1 r hi q1
 ·exact q1.elim
theorem B7{K:Fg0}(hr:a8 K ρ h H)(r:Rel K ρ H w v)(hi:(bN h w).isSome=true):NT K "list" v H:=by obtain⟨ws,ew⟩:=ZV.mp hi;obtain⟨l,xs,rfl,hx,rs⟩:=cm hr ew r;exact .inl ⟨rfl,xs,.inl (.inl hx)⟩
theorem yY{apos:Pos}(ha:PE X a (tI X.K EX (af cf a')))(he:PE X e (tI X.K EX (af cf e')))(hs:az e=true)(hb:eO a=true)(hl:apos.endLine=pos.line) :
  PE X (.Call (.Attribute a "append" apos) [e] [] pos) (tI X.K EX (af cf (.meth .append a' [e']))) :=
 (Fs PySem.F.plainAttrs_list PySem.F.slot_list_append PySem.F.type_list_append oo ha (aM he bF (au hs _ _)) (eR hb _ _ _) (by rw[au hs];rfl) (by simp[hl]) (au hs _ _) (by rfl)).sub λτ H Q q=>Ep q λρ σ h H1 w v re hr r hi q=>by
  rw[dJ,cV]at q;refine⟨B7 hr r hi,ρ,σ,h,re,hr,q.bnd.mono λw2 h2 ρ2 H2 x2 hr2 q2 v2 r2=>?_⟩;have q3:RQ X.K EX ρ2 H2 (DI w w2 h2) _:=q2;cases w with
  |ref n=>unfold DI at q3;dsimp only at q3;split at q3;rename_i us e;obtain⟨l,ys,rfl,hn,hy,pu,rs⟩:=pJ hr2 (Rel.ext x2 _ _ r) e;split at q3;rename_i hp;exact⟨l,ys,v2,rfl,rfl,hy,by rw[<- rs.length];exact hp.2,q3 _ _ (ext_write hn) (hr2.write hn (fN pu hp.1) (rs.append (.cons r2 .nil))) _ l8⟩;exact q3.elim;exact q3.elim
  |_=>exact q3.elim
theorem wb(h1:aj us=true)(h2:aj ws=true):aj (us++ws)=true:=by
 induction us with
 |nil=>exact h2
 |cons u us ih=>rw[aj,zI]at h1;show aj (u::(us++ws))=true;rw[aj,h1.1,ih h1.2];rfl
theorem ya{apos:Pos}(ha:PE X a (tI X.K EX (af cf a')))(he:PE X e (tI X.K EX (af cf e')))(hs:az e=true)(hb:eO a=true)(hl:apos.endLine=pos.line) :
  PE X (.Call (.Attribute a "extend" apos) [e] [] pos) (tI X.K EX (af cf (.meth .extend a' [e']))) :=
 (Fs PySem.F.plainAttrs_list PySem.F.slot_list_extend PySem.F.type_list_extend xn ha (aM he bF (au hs _ _)) (eR hb _ _ _) (by rw[au hs];rfl) (by simp[hl]) (au hs _ _) (by rfl)).sub λτ H Q q=>Ep q λρ σ h H1 w v re hr r hi q=>by
  rw[dJ,cV]at q;refine⟨B7 hr r hi,ρ,σ,h,re,hr,q.bnd.mono λw2 h2 ρ2 H2 x2 hr2 q2 v2 r2=>?_⟩;have q3:RQ X.K EX ρ2 H2 (EM w w2 h2) _:=q2;cases w with
  |ref n=>unfold EM at q3;dsimp only at q3;split at q3;rename_i us e;obtain⟨l,ys,rfl,hn,hy,pu,rs⟩:=pJ hr2 (Rel.ext x2 _ _ r) e;split at q3;rename_i ws e2;obtain⟨b,zs,rfl,hb2,rz⟩:=cm hr2 e2 r2;split at q3;rename_i hp;exact⟨l,b,ys,zs,rfl,rfl,hy,hb2,by rw[<- rs.length,<- rz.length];exact hp.2,q3 _ _ (ext_write hn) (hr2.write hn (wb pu hp.1) (rs.append rz)) _ l8⟩;exact q3.elim;exact q3.elim;exact q3.elim
  |_=>exact q3.elim
theorem oj:∀{us:List W} (n:Nat),aj us=true->aj (us.take n)=true
 |_,0,_=>rfl
 |[],_+1,_=>rfl
 |u::us,n+1,p=>by rw[aj,zI]at p;show aj (u::us.take n)=true;rw[aj,p.1,oj n p.2];rfl
theorem Lf{apos:Pos}(ha:PE X a (tI X.K EX (af cf a')))(hb:eO a=true)(hl:apos.endLine=pos.line) :
  PE X (.Call (.Attribute a "pop" apos) [] [] pos) (tI X.K EX (af cf (.meth .pop a' []))) :=
 (GH PySem.F.plainAttrs_list PySem.F.slot_list_pop PySem.F.type_list_pop Gq ha (eR hb _ _ _) (by simp[hl])).sub λτ H Q q=>Ep q λρ σ h H1 w v re hr r hi q=>by
  refine⟨B7 hr r hi,?_⟩;have q3:RQ X.K EX ρ H1 (G3 w h) _:=q;cases w with
  |ref n=>unfold G3 at q3;dsimp only at q3;split at q3;rename_i us e;obtain⟨l,ys,rfl,hn,hy,pu,rs⟩:=pJ hr r e;split at q3;rename_i w0 e0;obtain⟨y,ey,ry⟩:=rs.get e0;refine⟨l,ys,y,rfl,rfl,hy,by rw[<- rs.length];exact ey,?_⟩;rw[List.dropLast_eq_take];rw[List.dropLast_eq_take]at q3;have z:=q3 _ _ (ext_write (H:=H1)  hn) (hr.write hn (oj _ pu) (by have:=rs.take (us.length-1);rw[rs.length]at this ⊢;exact this));exact z _ (Rel.ext (ext_write hn) _ _ ry);exact q3.elim;exact q3.elim
  |_=>exact q3.elim
theorem Nq{apos:Pos}(hu:X.A.units+64<cLine)(ha:PE X a (tI X.K EX (af cf a')))(he:PE X e (tI X.K EX (af cf e')))(hs:az e=true)(hb:eO a=true)(hl:apos.endLine=pos.line) :
  PE X (.Call (.Attribute a "get" apos) [e] [] pos) (tI X.K EX (af cf (.meth .get a' [e']))) :=
 (A6 (zzP zS hu) ha he ⟨eR hb _ _ _,by rw[au hs];rfl,by simp[hl],by rw[au hs];rfl⟩).sub λτ H Q q=>Ep q λρ σ h H1 w v re hr r hi q=>by
  rw[dJ,cV]at q;obtain⟨⟨ks,ws⟩,e0⟩:=ZV.mp (hi);obtain⟨p,xs,rfl,hd,hl2,rs⟩:=cy hr e0 r;refine⟨p,rfl,.inl ⟨_,hd⟩,ρ,σ,h,re,hr,q.bnd.mono λw2 h2 ρ2 H2 x2 hr2 q2 v2 r2=>?_⟩;have q3:RQ X.K EX ρ2 H2 (Ey w w2 .non h2) _:=q2;unfold Ey at q3;split at q3;rename_i ks2 ws2 e2;obtain⟨p2,ys,ep,hd2,hl3,rs2⟩:=cy hr2 e2 (Rel.ext x2 _ _ r);cases ep;cases w2 with
  |str k=>
   cases aG r2;refine⟨_,.inl ⟨_,Sum.inr k,hd2,rfl,rfl⟩,?_⟩;obtain⟨g1,g2⟩:=j8 (x:=k) hl3 rs2;dsimp only at q3;cases eg:eU ks2 ws2 k with
   |none=>rw[eg]at q3;rw[g2 eg];exact RQ.here hr2 q3 _ l8
   |some w3=>rw[eg]at q3;obtain⟨v3,e3,r3⟩:=g1 w3 eg;rw[e3];exact RQ.here hr2 q3 _ r3
  |_=>exact q3.elim
  exact q3.elim
def FU(K:Fg0)(cl:Nat->Addr)(cf:CF)(f:Nat)(np:Nat):Sp:=λvs H Q E=>vs.length=np /\
 ∃ρ h ws,a8 K ρ h H/\ao K ρ H ws vs/\RQ K (λc _ _ H'=>E (.ref (cl c)) none H') ρ H (cf f ws h) λw _ ρ' H'=>∀v,Rel K ρ' H' w v->Q v H'
def Qq(K:Fg0)(cl:Nat->Addr)(EX:cC):XK:=λC _ H'=>∃c h ρ,C=.ref (cl c)/\a8 K ρ h H'/\EX c h ρ H'
theorem XL.passes(hX:XL cl X EX):iS (mL X.prog X.w) X (Qq X.K cl EX):=λpins σ H s e s' I h=>by obtain⟨ea,C,H',rfl,x,c,h2,ρ,rfl,hr,q⟩:=E8 I h;exact hX pins σ H' s' ea c h2 ρ x hr q
theorem yN
  (F:eF X.prog X.w X.K X.mg X.base (mL X.prog X.w) k f fd ps (FU X.K cl cf fn np)) (hr:bX k X.A) (hg:Gl X x) (hm:X.mg x=some (.ref f)) (hk:PySem.W.keepIn X.K (.ref f)=true) (hb:Binds X.K fd ps [])
  (hX:XL cl X EX) (hdb:(x==("__debug__":Str))=false) (hs:(e::es).all az=true) (hl:(e::es).length=np) (hl':es'.length=np)
  (ha:PA X (e::es) (mV X.K EX (bL cf es'))) (hv:∀σ h ws h',bL cf es' σ h=.ok ws h'->ws.length=np) :
  PE X (.Call (.Name x p) (e::es) [] pos) (tI X.K EX (af cf (.call fn es'))):=by
 have hs':=hs
 rw[ZO,zI]at hs'
 refine(C1 F hr hg hm hk hb .nil hX.passes ha hdb (au hs'.1 es X.env) (fD hs'.2 pos X.env)).sub λτ H Q zq=>?_
 obtain⟨ρ,σ,h,re,hr,q⟩:=zq
 rw[af]at q
 refine⟨ρ,σ,h,re,hr,?_⟩
 cases e:bL cf es' σ h with
 |stuck=>rw[e]at q;exact q.elim
 |exc c h1=>rw[e]at q;exact q
 |ok ws h1 =>
  have hw:=hv _ _ _ _ e
  rw[e]at q
  intro ρ1 H1 x1 hr1 vs rs
  have q1:RQ X.K EX ρ1 H1 (cf fn ws h1) (λw _ ρ' H'=>∀v,Rel X.K ρ' H' w v->Q v H'):=q.bnd ρ1 H1 x1 hr1
  refine⟨by rw[Zi,<- rs.length];exact hw,ρ1,h1,ws,hr1,by simp_all,?_⟩
  cases e2:cf fn ws h1 with
  |ok w h2=>rw[e2]at q1;exact q1
  |exc c h2=>rw[e2]at q1;exact λρ2 H2 x2 hr2=>⟨c,h2,ρ2,rfl,hr2,q1 ρ2 H2 x2 hr2⟩
  |stuck=>rw[e2]at q1;exact q1
theorem fO:∀{es:List E}{σ:ai}{h:aa}{ws:List W}{h':aa},bL cf es σ h=.ok ws h'->ws.length=es.length
 |[],σ,h,ws,h',e=>by cases e;rfl
 |a::es,σ,h,ws,h',e=>by
  rw[bL]at e;cases e1:af cf a σ h with
  |stuck=>rw[e1]at e;cases e
  |exc c h1=>rw[e1]at e;cases e
  |ok w h1=>
   rw[e1]at e;have e':bnd (bL cf es σ h1) (λws h=>Res.ok (w::ws) h)=.ok ws h':=e;cases e2:bL cf es σ h1 with
   |stuck=>rw[e2]at e';cases e'
   |exc c h1=>rw[e2]at e';cases e'
   |ok us h2=>rw[e2]at e';cases e';simp[fO e2]
theorem a8.cut{K:Fg0}(x:Ext ρ H ρ' H')(hl:ρ.length=n0)(hr:a8 K ρ' h' H'):a8 K ρ (h'.take n0) H':=by
 obtain⟨t,rfl⟩:=x.pre;have hlen:=hr.len;rw[zM]at hlen;refine⟨by rw[Zo];lia,(ZK.mp hr.nd).1,λn a o e1 e2=>?_⟩;have hn:n<n0:=by rw[<- hl];grind
 rw[List.getElem?_take_of_lt hn]at e2;have q:=hr.at_ n a o (by grind) e2;cases o with
 |lst ws=>obtain⟨p,xs,e,r⟩:=q;exact⟨p,xs,e,ao.less (λb hb=>Zl _ hb) ws xs p r⟩
 |dic ks ws=>obtain⟨p,xs,e,l,r⟩:=q;exact⟨p,xs,e,l,ao.less (λb hb=>Zl _ hb) ws xs p r⟩
theorem Ext.cut(x:Ext ρ H ρ' H'):Ext ρ H ρ H':=⟨List.prefix_refl _,x.keep,λ_ _ _ z=>z⟩
mutual
theorem vZ{K:Fg0}(hr:a8 K (ρ++t) h H)(hl:ρ.length=n0):∀w u v,iE h n0 w=some u->Rel K (ρ++t) H w v->Rel K ρ H u v
 |.non,u,v,e,r=>by cases e;rw[Rel]at r ⊢;exact r
 |.bl _,u,v,e,r=>by cases e;rw[Rel]at r ⊢;exact r
 |.int _,u,v,e,r=>by cases e;rw[Rel]at r ⊢;exact r
 |.str _,u,v,e,r=>by cases e;rw[Rel]at r ⊢;exact r
 |.tup ws,u,v,e,r=>by rw[iE]at e;obtain⟨us,e1,rfl⟩:=Zk.mp e;rw[Rel]at r ⊢;obtain⟨a,xs,ea,q,rs⟩:=r;exact⟨a,xs,ea,q.imp (λz=>⟨λy=>z.1 (Zl _ y),z.2⟩) id,fb hr hl ws us xs e1 rs⟩
 |.lst ws,u,v,e,r=>by rw[iE]at e;obtain⟨us,e1,rfl⟩:=Zk.mp e;rw[Rel]at r ⊢;obtain⟨a,xs,ea,n,q,rs⟩:=r;exact⟨a,xs,ea,λy=>n (Zl _ y),q,fb hr hl ws us xs e1 rs⟩
 |.scr ws,u,v,e,r=>by rw[iE]at e;obtain⟨us,e1,rfl⟩:=Zk.mp e;rw[Rel]at r ⊢;obtain⟨a,xs,ea,q,rs⟩:=r;exact⟨a,xs,ea,q.imp (λz=>⟨λy=>z.1 (Zl _ y),z.2⟩) id,fb hr hl ws us xs e1 rs⟩
 |.dic ks ws,u,v,e,r=>by rw[iE]at e;obtain⟨us,e1,rfl⟩:=Zk.mp e;rw[Rel]at r ⊢;obtain⟨a,xs,ea,n,q,l,rs⟩:=r;exact⟨a,xs,ea,λy=>n (Zl _ y),q,l,fb hr hl ws us xs e1 rs⟩
 |.ins c ws,u,v,e,r=>by rw[iE]at e;obtain⟨us,e1,rfl⟩:=Zk.mp e;rw[Rel]at r ⊢;obtain⟨a,dx,xs,C,ea,n,q,l,z,rs⟩:=r;exact⟨a,dx,xs,C,ea,λy=>n (Zl _ y),q,l,z,fb hr hl ws us xs e1 rs⟩
 |.ref n,u,v,e,r=>by
  rw[iE]at e;rw[Rel]at r;obtain⟨a,rfl,hn⟩:=r;have sub:∀b,b∈ρ->b∈ρ++t:=λb hb=>Zl _ hb;have na:¬ n<n0->a∉ρ:=λhlt hm=>by rw[zE zL]at hn;exact(ZK.mp hr.nd).2.2 a hm a (zH hn) rfl
  split at e;rename_i hlt;cases e;rw[Rel];exact⟨a,rfl,by rw[zJ zL]at hn;exact hn⟩;rename_i hlt;split at e;rename_i ws ew;cases e;obtain⟨p,xs,hx,rs⟩:=hr.at_ n a _ hn ew;rw[Rel];exact⟨a,xs,rfl,na hlt,hx,ao.less sub ws xs p rs⟩;rename_i ks ws ew;cases e;obtain⟨p,xs,hx,hlx,rs⟩:=hr.at_ n a _ hn ew;rw[Rel];exact⟨a,xs,rfl,na hlt,.inl hx,hlx,ao.less sub ws xs p rs⟩;cases e
theorem fb{K:Fg0}(hr:a8 K (ρ++t) h H)(hl:ρ.length=n0):∀ws us xs,fQ h n0 ws=some us->ao K (ρ++t) H ws xs->ao K ρ H us xs
 |[],us,xs,e,r=>by cases e;rw[ao]at r ⊢;exact r
 |w::ws,us,xs,e,r=>by rw[fQ]at e;rw[ao]at r;obtain⟨y,ys,rfl,r1,r2⟩:=r;split at e;rename_i u us' e1 e2;cases e;exact .cons (vZ hr hl w u y e1 r1) (fb hr hl ws us' ys e2 r2);cases e
end
theorem RQ.fin{K:Fg0}{ρ:List Addr}{H:Hp}{h:aa}{r:Res Fl}{Q:VK}{EK:Nat->Hp->Prop}(hr:a8 K ρ h H)
  (q:RQ K (λc _ _ H'=>EK c H') ρ H (J.fin h.length r) λw _ ρ' H'=>∀v,Rel K ρ' H' w v->Q v H') :
  RQ K (λc _ _ H'=>EK c H') ρ H r (kF K { nx:=λ_ H'=>Q .non H',rt:=Q }):=by
 have hl :=hr.len
 cases r with
 |stuck=>exact q
 |exc c h'=>exact λρ' H' x hr'=>q ρ H' x.cut (hr'.cut x hl)
 |ok fl h' =>
  intro ρ' H' x hr'
  have hc:=hr'.cut x hl
  cases fl with
  |nx σ=>exact λτ re=>q ρ H' x.cut hc _ l8
  |brk σ=>exact q.elim
  |cnt σ=>exact q.elim
  |ret w =>
   intro v r
   have q':RQ K (λc _ _ H'=>EK c H') ρ H (match iE h' h.length w with|some u=>.ok u (h'.take h.length)|none=>.stuck) λw _ ρ' H'=>∀v,Rel K ρ' H' w v->Q v H':=q
   split at q'
   ·rename_i u e
    obtain⟨t,rfl⟩:=x.pre
    exact q' ρ H' x.cut hc v (vZ hr' hl w u v e r)
   ·exact q'.elim
theorem RQ.finO{K:Fg0}{ρ:List Addr}{H:Hp}{h:aa}{r:Res Fl}{Q:VK}{EK:Nat->Hp->Prop}(hr:a8 K ρ h H)
  (q:RQ K (λc _ _ H'=>EK c H') ρ H (J.finO h.length r) λw _ ρ' H'=>∀v,Rel K ρ' H' w v->Q v H') :
  RQ K (λc _ _ H'=>EK c H') ρ H r (kF K { nx:=λ_ H'=>Q .non H',rt:=Q }):=by
 unfold J.finO at q
 split at q
 ·rename_i n h'
  have hl:ρ.length=h.length:=hr.len
  intro ρ' H' x hr' v r
  rw[Rel]at r
  obtain⟨a,rfl,hn⟩:=r
  split at q
  ·rename_i hlt
   refine q ρ H' x.cut (hr'.cut x hl) _ ?_
   rw[Rel]
   obtain⟨t,rfl⟩:=x.pre
   exact⟨a,rfl,by rw[zJ (by simp_all)]at hn;exact hn⟩
  ·rename_i hlt
   split at q
   ·rename_i ws e
    obtain⟨p,xs,hx,rs⟩:=hr'.at_ n a _ hn e
    have hc:=hr'.cut x hl
    have ha:a∈ρ':=zH hn
    have na:a∉ρ:=λhm=>by obtain⟨t,rfl⟩:=x.pre;rw[zE (by simp_all)]at hn;exact(ZK.mp hr'.nd).2.2 a hm a (zH hn) rfl
    have sub:∀b,b∈ρ++[a]->b∈ρ':=λb hb=>by rcases Ze.mp hb with hb|hb;exact x.pre.subset hb;rw[zT.mp hb];exact ha
    have hlen:(h'.take h.length).length=h.length:=by rw[<- hc.len,hl]
    refine q (ρ++[a]) H' ⟨List.prefix_append _ _,x.keep,λb o eb nb hb=>?_⟩ ⟨by simp[<- hc.len],?_,λm b o e1 e2=>?_⟩ _ ?_
    ·rcases Ze.mp hb with hb|hb
     ·exact nb hb
     ·exact x.out b o eb nb (by rw[zT.mp hb];exact ha)
    ·rw[ZK]
     exact⟨hc.nd,zS,λb hb c hc'=>by rw[zT.mp hc'];rintro rfl;exact na hb⟩
    ·by_cases hm:m<ρ.length
     ·rw[zJ hm]at e1
      rw[zJ (by simp_all),List.getElem?_take_of_lt (by simp_all)]at e2
      obtain⟨t,rfl⟩:=x.pre
      have z:=hr'.at_ m b o (by rw[zJ hm];exact e1) e2
      cases o with
      |lst us=>obtain⟨p,ys,e,r⟩:=z;exact⟨p,ys,e,ao.less sub us ys p r⟩
      |dic ks us=>obtain⟨p,ys,e,l,r⟩:=z;exact⟨p,ys,e,l,ao.less sub us ys p r⟩
     ·rw[zE (by simp_all)]at e1
      rw[zE (by simp_all),hlen,<- hl]at e2
      cases em:m-ρ.length with
      |succ k=>rw[em]at e1;cases e1
      |zero =>
       rw[em]at e1 e2
       cases e1
       cases e2
       exact⟨p,xs,hx,ao.less sub ws xs p rs⟩
    ·rw[Rel]
     exact⟨a,rfl,by rw[<- hl,zE (zC _),Nat.sub_self];rfl⟩
   ·exact q.elim
 ·exact RQ.fin hr q
theorem mX{K:Fg0}(r:ao K ρ H ws vs):bE K ρ H (ws.map some++List.replicate (N.length-ws.length) none) (start N vs):=by
 have hl:=r.length;refine⟨by unfold L2.start;simp[hl],λi w e=>?_⟩;by_cases hi:i<ws.length;rw[zJ (by simpa using hi),Za]at e;cases e1:ws[i]? with
 |none=>rw[e1]at e;cases e
 |some u=>rw[e1]at e;have e':u=w:=z9 (z9 e);subst e';obtain⟨v,h1,h2⟩:=r.get e1;refine⟨v,?_,h2⟩;unfold L2.start;rw[zJ (by simp;simp_all),Za,h1];rfl
 rw[zE (by simpa using hi),List.getElem?_replicate]at e;simp_all
theorem L6{P:Program}{K:Fg0}{st:Stmt}
  (F:HU K x qual st f fd) (S:fJ N ps (ay st)) (hg:tb[fn]?=some g) (hnp:g.np=ps.length) (hns:g.ns=N.length)
  (body:∀X EX,X.prog=P->X.w=w->X.K=K->X.mg=mg->X.base=base->X.N=N->X.env.scope=ay st->X.calm=true->(X.fn=λ_=>true)->PassesOwn (model X.prog X.w) X.A X.env X.xe->(X.stack=X.env::X.outer/\X.env.frame=some X.env.locals)->XL cl X EX->XM cl X EX->bX k X.A ->
   PSs X (aS st) (dE K EX (a9 (ae fw tb d) fw g.body))) :
  eF P w K mg base (mL P w) (k+1) f fd ps (FU K cl (ae fw tb (d+1)) fn ps.length):=by
 obtain⟨oc,od,kV,doc,pm,an,cdv,ct,osl,rfl,lk,hcd⟩:=F.ex
 refine Ba lk hcd S (λvs H Q E h=>h.1) λA outer s H vs Q E hr zq=>?_
 obtain⟨hl,ρ,h,ws,hrel,rl,q⟩:=zq
 refine⟨_,body (lV (mL P w) P w K mg base N qual (ay st) f cdv A outer s H E) _ rfl rfl rfl rfl rfl rfl rfl rfl rfl PassesOwn.leaving ⟨rfl,rfl⟩ B2 y7 hr,ρ,_,h,mX rl,hrel,?_⟩
 have e:ae fw tb (d+1) fn ws h=J.fin h.length (a9 (ae fw tb d) fw g.body (ws.map some++List.replicate (N.length-ws.length) none) h):=by
  have hw:ws.length=g.np:=by rw[rl.length,hl,hnp]
  show(match tb[fn]? with|some g=>_|none=>_)=_;simp_all
 rw[e]at q
 exact RQ.fin  hrel q
theorem HS{P:Program}{K:Fg0}{st:Stmt}
  (F:HU K x qual st f fd) (S:fJ N ps (ay st)) (hg:tb[fn]?=some g) (hnp:g.np=ps.length) (hns:g.ns=N.length) (hlen:tb.length<=1000)
  (body:∀X EX,X.prog=P->X.w=w->X.K=K->X.mg=mg->X.base=base->X.N=N->X.env.scope=ay st->X.calm=true->(X.fn=λ_=>true)->PassesOwn (model X.prog X.w) X.A X.env X.xe->(X.stack=X.env::X.outer/\X.env.frame=some X.env.locals)->XL cl X EX->XM cl X EX->bX k X.A ->
   PSs X (aS st) (dE K EX (a9 (ae fw tb d) fw g.body))) :
  eF P w K mg base (mL P w) (k+1) f fd ps (FU K cl (ae fw tb (d+1)) (fn+1000) ps.length):=by
 obtain⟨oc,od,kV,doc,pm,an,cdv,ct,osl,rfl,lk,hcd⟩:=F.ex
 refine Ba lk hcd S (λvs H Q E h=>h.1) λA outer s H vs Q E hr zq=>?_
 obtain⟨hl,ρ,h,ws,hrel,rl,q⟩:=zq
 refine⟨_,body (lV (mL P w) P w K mg base N qual (ay st) f cdv A outer s H E) _ rfl rfl rfl rfl rfl rfl rfl rfl rfl PassesOwn.leaving ⟨rfl,rfl⟩ B2 y7 hr,ρ,_,h,mX rl,hrel,?_⟩
 have e:ae fw tb (d+1) (fn+1000) ws h=J.finO h.length (a9 (ae fw tb d) fw g.body (ws.map some++List.replicate (N.length-ws.length) none) h):=by
  have hw:ws.length=g.np:=by rw[rl.length,hl,hnp]
  have hno:tb[fn+1000]?=none:=ZQ.mpr zL;show(match tb[fn+1000]? with|some g=>_|none=>match tb[fn+1000-1000]? with|some g=>_|none=>match tb[fn+1000-2000]? with|some g=>_|none=>_)=_;simp_all
 rw[e]at q
 exact RQ.finO  hrel q
end
theorem Eg{v:Int}(h:v.natAbs<10^100):(Str.ofString (toString v)).length<=101:=by
 cases v with
 |ofNat n =>
  refine zf (toString_length_le (k:=100) (Int.natCast_nonneg n) zD ?_) zD
  have :=Int.ofNat_lt.mpr h
  simp_all
 |negSucc m =>
  have e:toString (Int.negSucc m)="-"++toString ((m+1:Nat):Int):=rfl
  have h':m+1<10^100:=h
  have h2:=toString_length_le (v:=((m+1:Nat):Int)) (k:=100) (Int.natCast_nonneg _) zD (by grind)
  rw[PySem.ofString_length]at h2 ⊢
  rw[e,String.length_append]
  show 1+_<=101
  lia
def NI(τ:L2.St):Fp->Prop
 |.lit=>True
 |.con=>True
 |.var i=>(∃n:Int,τ[i]?=some (some (.int n))/\n.natAbs<10^100)\/∃s:Str,τ[i]?=some (some (.str s))/\s.length<=1000
 |.rep i=>∃s:Str,τ[i]?=some (some (.str s))/\s.length<=1000/\∀c∈s.cps.toList,c<16^8
theorem Md{K:Fg0}(re:bE K ρ H σ τ)(h:uC σ p=true):NI τ p:=by
 cases p with
 |lit=>trivial
 |con=>trivial
 |var i=>unfold uC at h;dsimp only at h;split at h;rename_i n e;obtain⟨v,h1,h2⟩:=re.at_ i _ e;cases a7 h2;exact .inl ⟨n,h1,Zd h⟩;rename_i s e;obtain⟨v,h1,h2⟩:=re.at_ i _ e;cases aG h2;exact .inr ⟨s,h1,Zd h⟩;simp_all
 |rep i=>unfold uC at h;dsimp only at h;split at h;rename_i s e;rw[zI]at h;obtain⟨v,h1,h2⟩:=re.at_ i _ e;cases aG h2;refine⟨s,h1,Zd h.1,λc hc=>?_⟩;have:=Zd (zzn.mp h.2 c hc);exact zzP this zD;cases h
section
variable {X:Cx}{EX:cC}{cf:CF}{fw:Nat}{pos:Pos}{a:Expr}
def PF(X:Cx)(e:Expr)(p:Fp):Prop:=∀(pins:List (Addr×Obj)) (s:Shared) (τ:L2.St) (H:Hp) (Q:Value->Shared->Prop),Inv X pins τ H s->NI τ p->(∀(y:Str) (t:Tok) (s1:Shared),y.length<=20000->Inv X pins τ H s1->Q (.str y t) s1) ->
 wpAny (model X.prog X.w) X.A (eval e X.env) Q X.xe s
theorem JJ(hz:z.length<=1000):PF X (.Constant (.str z) j pos) .lit:=λpins s τ H Q I _ q =>
 aW (lQ pins s τ H (λv H'=>v=.str z/\H'=H) I ⟨rfl,rfl⟩) λu s1 zq=>by
  obtain⟨v,H1,I1,r,e1,e2⟩:=zq
  subst e1 e2
  obtain⟨t,rfl⟩:=r
  grind
theorem vI{pins:List (Addr×Obj)}{s:Shared}{τ:L2.St}{H:Hp}{Q:Value->Shared->Prop}{n:Int}{t:Tok}(I:Inv X pins τ H s)(hn:n.natAbs<10^100)(q:∀(y:Str) (t:Tok) (s1:Shared),y.length<=20000->Inv X pins τ H s1->Q (.str y t) s1) :
  wpAny (model X.prog X.w) X.A (formatField (.int n t) Str.empty) Q X.xe s:=by
 exact wpAny_formatField_int (log2_ofN hn) (q _ _ _ (zf (Eg hn) zD) (I.tok _))
where
 log2_ofN {n:Nat} (h:n<10^100):n.log2<1920:=by
  by_cases h0:n=0
  ·subst h0;decide
  ·exact(Nat.log2_lt h0).mpr (zzP h (Nat.le_add_left ..))
theorem vd{pins:List (Addr×Obj)}{s:Shared}{τ:L2.St}{H:Hp}{Q:Value->Shared->Prop}{z:Str}{t:Tok}(I:Inv X pins τ H s)(hn:z.length<=20000)(q:∀(y:Str) (t:Tok) (s1:Shared),y.length<=20000->Inv X pins τ H s1->Q (.str y t) s1) :
  wpAny (model X.prog X.w) X.A (formatField (.str z t) Str.empty) Q X.xe s :=
 wpAny_formatField_str (q _ _ _ hn I) (q _ _ _ hn (I.tok _)) (zf hn zD)
theorem JW(hg:Gl X x)(hm:X.mg x=some (.int n t))(hd:(x==("__debug__"))=false)(hn:n.natAbs<10^100):PF X (.FormattedValue (.Name x p) (-1) none pos) .con:=λpins s τ H Q I _ q =>
 wpAny_FormattedValue_plain (fL I hg hm (vI I hn q) hd)
theorem Io(hN:X.N[i]?=some x)(hv:uX X.env.scope x)(hd:(x==("__debug__"))=false)(hcd:(x==("__classdict__":Str))=false):PF X (.FormattedValue (.Name x p) (-1) none pos) (.var i):=λpins s τ H Q I hf q=>by refine wpAny_FormattedValue_plain ?_;rcases hf with⟨n,e,hn⟩|⟨z,e,hz⟩;refine aW (eX hN hv hd hcd pins s τ H (λv H'=>v=.int n/\H'=H) I ⟨_,e,rfl,rfl⟩) λu s1 zq=>?_;obtain⟨v,H1,I1,r,e1,e2⟩:=zq;subst e1 e2;obtain⟨t,rfl⟩:=r;exact vI I1 hn q;refine aW (eX hN hv hd hcd pins s τ H (λv H'=>v=.str z/\H'=H) I ⟨_,e,rfl,rfl⟩) λu s1 zq=>?_;obtain⟨v,H1,I1,r,e1,e2⟩:=zq;subst e1 e2;obtain⟨t,rfl⟩:=r;exact vd I1 (zf ‹_› zD) q
theorem IQ(hN:X.N[i]?=some x)(hv:uX X.env.scope x)(hd:(x==("__debug__"))=false)(hcd:(x==("__classdict__"))=false):PF X (.FormattedValue (.Name x p) 114 none pos) (.rep i):=λpins s τ H Q I hf q=>by refine wpAny_FormattedValue_repr ?_;obtain⟨z,e,hz,hc⟩:=hf;refine aW (eX hN hv hd hcd pins s τ H (λv H'=>v=.str z/\H'=H) I ⟨_,e,rfl,rfl⟩) λu s1 zq=>?_;obtain⟨v,H1,I1,r,e1,e2⟩:=zq;subst e1 e2;obtain⟨t,rfl⟩:=r;have hl:=StrLaws.reprText_len z hc;exact wpAny_pyReprObj_str (vd (I1.tok _) zL q) (zf (show _<=20000 by lia) zD)
inductive Kk (X:Cx):List Expr->List Fp->Prop where
 |nil:Kk X [] []
 |cons {e:Expr}{p:Fp}{es:List Expr}{ps:List Fp}:PF X e p->Kk X es ps->Kk X (e::es) (p::ps)
theorem Bj{pins:List (Addr×Obj)}{τ:L2.St}{H:Hp}{Q:Str->Shared->Prop}{es:List Expr}{ps:List Fp}(f:Kk X es ps)(q:∀(y:Str) (s1:Shared),y.length<=1000000->Inv X pins τ H s1->Q y s1):∀(acc:Str) (s:Shared),Inv X pins τ H s->(∀p∈ps,NI τ p)->acc.length+20000*es.length<=1000000 ->
  Joins (model X.prog X.w) X.A X.xe (evalEach es X.env) acc Q s:=by
 induction f with
 |nil =>
  intro acc s I hp hl
  show Joins _ _ _ [] acc Q s
  unfold Joins
  simp_all
 | @cons e p es ps h1 h2 ih =>
  intro acc s I hp hl
  rw[Zn]at hl
  refine h1 pins s τ H _ I (hp p zQ) λy t s1 hy I1=>⟨y,t,rfl,?_,ih (acc++y) s1 I1 (λp' hp'=>hp p' (zo _ hp')) ?_⟩
  ·rw[Str.length_append,Zq];lia
  ·rw[Str.length_append];lia
def P4(ps:List Fp):TE:=λτ H Q=>(∀p∈ps,NI τ p)/\∀y:Str,Q (.str y) H
theorem Ad(f:Kk X (e1::e2::es) ps)(hl:(e1::e2::es).length<=20):PE X (.JoinedStr (e1::e2::es) pos) (P4 ps):=λpins s τ H Q I zq=>by
 obtain⟨hp,q⟩:=zq
 refine wpAny_JoinedStr (Bj    f (λy s1 hy I1=>⟨by rw[Zq];exact zf ‹_› zD,.str y,H,I1.tok _,⟨_,rfl⟩,q y⟩) Str.empty s I hp ?_)
 show 0+_<=_
 lia
theorem En:PE X (.Constant (.str z) j pos) (P4 []):=lQ.sub λτ H Q zq=>by obtain⟨_,q⟩:=zq;exact q z
theorem v9(hc:X.calm=true)(hg:Gl X x)(hm:X.mg x=some (.ref (cl c)))(hd:(x==("__debug__":Str))=false)(O:Eo X.base (cl c) bm)(hX:XM cl X EX)(ha:PE X a (P4 ps))(hs:az a=true) :
  PS X (.Raise (some (.Call (.Name x np) [a] [] cpos)) none pos) (dE X.K EX (aL cf fw (.raise c ps))):=by
 intro pins s τ H D I zq6
 obtain⟨ρ,σ,h,re,hr,q⟩:=zq6
 rw[aL]at q
 split at q
 ·rename_i hp
  have qx:EX c h ρ H:=q ρ H .refl hr
  obtain⟨N,nm,qn,bs,a1,sn,sub,ab,col,dd,k0,k1,k2,k3,k5,mN,e1,e2,e3,e4⟩:=O.obj
  have st :=au hs [] X.env
  refine wpAny_Raise_call_subT (C:=cl c) (nm:=nm) (q:=qn) (N:=N) (bs:=bs) (bm:=bm) (hdct:=a1) (sn:=sn) (sub:=sub) (ab:=ab) (col:=col) (dd:=dd) (k0:=k0) (k1:=k1) (k2:=k2) (k3:=k3) (k5:=k5) F.excBase_ValueError (mN:=mN) O.top (I.ok.hd hc) (by rw[st];rfl) e3 (fL I hg hm ⟨rfl,?_⟩ hd)
  have pa:=aM ha bF (au hs [] X.env) cpos pins s τ H (λvs H'=>H'=H/\vs.length=1) I ⟨λp hp'=>Md re (zzn.mp hp p hp'),λy=>⟨rfl,rfl⟩⟩
  rw[st]at pa ⊢
  refine Calls.evalArgs_plain (ZL pa (λus s2 ⟨vs,H2,I2,r,e,el⟩=>?_) λ_ _ y=>y)
  subst e
  refine⟨rfl,?_,I2.bk _ _ e1,e2.keeps I2.bk,e4.keeps I2.bk,λh' ea mk=>?_⟩
  ·show us.length<=sizeLine
   rw[<- r.length,el,Zq];decide
  ·exact hX pins τ H2 s2 h' ea c h ρ us I2 mk hr qx
 ·exact q.elim
end
abbrev Cx.hnd(X:Cx)(v:Value)(E:Value->Shared->Prop):Cx:={ X with A:=X.A.mark (some v),calm:=false,xe:=E }
abbrev Cx.aim(X:Cx)(pn:List (Addr×Obj))(E:Value->Shared->Prop):Cx:={ X with pn:=pn,xe:=E }
section
variable {X:Cx}{EX:cC}{cf:CF}{fw:Nat}{pos:Pos}{pins:List (Addr×Obj)}{σ:L2.St}{H:Hp}{s:Shared}{cl:Nat->Addr}
theorem kL{E:Value->Shared->Prop}(I:Inv X pins σ H s):Inv (Cx.hnd X v E) pins σ H s :=
 have ok:=I.ok
 ⟨⟨ok.mod,ok.kind,ok.glob,ok.blt,ok.above,ok.inj,ok.has,ok.cab,λz=>(by cases z),ok.frames,ok.stk,ok.exf,ok.bs,ok.bsz,ok.noex,ok.exfs,ok.funs,ok.frf⟩,I.os,I.bare,I.base,I.loc,I.cell,I.free,I.freeC,I.pin,I.hok,I.len⟩
theorem dR{E:Value->Shared->Prop}(ok:X.Ok)(I:Inv (Cx.hnd X v E) pins σ H s):Inv X pins σ H s:=⟨ok,I.os,I.bare,I.base,I.loc,I.cell,I.free,I.freeC,I.pin,I.hok,I.len⟩
theorem Ah{E:Value->Shared->Prop}(ok:X.Ok)(h:SP (Cx.hnd X v E) pins D f s):SP X pins D f s:=by
 cases f with
 |next=>obtain⟨σ',H',I,q⟩:=h;exact⟨σ',H',dR ok I,q⟩
 |brk=>obtain⟨σ',H',I,q⟩:=h;exact⟨σ',H',dR ok I,q⟩
 |cont=>obtain⟨σ',H',I,q⟩:=h;exact⟨σ',H',dR ok I,q⟩
 |ret u=>obtain⟨v,σ',H',I,r,q⟩:=h;exact⟨v,σ',H',dR ok I,r,q⟩
theorem oM{E:Value->Shared->Prop}(I:Inv X pins σ H s):Inv (Cx.aim X (X.pn++pins) E) [] σ H s :=
 have ok:=I.ok
 ⟨⟨ok.mod,ok.kind,ok.glob,ok.blt,ok.above,ok.inj,ok.has,ok.cab,ok.hd,ok.frames,ok.stk,ok.exf,ok.bs,ok.bsz,ok.noex,ok.exfs,ok.funs,ok.frf⟩,I.os,I.bare,I.base,I.loc,I.cell,I.free,I.freeC,λp hp=>I.pin p (by simp_all),I.hok,I.len⟩
theorem bB{E:Value->Shared->Prop}{pins':List (Addr×Obj)}(I:Inv (Cx.aim X (X.pn++pins) E) pins' σ H s):Inv X pins σ H s :=
 have ok:=I.ok
 ⟨⟨ok.mod,ok.kind,ok.glob,ok.blt,ok.above,ok.inj,ok.has,ok.cab,ok.hd,ok.frames,ok.stk,ok.exf,ok.bs,ok.bsz,ok.noex,ok.exfs,ok.funs,ok.frf⟩,I.os,I.bare,I.base,I.loc,I.cell,I.free,I.freeC,λp hp=>I.pin p (Zl _ hp),I.hok,I.len⟩
def N8(c:Nat)(σ:ai):Hd->Fl
 |.ret w=>.ret w
 |.asg i w=>.nx ((σ.map λ_=>none).set i (some w))
def Qu(K:Fg0)(hd:Hd):TS:=λD τ H=>∃c ρ h σ,(∀σ':ai,σ'.length=σ.length->(∀(i:Nat) (w:W),¬ σ'[i]?=some (some w))->bE K ρ H σ' τ)/\a8 K ρ h H/\kF K D (N8 c σ hd) h ρ H
structure P8 (X:Cx) (cl:Nat->Addr) (hb:ExceptHandler) (d:Nat) (hd:Hd):Prop where
 ex:∃x np st p,hb=.ExceptHandler (some (.Name x np)) none [st] p/\Gl X x/\X.mg x=some (.ref (cl d))/\(x==("__debug__":Str))=false/\∀v E,PS (Cx.hnd X v E) st (Qu X.K hd)
inductive ny (X:Cx) (cl:Nat->Addr):List ExceptHandler->List (Nat×Hd)->Prop where
 |nil:ny X cl [] []
 |cons {hb:ExceptHandler}{d:Nat}{hd:Hd}{hs:List ExceptHandler}{hs':List (Nat×Hd)}:P8 X cl hb d hd->ny X cl hs hs'->ny X cl (hb::hs) ((d,hd)::hs')
def FD(X:Cx)(cl:Nat->Addr)(ids:List Nat):Prop:=∀c∈ids,∃bm,Eo X.base (cl c) bm/\∀d∈ids,(Value.ref (cl c)::bm).contains (.ref (cl d))=decide (c=d)
theorem tZ{st:Stmt}(h:PS Y st t)(m:∀D τ H,t D τ H->t { D with nx:=λσ' H'=>D.nx σ' H' } τ H):PSs Y [st] t:=(dA h lb).sub λD τ H q=>m D τ H q
theorem xV.again{l:List Env}{ha h h':Heap}{e:Addr}{C:Value}{B:Heap}{a0:Value}(x:xV l ha h e C)(f:B.FlyingW l e C a0 h)(k:∀b o,ha.get? b=some o->b∉gu l->B.get? b=some o)(f':B.FlyingW l e C a0 h')(up:h.UpToSlots h'):xV l ha h' e C :=
 ⟨x.no,⟨B,a0,f',k⟩,λb o hb m=>by
  obtain⟨sl1,z1⟩:=x.fly.2 b o hb m
  obtain⟨sl2,z2⟩:=qA  up f.2.2.1 m z1
  grind⟩
theorem wu{ea:Addr}{c:Nat}{ids:List Nat}(HH:ny X cl hs hs')(CT:FD X cl ids)(hc:c∈ids):(∀p∈hs',p.1∈ids)->∀σ0 fl s h ρ,
  XS X pins σ H s ea (.ref (cl c))->σ0.length=X.N.length->uJ hs' (λc d=>decide (c=d)) c σ0=some fl->kF X.K D fl h ρ H->a8 X.K ρ h H->wpAny (model X.prog X.w) X.A (handleBy (.ref ea) X.env hs) (SP X pins D) X.xe s:=by
 induction HH with
 |nil=>intro _ σ0 fl s h ρ x hl e q hr;cases e
 | @cons hb d hd hs hs' h1 h2 ih =>
  intro hi σ0 fl s h ρ x hl e q hr
  obtain⟨x1,np,st,p,rfl,hg,hm,hdb,hst⟩:=h1.ex
  obtain⟨bm,O,hsub⟩:=CT c hc
  obtain⟨bd,Od,_⟩:=CT d (hi (d,hd) zQ)
  have I:=x.inv
  obtain⟨oe,eo,ec⟩:=x.cls
  refine wpAny_handleBy_cons (codeAny_handlers_test ?_) (by intro z;cases z)
  refine fL (X:=Cx.hnd X (.ref ea) X.xe) (kL I) hg hm ?_ hdb
  refine nU (O.keeps I.bk) (Od.keeps I.bk) eo ec ?_
  rw[hsub d (hi (d,hd) zQ)]
  by_cases hcd:c=d
  ·rw[z0 hcd,zF rfl]
   unfold uJ at e
   rw[zF (z0 hcd)]at e
   obtain⟨sa,Ia,os,bare,xa⟩:=id x
   obtain⟨⟨B,a0,f,k⟩,sl⟩:=id xa.fly
   refine codeAny_handlers_suite (lands_againW f λh' f' up=>?_)
   have x2:XS X pins σ H { s with heap:=h' } ea (.ref (cl c)):=⟨sa,Ia,os,bare,xa.again f k f' up⟩
   have e':fl=N8 c σ0 hd:=by have:=z9 e;rw[<- this];cases hd<;>rfl
   refine ZL (tZ (hst (.ref ea) _) (λD τ H q=>q) pins { s with heap:=h' } σ H D (kL x2.inv) ⟨c,ρ,h,σ0,λσ' h1 h2=>⟨by rw[h1,hl];exact x2.inv.len.symm,λi w z=>absurd z (h2 i w)⟩,hr,by rw[<- e'];exact q⟩) (λf s2 z=>?_) (λ_ _ y=>y)
   exact Ah I.ok z
  ·rw[zX hcd,zP zD]
   unfold uJ at e
   rw[zP (by rw[zX hcd];decide)]at e
   exact ih (λp hp=>hi p (zo _ hp)) σ0 fl s h ρ x hl e q hr
theorem vR:∀{hs':List (Nat×Hd)},uJ hs' (λc d=>decide (c=d)) c σ0=some fl->c∈hs'.map (·.1)
 |[],e=>by cases e
 |(d,hd)::hs',e=>by
  unfold uJ at e
  split at e
  ·grind
  ·exact zo _ (vR e)
theorem JI{e:Expr}{e':E}{h0:ExceptHandler}{hs:List ExceptHandler}{hs':List (Nat×Hd)}{p1:Pos}(stk:X.stack=X.env::X.outer/\X.env.frame=some X.env.locals)(HH:ny X cl (h0::hs) hs')(CT:FD X cl (hs'.map (·.1)))
  (he:∀pn xe EY,PassesOwn (model X.prog X.w) X.A X.env xe->XL cl (Cx.aim X pn xe) EY->PE (Cx.aim X pn xe) e (tI X.K EY (af cf e'))) :
  PS X (.Try [.Return (some e) p1] (h0::hs) [] [] pos) (dE X.K EX (aL cf fw (.tryR e' hs'))):=by
 intro pins s τ H D I zq6
 obtain⟨ρ,σ,h,re,hr,q⟩:=zq6
 rw[aL]at q
 let xe:Value->Shared->Prop:=λev s1=>wpAny (model X.prog X.w) X.A (noteFrame ev X.env) (λ_ s2=>wpAny (model X.prog X.w) X.A (setFlight ev none) (λ_ s3=>wpAny (model X.prog X.w) X.A (handleBy ev X.env (h0::hs)) (SP X pins D) X.xe s3) X.xe s2) X.xe s1
 let EY:cC:=λc h1 ρ1 H1=>∃fl,uJ hs' (λc d=>decide (c=d)) c σ=some fl/\kF X.K D fl h1 ρ1 H1
 have hlen:σ.length=X.N.length:=by rw[re.len];exact I.len
 have hX:XL cl (Cx.aim X (X.pn++pins) xe) EY:=by
  intro pins' σ' H' s' ea c h1 ρ1 zq8 hr1 zq10;obtain⟨sa,Ia,os,bare,xa⟩:=zq8;obtain⟨fl,e1,e2⟩:=zq10;have x:XS X pins σ' H' s' ea (.ref (cl c)):=⟨sa,bB Ia,os,bare,xa⟩;obtain⟨⟨B,a0,f,k⟩,sl⟩:=id xa.fly;have fr:X.A.frames=some (X.env::X.outer):=by rw[<- stk.1];exact I.ok.frames
  have fS:B.FlyingW (X.env::X.outer) ea (.ref (cl c)) a0 s'.heap:=by rw[<- stk.1];exact f
  refine wpAny_looks_onW fr stk.2 fS λh2 f2 up2=>?_;refine wpAny_landsW f2 λh3 f3 up3=>?_;have f3':B.FlyingW X.stack ea (.ref (cl c)) a0 h3:=by rw[stk.1];exact f3
  have x3:XS X pins σ' H' { s' with heap:=h3 } ea (.ref (cl c)):=⟨sa,bB Ia,os,bare,xa.again f k f3' (up2.trans up3)⟩;exact wu HH CT (vR e1) (λp hp=>Zs.mpr ⟨p,hp,rfl⟩) σ fl _ h1 ρ1 x3 hlen e1 e2 hr1
 have hE:=he (X.pn++pins) xe EY PassesOwn.looking hX
 refine wpAny_Try_except ?_
 have b:=tZ (uq hE (pos:=p1)) (λD τ H q=>q) [] s τ H { nx:=λ_ _=>False,rt:=D.rt } (oM I) ⟨ρ,σ,h,re,hr,?_⟩
 ·refine ZL b (λf s1 z=>?_) λ_ _ y=>y
  cases f with
  |next=>obtain⟨_,_,_,z⟩:=z;exact z.elim
  |brk=>obtain⟨_,_,_,z⟩:=z;exact z.elim
  |cont=>obtain⟨_,_,_,z⟩:=z;exact z.elim
  |ret u=>obtain⟨v,σ',H',I',r,z⟩:=z;exact⟨v,σ',H',bB I',r,z⟩
 ·show RQ X.K EY ρ H (af cf e' σ h) _
  cases ee:af cf e' σ h with
  |stuck=>rw[ee]at q;exact q.elim
  |ok w h1 =>
   rw[ee]at q
   exact λρ1 H1 x1 hr1 v r=>q ρ1 H1 x1 hr1 v r
  |exc c h1 =>
   rw[ee]at q
   dsimp only at q
   split at q
   ·rename_i fl e1
    exact λρ1 H1 x1 hr1=>⟨fl,e1,q ρ1 H1 x1 hr1⟩
   ·exact q.elim
end
theorem GP{M:Model}{A:Around}{E:Value->Shared->Prop}{s:Shared}{e C:Addr}{oe:Obj}{bm:List Value}{n:Value}{Q:Unit->Shared->Prop}(hC:Eo s.heap C bm)(he:s.heap.get? e=some oe)(hc:oe.cls=.ref C)(q:Q () s) :
  wpAny M A (checkBuiltinCall "BaseException.__getattribute__" ⟨[.ref e,n],[]⟩) Q E s:=by
 have hB:(Value.ref C::bm).contains (.type "BaseException")=true:=by rw[List.contains_cons,hC.top,Bool.or_true]
 obtain⟨N,nm,qn,bs,hdct,sn,sub,ab,col,dd,k0,k1,k2,k3,k5,mN,oC,_⟩:=hC.obj
 obtain⟨hh,g,d,t,os⟩:=s
 have ok:=F.args_bexc_ga (.ref e) n
 unfold argsOk at ok
 unfold checkBuiltinCall
 rw[show builtinKind "BaseException.__getattribute__"=some .slot from by decide +kernel,show splitId "BaseException.__getattribute__"=some ("BaseException","__getattribute__") from rfl]
 dsimp only
 repeat (first
  |(with_reducible refine ZI he ?_;rw[hc])
  |(with_reducible refine zzg oC ?_;rw[hB])
  |wp_step)
 exact q
theorem DY{prog:Program}{w:World}{A:Around}{s:Shared}{e C:Addr}{oe:Obj}{bm:List Value}{R:Result->Shared->Prop}(hC:Eo s.heap C bm)(hO:(Value.ref C::bm).contains (.type "object")=true)(he:s.heap.get? e=some oe)(hc:oe.cls=.ref C)(q:R (.ok (.ret (.ref C))) s) :
  codeAny (model prog w) A (.call (.builtin "getset_descriptor.__get__") ⟨[.builtin "object.__class__",.ref e,.ref C],[]⟩) R s:=by
 obtain⟨N,nm,qn,bs,hdct,sn,sub,ab,col,dd,k0,k1,k2,k3,k5,mN,oC,_⟩:=hC.obj
 obtain⟨hh,g,d,t,os⟩:=s
 refine zzy F.slot_gs_get.plain F.entry_gs_get (F.slot_gs_get.check _ _ _ _ _ _ _ _ F.typeOf_object_class (F.args_gs_get _ _ _) ?_)
 unfold Builtin.«getset_descriptor.__get__» Builtin.Getset_descriptor.descrGet
 repeat (first
  |(with_reducible refine ZI he ?_;rw[hc])
  |wp_step)
 rw[F.owner_object_class]
 refine zzg oC ?_
 rw[hO]
 repeat wp_step
 refine⟨Code.quiet_builtin _ (by decide +kernel),zzv F.entry_object_class ?_⟩
 unfold Builtin.«object.__class__» shownTypeOf
 repeat (first
  |(with_reducible refine ZI he ?_;rw[hc])
  |wp_step)
 exact q
theorem wm{K:Fg0}{prog:Program}{w:World}{A:Around}{E:Value->Shared->Prop}{s:Shared}{e C:Addr}{oe:Obj}{bm:List Value}{tk:Tok}{Q:PySem.Fin->Shared->Prop}(X:K.In s.heap)(hC:Eo s.heap C bm)(hO:(Value.ref C::bm).contains (.type "object")=true)(he:s.heap.get? e=some oe)(hc:oe.cls=.ref C)
  (g3:PySem.W.findIn K (.ref C) "__class__"=some (some (.builtin "object.__class__"))) (q:Q (.done (.ret (.ref C))) s) :
  wpAny (model prog w) A (Builtin.«object.__getattribute__» ⟨[.ref e,.str "__class__" tk],[]⟩) Q E s:=by
 have l3:∀M,W.Looks M s.heap (typeLookup (.ref C) "__class__") _:=λM=>W.looks_findIn X g3
 obtain⟨hh,g,d,t,os⟩:=s
 have G:=@DY prog w A ⟨hh,g,d,t,os⟩ e C oe bm
 unfold Builtin.«object.__getattribute__» Builtin.ObjectAttr.find
 repeat (first
  |(with_reducible refine ZI he ?_;rw[hc])
  |wp_step)
 refine l3 _ _ _ _ _ (λ_ _ z=>z) ?_
 unfold Builtin.ObjectAttr.getOf Builtin.ObjectAttr.dataDescriptor? Builtin.ObjectAttr.takesStores
 repeat (first
  |with_reducible refine wpAny_specialOf_val F.typeOf_object_class F.slot_gs_get.lookup ?_
  |with_reducible refine wpAny_specialOf_val F.typeOf_object_class F.slot_gs_set.lookup ?_
  |wp_step)
 refine G hC hO he hc ?_
 dsimp only
 repeat wp_step
 exact q
theorem Fh{K:Fg0}{E:Value->Shared->Prop}(X:K.In s.heap)(hC:Eo s.heap C bm)(hO:(Value.ref C::bm).contains (.type "object")=true)(he:s.heap.get? e=some oe)(hc:oe.cls=.ref C)
  (g1:PySem.W.findIn K (.ref C) "__getattribute__"=some (some (.builtin "BaseException.__getattribute__"))) (g2:PySem.W.findIn K (.ref C) "__getattr__"=some none) (g3:PySem.W.findIn K (.ref C) "__class__"=some (some (.builtin "object.__class__")))
  (q:Q (some (.ref C)) { s with toks:=s.toks+1 }):wpAny (model prog w) A (getAttr? (.ref e) "__class__") Q E s:=by
 have l1:∀M,W.Looks M s.heap (typeLookup (.ref C) "__getattribute__") _:=λM=>W.looks_findIn X g1
 have l2:∀M,W.Looks M s.heap (typeLookup (.ref C) "__getattr__") _:=λM=>W.looks_findIn X g2
 obtain⟨hh,g,d,t,os⟩:=s
 dsimp only at *
 unfold getAttr? getAttrBy? getAttrBy
 repeat (first
  |(with_reducible refine ZI he ?_;rw[hc])
  |wp_step)
 refine l1 _ _ _ _ _ (λ_ _ z=>z) ?_
 dsimp only
 rw[zP (by rw[zI];rintro ⟨_,z⟩;exact absurd z zD)]
 unfold getAttrByItsOwn hookBefore
 rw[zF (show onTheHeap (.ref C)=true from rfl)]
 wp_step
 refine l2 _ _ _ _ _ (λ_ _ z=>z) ?_
 unfold callGetattribute
 rw[zP zD]
 unfold boundAndCalled
 rw[F.attrBase_ValueError.ga.bind]
 repeat wp_step
 refine zzy F.attrBase_ValueError.ga.plain F.entry_bexc_ga (GP (s:=⟨hh,g,d,t+1,os⟩) hC he hc ?_)
 refine wm (K:=K) (s:=⟨hh,g,d,t+1,os⟩) X hC hO he hc g3 ?_
 dsimp only
 unfold handedOut
 repeat wp_step
 exact q
theorem Em {K:Fg0} {E:Value→Shared→Prop} (X:K.In s.heap) (hC:Eo s.heap C bm) (hD:Eo s.heap D bd) (hO:(Value.ref C::bm).contains (.type "object")=true) (he:s.heap.get? e=some oe) (hc:oe.cls=.ref C)
    (g1:PySem.W.findIn K (.ref C) "__getattribute__"=some (some (.builtin "BaseException.__getattribute__"))) (g2:PySem.W.findIn K (.ref C) "__getattr__"=some none) (g3:PySem.W.findIn K (.ref C) "__class__"=some (some (.builtin "object.__class__")))
    (q:∀ tk,Q (.bool ((Value.ref C::bm).contains (.ref D))) { s with toks:=tk }):wpAny (model prog w) A (call (.builtin "isinstance") [.ref e,.ref D]) Q E s:=by
  obtain ⟨N,nm,qn,bs,hdct,sn,sub,ab,col,dd,k0,k1,k2,k3,k5,mN,oC,_⟩:=hC.obj
  obtain ⟨N',nm',qn',bs',hdct',sn',sub',ab',col',dd',k0',k1',k2',k3',k5',mN',oD,_⟩:=hD.obj
  obtain ⟨hh,g,d,t,os⟩:=s
  refine call_isinstance_of ?_
  by_cases hcd:C=D
  · subst hcd
    rw [show (Value.ref C::bm).contains (.ref C)=true by simp] at q
    unfold Builtin.«isinstance.nested»
    repeat (first
      | (with_reducible refine ZI he ?_;rw [hc])
      | wp_step)
    exact q t
  · have ne:(Value.ref C == Value.ref D)=false:=by rw [zze];intro z;cases z;exact hcd rfl
    unfold Builtin.«isinstance.nested»
    repeat (first
      | (with_reducible refine ZI he ?_;rw [hc])
      | with_reducible refine ZI oD ?_
      | wp_step)
    refine zzg oC ?_
    cases z:(Value.ref C::bm).contains (.ref D) with
    | true => rw [z] at q; repeat wp_step
              exact q t
    | false =>
      rw [z] at q
      repeat (first
        | with_reducible refine Fh X hC hO he hc g1 g2 g3 ?_
        | with_reducible refine ZI oC ?_
        | (with_reducible refine zzg oC ?_;rw [z])
        | wp_step)
      exact q _
theorem mY(x:cx P w H h a o):∃ob,h.get? a=some ob:=by
 cases o with
 |lst xs=>obtain⟨_,_,_,_,e⟩:=x;exact⟨_,e⟩
 |tup xs=>obtain⟨_,_,_,ob,e,_⟩:=x;exact⟨_,e⟩
 |dK kvs=>obtain⟨_,_,_,_,o,_,_,e,_⟩:=x;exact⟨_,e⟩
 |dT kvs=>obtain⟨_,_,_,_,o,_,_,e,_⟩:=x;exact⟨_,e⟩
 |set S n=>obtain⟨o,_,_,_,e,_⟩:=x;exact⟨_,e⟩
 |ins C dx fs=>obtain⟨_,_,_,e,_⟩:=x;exact⟨_,e⟩
 |own y=>exact x
 |xd fs=>obtain⟨_,⟨_,_,_,e,_⟩,_⟩:=x;exact⟨_,e⟩
 |rng lo hi=>obtain⟨_,_,_,e⟩:=x;exact⟨_,e⟩
 |frz ob u=>obtain⟨e,_⟩:=x;exact⟨_,e⟩
 |tbl ps=>exact⟨_,(x)⟩
 |met f y=>exact⟨_,(x)⟩
 |ext φ=>obtain⟨_,e,_⟩:=x;exact e
theorem BR(x:eV P w H h)(e:h.get? a=none):H a=none:=by
 cases q:H a with
 |none=>rfl
 |some u=>obtain⟨ob,z⟩:=mY (x a u q);simp_all
section
variable {X:Cx}{pins:List (Addr×Obj)}{σ:L2.St}{H:Hp}{s:Shared}{e:Addr}{C:Value}
theorem XS.pin(x:XS X pins σ H s e C):∃oe,oe.cls=C/\Inv X ((e,oe)::pins) σ H s:=by have I:=x.inv;obtain⟨sa,Ia,os,bare,xa⟩:=x;obtain⟨⟨B,a0,f,k⟩,sl⟩:=xa.fly;obtain⟨_,_,_,oe,vs,T,oT,ts,he,⟨hc,_⟩,hd,_⟩:=f;have no:=xa.no;refine⟨oe,hc,I.pins_of λp hp=>?_⟩;rcases zV.mp hp with rfl|hp;refine⟨he,BR Ia.hok no,λz=>?_,λz=>?_,λv z=>by rw[hd]at z;cases z⟩;obtain⟨m,hn,_⟩:=Ia.loc;obtain⟨oL,_,_,hoL,_⟩:=id hn;simp_all;obtain⟨_,o,ho,_⟩:=Ia.ok.funs.mem z;obtain⟨o',ho'⟩:=Ia.base.there _ o ho (λy=>Ia.ok.exfs _ y z);simp_all;exact I.pin p (Zh _ hp)
theorem xp{E:Value->Shared->Prop}(I:Inv X pins σ H s)(hN:X.N.Nodup)(hi:X.N[i]?=some x)(hk:X.env.scope.names.lookup x=some .local)(hv:σ[i]?=some (some v))
  (h:∀s',Inv X pins (σ.set i none) H s'->Q () s'):wpAny M A (unbindBehindTheSuite X.env x pos) Q E s:=by
 obtain⟨m,hn,hl⟩:=id I.loc
 have hcls:(X.env.scope.kind==.class||(X.env.scope.kind==.module&&X.env.locals != X.env.globals))=false:=by rw[I.ok.kind];rfl
 obtain⟨u,ru,lu⟩:=hl i x v hi hv (.inl hk)
 have hm:m x=some u:=by rcases lu with⟨_,z⟩|⟨z,_⟩;exact z;have hk':X.env.kindOf x=some .local:=hk;rw[hk']at z;rcases z with z|z<;>cases z
 have cne:=I.cne
 unfold unbindBehindTheSuite
 refine wpAny_onRaise (wpAny_unbindName_local hk hn hm hcls λh' u' hn' hs=>?_)
 obtain⟨oL,_,_,hoL,_⟩:=id hn
 refine h _ ⟨I.ok,I.os,I.bare,⟨λb o e n hb hx=>?_,λb o e n hb hx=>?_,I.base.free,λb o e hx=>?_,I.base.tups,I.base.frzs,I.base.tbls⟩,⟨_,hn',λj y v' e1 e2 e3=>?_⟩,λy c e=>?_,I.free,I.freeC,λp hp=>?_,λb ob e=>?_,by simpa using I.len⟩
 ·exact(hs.2 b (zW (zG (zN e) I.ok.above))).trans (I.base.keep b o e n hb hx)
 ·obtain⟨sl,e1⟩:=I.base.slot b o e n hb hx
  exact⟨sl,(hs.2 b (zW (zG (zN e) I.ok.above))).trans e1⟩
 ·obtain⟨o',e1⟩:=I.base.there b o e hx
  exact⟨o',(hs.2 b (zW (zG (zN e) I.ok.above))).trans e1⟩
 ·by_cases hj:j=i
  ·subst hj
   rw[Zb (ze.mp hv).1]at e2
   cases e2
  ·rw[Zc (zza hj)]at e2
   obtain⟨u2,r',q⟩:=hl j y v' e1 e2 e3
   refine⟨u2,r',?_⟩
   rcases q with⟨k,e⟩|⟨k,c,e,z⟩
   ·refine .inl ⟨k,?_⟩
    have:y≠x:=λe=>hj (j4 hN e1 (e▸hi))
    simp[this,e]
   ·exact .inr ⟨k,c,e,z.sameBut hs (cne y c e)⟩
 ·obtain⟨w',z⟩:=I.cell y c e
  exact⟨w',z.sameBut hs (cne y c e)⟩
 ·obtain⟨e,n,ne,nf,d⟩:=I.pin p hp
  exact⟨(hs.2 p.1 ne).trans e,n,ne,nf,d⟩
 ·refine(I.hok b ob e).stay (λc w' hc q=>(hs.2 c ?_).trans q) (λ_ q=>q) λ_ _ q=>q
  have hf:=I.free
  rintro rfl
  rcases hc with rfl|hc
  ·rw[hf]at e;cases e
  ·rw[hf]at hc;cases hc
end
def Qn(ie:Nat)(ea:Addr)(b:Bool):TE:=λτ H Q=>τ[ie]?=some (some (.ref ea))/\Q (.bl b) H
def wC(ie:Nat)(ea:Addr)(bs:List Bool):TA:=λτ H Q=>τ[ie]?=some (some (.ref ea))/\Q (bs.map V.bl) H
structure Dw (K:Fg0) (C:Addr) (bm:List Value):Prop where
 ob:(Value.ref C::bm).contains (.type "object")=true
 g1:PySem.W.findIn K (.ref C) "__getattribute__"=some (some (.builtin "BaseException.__getattribute__"))
 g2:PySem.W.findIn K (.ref C) "__getattr__"=some none
 g3:PySem.W.findIn K (.ref C) "__class__"=some (some (.builtin "object.__class__"))
section
variable {X:Cx}{ie iF:Nat}{ea C D:Addr}{oe:Obj}{bm bd:List Value}{en dn fn:Str}{pos:Pos}
theorem Na{p1 p2 p3:Pos}(hp:(ea,oe)∈X.pn)(hc:oe.cls=.ref C)(O:Eo X.base C bm)(OK:Dw X.K C bm)(OD:Eo X.base D bd)(hg:Gl X "isinstance")(hm:X.mg "isinstance"=none)
  (hN:X.N[ie]?=some en) (hv:uX X.env.scope en) (hd:(en==("__debug__":Str))=false) (hcd:(en==("__classdict__":Str))=false) (hgd:Gl X dn) (hmd:X.mg dn=some (.ref D)) (hdd:(dn==("__debug__":Str))=false) :
  PE X (.Call (.Name "isinstance" p1) [.Name en p2,.Name dn p3] [] pos) (Qn ie ea ((Value.ref C::bm).contains (.ref D))):=by
 have cr:bx X (.builtin "isinstance") (λxs H Q=>xs=[.ref ea,.ref D]/\Q (.bl ((Value.ref C::bm).contains (.ref D))) H):=by intro pins s σ H xs us Q I r zq9;obtain⟨e,q⟩:=zq9;subst e;obtain⟨u,w',rfl,rx,ry⟩:=vH r;cases (rx);cases (ry);exact Em I.kIn (O.keeps I.bk) (OD.keeps I.bk) OK.ob (I.pin (ea,oe) (Zl _ hp)).1 hc OK.g1 OK.g2 OK.g3 λtk=>⟨.bl _,H,I.tok tk,rfl,q⟩
 refine(cG cr hg hm zzX (aM (eX hN hv hd hcd) (aM (vw (v:=.ref D) hgd hmd rfl hdd) bF (by rfl)) (by rfl)) (by decide +kernel) (by decide +kernel) (by rfl) (by rfl)).sub λτ H Q z=>?_
 exact⟨.ref ea,z.1,rfl,z.2⟩
theorem G7:PA X [] (wC ie ea []):=bF.sub λτ H Q z=>z.2
theorem Gp(h1:PE X e (Qn ie ea b))(h2:PA X es (wC ie ea bs))(hs:az e=true):PA X (e::es) (wC ie ea (b::bs)) :=
 (aM h1 h2 (au hs _ _)).sub λτ H Q z=>⟨z.1,z.1,z.2⟩
end
theorem nB{K:Fg0}(f):∀cs:List Nat,ao K ρ H (cs.map λk=>W.bl (f k)) (cs.map (V.bl ∘ f))
 |[]=>.nil
 |k::cs=>.cons bA (nB f cs)
def Oj(K:Fg0)(ie iF:Nat)(ea:Addr)(ρ:List Addr)(h:aa)(bs:List Bool)(τ:L2.St)(H:Hp):Prop:=τ[ie]?=some (some (.ref ea))/\a8 K ρ h H/\∃p,τ[iF]?=some (some (.ref p))/\p∉ρ/\H p=some (.lst (bs.map V.bl))
def NS(K:Fg0)(ie iF:Nat)(ea:Addr)(bs:List Bool):TS:=λD τ H=>∃ρ h,τ[ie]?=some (some (.ref ea))/\iF<τ.length/\ie≠iF/\a8 K ρ h H/\bs.length<=1000/\∀τ' H',τ'.length=τ.length->Oj K ie iF ea ρ h bs τ' H'->Ext ρ H ρ H'->D.nx τ' H'
def GG(K:Fg0)(ie iF:Nat)(ea:Addr)(bs:List Bool):TS:=λD τ H=>∃ρ h bs0,Oj K ie iF ea ρ h bs0 τ H/\iF<τ.length/\ie≠iF/\bs0.length+bs.length<=1000/\∀τ' H',τ'.length=τ.length->Oj K ie iF ea ρ h (bs0++bs) τ' H'->Ext ρ H ρ H'->D.nx τ' H'
section
variable {X:Cx}{ie iF:Nat}{ea:Addr}{fn:Str}{pos:Pos}{es:List Expr}{bs:List Bool}
theorem Oh{px p:Pos}(hN:X.N.Nodup)(hi:X.N[iF]?=some fn)(hx:sR X.env.scope fn)(hf:X.fn fn=true\/X.env.scope.names.lookup fn=some .local)(h:PA X es (wC ie ea bs)):PS X (.Assign [.Name fn px] (.List es p) pos) (NS X.K ie iF ea bs) :=
 (fR hN hi hx (oE h) rfl hf).sub λD τ H z=>by obtain⟨ρ,h,z1,z2,z3,hr,hl,q⟩:=z;exact⟨z1,by rw[zj];exact zf hl zD,λp hp=>(q _ _ zS ⟨by rw[Zc (zza z3)];exact z1,hr.ext_new hp,p,Zb z2,hr.new hp,aI⟩ (ext_new hr hp))⟩
theorem Of{px p1 p2 p3:Pos}(hN:X.N.Nodup)(hi:X.N[iF]?=some fn)(hx:sR X.env.scope fn)(hf:X.fn fn=true\/X.env.scope.names.lookup fn=some .local)(hv:uX X.env.scope fn)(hd:(fn==("__debug__":Str))=false)(hcd:(fn==("__classdict__":Str))=false)(h:PA X es (wC ie ea bs)) :
  PS X (.Assign [.Name fn px] (.BinOp (.Name fn p1) .Add (.List es p2) p3) pos) (GG X.K ie iF ea bs) :=
 (fR hN hi hx (uZ sQ (eX hi hv hd hcd) (oE h)) rfl hf).sub λD τ H z=>by obtain⟨ρ,h,bs0,⟨z1,hr,p0,y1,y2,y3⟩,z2,z3,hl,q⟩:=z;refine⟨.ref p0,y1,z1,by rw[zj];exact zf (Nat.le_add_left _ _) (zf hl (by rw[Zq];decide)),λr hr0=>?_⟩;refine⟨p0,r,bs0.map V.bl,bs.map V.bl,rfl,rfl,(aB (ba y3 hr0)).trans y3,aI,by rw[zj,zj];exact zf hl zD,λp hp=>?_⟩;have hr1:=hr.ext_new (o:=.lst (bs.map V.bl)) hr0;exact q _ _ zS ⟨by rw[Zc (zza z3)];exact z1,hr1.ext_new hp,p,Zb z2,hr1.new hp,by rw[zY];exact aI⟩ ((ext_new hr hr0).trans (ext_new hr1 hp))
theorem JS:PSs X [] (GG X.K ie iF ea []):=lb.sub λD τ H z=>by obtain⟨ρ,h,bs0,f,_,_,_,q⟩:=z;exact q τ H rfl (by simp_all) .refl
theorem EF{st:Stmt}(h1:PS X st (GG X.K ie iF ea bs))(h2:PSs X ss (GG X.K ie iF ea bs2)):PSs X (st::ss) (GG X.K ie iF ea (bs++bs2)):=(dA h1 h2).sub λD τ H z=>by obtain⟨ρ,h,bs0,f,z2,z3,hl,q⟩:=z;rw[zM]at hl;exact⟨ρ,h,bs0,f,z2,z3,zL,λτ' H' e f' x=>⟨ρ,h,bs0++bs,f',by simp_all,z3,by grind,λτ2 H2 e2 f2 x2=>(q τ2 H2 (e2.trans e) (by simp_all) (x.trans x2))⟩⟩
theorem Jp{st:Stmt}(h1:PS X st (NS X.K ie iF ea bs))(h2:PSs X ss (GG X.K ie iF ea bs2)):PSs X (st::ss) (NS X.K ie iF ea (bs++bs2)):=(dA h1 h2).sub λD τ H z=>by obtain⟨ρ,h,z1,z2,z3,hr,hl,q⟩:=z;rw[zM]at hl;exact⟨ρ,h,z1,z2,z3,hr,zL,λτ' H' e f' x=>⟨ρ,h,bs,f',by simp_all,z3,zL,λτ2 H2 e2 f2 x2=>(q τ2 H2 (e2.trans e) f2 (x.trans x2))⟩⟩
end
def K0(X:Cx)(cl:Nat->Addr)(all:List Nat)(J:Addr):Prop:=∀c∈all,∃bm,Eo X.base (cl c) bm/\Dw X.K (cl c) bm/\(Value.ref (cl c)::bm).contains (.ref J)=true/\∀d∈all,(Value.ref (cl c)::bm).contains (.ref (cl d))=decide (c=d)
abbrev Cx.asx(X:Cx)(v:Value)(pn:List (Addr×Obj))(E:Value->Shared->Prop):Cx:=Cx.aim (Cx.hnd X v E) pn E
section
variable {X:Cx}{EX:cC}{cf:CF}{fw:Nat}{pos:Pos}{cl:Nat->Addr}
noncomputable def qD(fl:Nat->Nat->Bool)(i:Nat)(cs all:List Nat)(sb:ai->aa->Res Fl)(σ:ai)(h:aa):Res Fl:=match sb σ h with
 |.exc c h=>if all.contains c then .ok (.nx ((σ.map λ_=>none).set i (some (.lst (cs.map λk=>.bl (fl c k)))))) h else .stuck
 |r=>r
theorem GY{sb sx:ai->aa->Res Fl}{np hp:Pos}{ie iF:Nat}{J:Addr}(stk:X.stack=X.env::X.outer/\X.env.frame=some X.env.locals)(CT:K0 X cl all J)(OJ:Eo X.base J bj)
  (hg:Gl X jn) (hm:X.mg jn=some (.ref J)) (hdb:(jn==("__debug__":Str))=false) (hN:X.N.Nodup) (hie:X.N[ie]?=some en) (hle:X.env.scope.names.lookup en=some .local) (hiF:X.N[iF]?=some fn) (hne:ie≠iF) (hlen:cs.length<=1000)
  (hsu:∀v pn E ea oe c,(ea,oe)∈pn->oe.cls=.ref (cl c)->c∈all->PSs (Cx.asx X v pn E) (s1::ss) (NS X.K ie iF ea (cs.map (fl c))))
  (hx:∀σ h,sx σ h=.stuck\/sx σ h=qD fl iF cs all sb σ h)
  (hb:∀pn xe EY,PassesOwn (model X.prog X.w) X.A X.env xe->XL cl (Cx.aim X pn xe) EY->PSs (Cx.aim X pn xe) b (dE X.K EY sb)) :
  PS X (.Try b [.ExceptHandler (some (.Name jn np)) (some en) (s1::ss) hp] [] [] pos) (dE X.K EX sx):=by
 intro pins s τ H D I zq6
 obtain⟨ρ,σ,h,re,hr,q⟩:=zq6
 rcases hx σ h with e|e
 ·rw[e]at q;exact q.elim
 rw[e]at q
 let hs:List ExceptHandler:=[.ExceptHandler (some (.Name jn np)) (some en) (s1::ss) hp]
 let xe:Value->Shared->Prop:=λev s1=>wpAny (model X.prog X.w) X.A (noteFrame ev X.env) (λ_ s2=>wpAny (model X.prog X.w) X.A (setFlight ev none) (λ_ s3=>wpAny (model X.prog X.w) X.A (handleBy ev X.env hs) (SP X pins D) X.xe s3) X.xe s2) X.xe s1
 let σF:Nat->ai:=λc=>(σ.map λ_=>none).set iF (some (.lst (cs.map λk=>.bl (fl c k))))
 let EY:cC:=λc h1 ρ1 H1=>c∈all/\∀ρ2 H2,Ext ρ1 H1 ρ2 H2->a8 X.K ρ2 h1 H2->kF X.K D (.nx (σF c)) h1 ρ2 H2
 have hlenσ:σ.length=X.N.length:=by rw[re.len];exact I.len
 have iFl:iF<X.N.length:=(ze.mp hiF).1
 have iel:ie<X.N.length:=(ze.mp hie).1
 have hX:XL cl (Cx.aim X (X.pn++pins) xe) EY:=by
  intro pins' σ' H' s' ea c h1 ρ1 zq8 hr1 zq10;obtain⟨sa,Ia,os,bare,xa⟩:=zq8;obtain⟨hc,e2⟩:=zq10;obtain⟨⟨B,a0,f,k⟩,sl⟩:=id xa.fly;have fr:X.A.frames=some (X.env::X.outer):=by rw[<- stk.1];exact I.ok.frames
  have fS:B.FlyingW (X.env::X.outer) ea (.ref (cl c)) a0 s'.heap:=by rw[<- stk.1];exact f
  refine wpAny_looks_onW fr stk.2 fS λh2 f2 up2=>?_;refine wpAny_landsW f2 λh3 f3 up3=>?_;have f3':B.FlyingW X.stack ea (.ref (cl c)) a0 h3:=by rw[stk.1];exact f3
  have xa3:=xa.again f k f3' (up2.trans up3);have x3:XS X pins σ' H' { s' with heap:=h3 } ea (.ref (cl c)):=⟨sa,bB Ia,os,bare,xa3⟩;have I3:=x3.inv;obtain⟨bm,O,OK,hJ,hsub⟩:=CT c hc;obtain⟨oe,eo,ec⟩:=x3.cls;refine wpAny_handleBy_cons (codeAny_handlers_test ?_) (by intro z;cases z);refine fL (X:=Cx.hnd X (.ref ea) X.xe) (kL I3) hg hm ?_ hdb;refine nU (O.keeps I3.bk) (OJ.keeps I3.bk) eo ec ?_;rw[hJ,zF rfl];refine codeAny_handlers_suite_as (lands_againW f3' λh4 f4 up4=>?_);have x4:XS X pins σ' H' { s' with heap:=h4 } ea (.ref (cl c)):=⟨sa,bB Ia,os,bare,xa3.again f3' k f4 up4⟩;obtain⟨oe4,ec4,I4⟩:=x4.pin;refine jd I4 hN hie (.inl hle) (v:=.ref ea) rfl (λs5 I5=>?_) (.inr hle);refine ZL (hsu (.ref ea) (X.pn++(ea,oe4)::pins) _ ea oe4 c (Zh _ zQ) ec4 hc [] s5 _ H' { nx:=λτ' H2=>τ'.length=X.N.length/\∃p,τ'[iF]?=some (some (.ref p))/\p∉ρ1/\H2 p=some (.lst ((cs.map (fl c)).map V.bl))/\Ext ρ1 H' ρ1 H2/\a8 X.K ρ1 h1 H2,rt:=λ_ _=>False } (oM (X:=Cx.hnd X (.ref ea) _) (kL I5)) ?_) (λfl s6 z=>?_) (λ_ _ y=>y);refine⟨ρ1,h1,Zb (by rw[I4.len];exact iel),by rw[ZN,I4.len];exact iFl,hne,hr1,by rw[zj];exact hlen,λτ' H2 e3 f x=>?_⟩;obtain⟨_,hr2,p,y1,y2,y3⟩:=f;exact⟨by rw[e3,ZN,I4.len],p,y1,y2,y3,x,hr2⟩;cases fl with
  |brk=>obtain⟨_,_,_,z⟩:=z;exact z.elim
  |cont=>obtain⟨_,_,_,z⟩:=z;exact z.elim
  |ret u=>obtain⟨_,_,_,_,_,z⟩:=z;exact z.elim
  |next=>
   obtain⟨τ6,H6,I6,hl6,p,y1,y2,y3,x6,hr6⟩:=z;have I7:Inv X pins τ6 H6 s6:=(dR I3.ok (bB (X:=Cx.hnd X (.ref ea) _) (pins:=(ea,oe4)::pins) I6)).pins_of λp hp=>(dR I3.ok (bB (X:=Cx.hnd X (.ref ea) _) (pins:=(ea,oe4)::pins) I6)).pin p (Zh _ (zo _ hp));refine zd (wpAny_bindName (jd I7 hN hie (.inl hle) (v:=.non) rfl (λs8 I8=>?_) (.inr hle)));refine xp I8 hN hie hle (v:=.non) (Zb (by rw[hl6];exact iel)) λs9 I9=>⟨_,_,I9,?_⟩;refine e2 ρ1 H6 x6 hr6 _ ⟨by simp[σF,hlenσ,hl6],λi w z=>?_⟩;show ∃v,((τ6.set ie (some V.non)).set ie none)[i]?=some (some v)/\_;have z':((σ.map λ_=>(none:Option W)).set iF (some (.lst (cs.map λk=>.bl (fl c k)))))[i]?=some (some w):=z;rw[List.getElem?_set]at z';split at z';rename_i hi;subst hi;split at z';cases z';refine⟨.ref p,by rw[Zc hne,Zc hne];exact y1,?_⟩;rw[Rel];refine⟨p,_,rfl,y2,y3,?_⟩;rw[Z7];exact nB _ _;cases z';rw[Za]at z';cases e:σ[i]? with
   |none=>rw[e]at z';cases z'
   |some o=>rw[e]at z';cases z'
 refine wpAny_Try_except ?_
 have b:=hb (X.pn++pins) xe EY PassesOwn.looking hX [] s τ H D (oM I) ⟨ρ,σ,h,re,hr,?_⟩
 ·refine ZL b (λf s1 z=>?_) λ_ _ y=>y
  cases f with
  |next=>obtain⟨σ',H',I',z⟩:=z;exact wpAny_execs_nil ⟨σ',H',bB I',z⟩
  |brk=>obtain⟨σ',H',I',z⟩:=z;exact⟨σ',H',bB I',z⟩
  |cont=>obtain⟨σ',H',I',z⟩:=z;exact⟨σ',H',bB I',z⟩
  |ret u=>obtain⟨v,σ',H',I',r,z⟩:=z;exact⟨v,σ',H',bB I',r,z⟩
 ·show RQ X.K EY ρ H (sb σ h) _
  unfold qD at q
  cases ee:sb σ h with
  |stuck=>rw[ee]at q;exact q.elim
  |ok w h1 =>
   rw[ee]at q
   exact λρ1 H1 x1 hr1=>q ρ1 H1 x1 hr1
  |exc c h1 =>
   rw[ee]at q
   dsimp only at q
   split at q
   ·rename_i hc
    exact λρ1 H1 x1 hr1=>⟨by simpa using hc,λρ2 H2 x2 hr2=>q ρ2 H2 (x1.trans x2) hr2⟩
   ·exact q.elim
theorem IU(σ)(h):aL cf fw (.tryF e' iF cs all) σ h=qD (λc k=>decide (c=k)) iF cs all (aL cf fw (.ret e')) σ h:=by unfold qD;rw[aL,aL];cases af cf e' σ h<;>rfl
end
section
variable {X:Cx}{EX:cC}{cf:CF}{fw:Nat}{e:Expr}{e':E}
theorem El:bx X (.type "dict") (λxs H Q=>∃a kvs,xs=[.ref a]/\Rd H a (.dK kvs)/\∀p,H p=none->Q (.ref p) (aY H p (.dK kvs))):=by
 intro pins s σ H xs us Q I r zq9;obtain⟨a,kvs,ex,hd,q⟩:=zq9;subst ex;cases r with
 |cons r1 r2=>cases r2;cases (r1);exact qW I hd λp' s' n I'=>⟨.ref p',_,I',rfl,q p' n⟩
theorem Mv(hu:X.A.units+64<cLine)(hN:X.N.Nodup)(hi:X.N[i]?=some x)(hx:sR X.env.scope x)(hf:X.fn x=true\/X.env.scope.names.lookup x=some .local)(hvx:uX X.env.scope x)(hdx:(x==("__debug__":Str))=false/\(x==("__classdict__":Str))=false)
  (hk:X.N[k]?=some kn) (hvk:uX X.env.scope kn) (hdk:(kn==("__debug__":Str))=false/\(kn==("__classdict__":Str))=false) (hv:X.N[v]?=some vn) (hvv:uX X.env.scope vn) (hdv:(vn==("__debug__":Str))=false/\(vn==("__classdict__":Str))=false)
  (hg:Gl X "dict") (hm:X.mg "dict"=none) (he:PE X e (tI X.K EX (af cf e'))) (hs:az e=true) (hss:PSs X sts (dE X.K EX (a9 cf fw ss'))) :
  PSs X (.Assign [.Name x px] (.Call (.Name "dict" pd) [e] [] pc) p1::.Assign [.Subscript (.Name x q1) (.Name kn q2) q3] (.Name vn q4) p2::sts) (dE X.K EX (a9 cf fw (.dupd i e' k v::ss'))):=by
 have a1:=fR (pos:=p1) (pos':=px) hN hi hx (bR (x:="dict") (p:=pd) (pos:=pc) El hg hm (by decide +kernel) (aM he bF (au hs _ _)) (by decide +kernel) (by decide +kernel) (au hs _ _) (by rfl)) (by rfl) hf
 have a2:=sE (pos:=p2) (eX (pos:=q4) hv hvv hdv.1 hdv.2) (B8 (pos:=q3) (eX (pos:=q1) hi hvx hdx.1 hdx.2) (eX (pos:=q2) hk hvk hdk.1 hdk.2) (qw hu) (by intro _;rfl)) (by rfl) (by rfl) rfl
 intro pins s0 τ H D I zq
 refine dA a1 (dA a2 hss) pins s0 τ H D I ?_
 obtain⟨ρ,σ,h,re,hr,q⟩:=zq
 rw[a9,aL,cV]at q
 refine⟨ρ,σ,h,re,hr,q.bnd.mono λw h1 ρ1 H1 x1 hr1 q1 u r=>?_⟩
 split at q1
 ·rename_i ks ws s y e1 e2 e3
  split at q1
  ·rename_i hc
   obtain⟨ni,nv,hz⟩:=hc
   obtain⟨a,ys,rfl,hd,hl,rs⟩:=cy hr1 e1 r
   refine⟨a,_,rfl,hd,λp hp=>?_⟩
   have re1:=re.ext x1
   obtain⟨vk,k1,k2⟩:=re1.at_ k _ e2
   obtain⟨vv,v1,v2⟩:=re1.at_ v _ e3
   cases aG k2
   obtain⟨zs,d1,d2,d3⟩:=qT (x:=s) hl rs v2
   have il:i<τ.length:=by rw[I.len];exact(ze.mp hi).1
   refine⟨vv,by rw[Zc nv];exact v1,.ref p,Zb il,.str s,by rw[Zc ni];exact k1,.inr ⟨p,.str s,_,rfl,rfl,xN.k (k:=Sum.inr s) aI (by rw[List.length_zip,zj,<- hl,Nat.min_self];exact zG hz (by rw[Zq];decide)),?_⟩⟩
   rw[d1,D6]
   have y2:=ext_new (o:=.dK ((((dY ks ws s y).1).map Sum.inr).zip zs)) hr1 hp
   refine⟨ρ1,σ.set i (some (.dic (dY ks ws s y).1 (dY ks ws s y).2)),h1,(re1.ext y2).set i ?_,hr1.ext_new hp,?_⟩
   ·rw[Rel]
    exact⟨p,zs,rfl,hr1.new hp,.inl aI,d2,ao.ext y2 _ _ d3⟩
   ·exact RQ.wk y2 q1
  ·exact q1.elim
 ·exact q1.elim
end
def xF(t:Bool)(lo:Int)(n:Nat):L2.It:=⟨λi _=>i<n,λi H x H'=>H'=H/\x=.int (lo+i*g9 t),λi _=>n<=i⟩
theorem qq{K:Fg0}(t)(it)(lo)(n):Turn P w K tg (xF t lo n) [it] it (λi h=>IsRangeIter h it (lo+(i:Nat)*g9 t) ((n:Int)-(i:Nat)) (g9 t)) where
 mem:=zS
 obj:=λi h st b hb=>by simp_all
 keep:=λi h h' st k=>k it zS _ st
 item:=by intro X hP hw hK hc i pins s σ H E I hf st hg;subst hP hw hK;obtain⟨f0,f1,f2,f3,f4,f5⟩:=hf it zS;have W:=Walks.range (prog:=X.prog) (w:=X.w) (I.ok.hd hc) it lo (g9 t) n;refine W.item i s _ _ hg st λv h' tk hv st' kk=>?_;obtain⟨u,rfl⟩:=hv;have I1:Inv X pins σ H { s with heap:=h',toks:=tk }:=I.turned (λb o hb e=>kk b o (by simpa using hb) e) f0 f1 f3 f4 f5;exact⟨_,rfl,qv (s:={ s with heap:=h',toks:=tk }) (n:="range_iterator") st' rfl rfl zD ⟨.int (lo+i*g9 t),H,I1,⟨u,rfl⟩,⟨rfl,rfl⟩,st',λb hb=>(hf b hb).1⟩⟩
 done:=by intro X hP hw hK hc i pins s σ H E I hf st hg;subst hP hw hK;obtain⟨f0,f1,f2,f3,f4,f5⟩:=hf it zS;exact wpAny_pyNext_range_end (I.ok.hd hc) st (by have:n<=i:=hg;lia) λh' eb=>⟨rfl,I.turned (t':=s.toks) (λb o hb e=>eb b o hb e) f0 f1 f3 f4 f5⟩
 self:=λ_ _ _ _ _ st h=>wpAny_pyIter_rangeiter st h
theorem qE:Builtin.Range.rangeSize a b (g9 t)=(((b-a+g9 t-1)/g9 t).toNat):=by unfold Builtin.Range.rangeSize;cases t<;>(simp only[g9];grind)
theorem wK(h1:-1000<=a)(h2:a<=1000)(h3:-1000<=b)(h4:b<=1000):Builtin.Range.small a b (g9 t)=true:=by unfold Builtin.Range.small Builtin.Range.rangeFitsLong;rw[qE];cases t<;>(simp[g9]<;>lia)
section
variable {X:Cx}{EX:cC}{cf:CF}{fw:Nat}{a b:Expr}{a' b':E}{pos:Pos}{tg:Expr}
theorem wG{pins:List (Addr×Obj)}{σ:L2.St}{H:Hp}{s:Shared}{R:L2.It->Hp->Prop}{E:Value->Shared->Prop}{lo hi:Int}{b2:Bool}{t u v:Tok}{tk:Nat}(I:Inv X pins σ H s)(h1:-1000<=lo)(h2:lo<=1000)(h3:-1000<=hi)(h4:hi<=1000)
  (q:R (xF b2 lo ((hi-lo+g9 b2-1)/g9 b2).toNat) H):wpAny (model X.prog X.w) X.A (pyIter (.ref s.heap.objs.size)) (NK X pins σ tg R) E { s with heap:=s.heap.push { cls:=.type "range",data:=.fields #[.int lo t,.int hi u,.int (g9 b2) v] },toks:=tk }:=by
 refine wpAny_pyIter_range (IsRange.new ..) (wK h1 h2 h3 h4) ?_
 have I1:Inv X pins σ H { s with heap:=s.heap.push { cls:=.type "range",data:=.fields #[.int lo t,.int hi u,.int (g9 b2) v] },toks:=tk }:=I.kept λb o e=>hps0 _ e
 refine⟨(s.heap.push { cls:=.type "range",data:=.fields #[.int lo t,.int hi u,.int (g9 b2) v] }).objs.size,[(s.heap.push { cls:=.type "range",data:=.fields #[.int lo t,.int hi u,.int (g9 b2) v] }).objs.size],_,_,H,rfl,
  I1.kept  λb o e=>hps0 _ e,qq b2 _ lo ((hi-lo+g9 b2-1)/g9 b2).toNat,?_,λb hb=>?_,q⟩
 ·have e1:lo+((0:Nat):Int)*g9 b2=lo:=zS
  have e2:((((hi-lo+g9 b2-1)/g9 b2).toNat:Nat):Int)-((0:Nat):Int)=Builtin.Range.rangeSize lo hi (g9 b2):=by rw[qE];simp
  rw[e1,e2]
  exact zA _ rfl
 ·have e:b=(s.heap.push { cls:=.type "range",data:=.fields #[.int lo t,.int hi u,.int (g9 b2) v] }).objs.size:=by simpa using hb
  subst e
  exact I1.fpOk (zC _) (I1.hok.fresh (zC _))
def KY(t:Bool)(ta:TA):TI:=λσ H R=>ta σ H λvs H1=>∃i j:Int,vs=[.int i,.int j,.int (g9 t)]/\(-1000<=i/\i<=1000/\-1000<=j/\j<=1000)/\R (xF t i ((j-i+g9 t-1)/g9 t).toNat) H1
theorem xt(hg:Gl X "range")(hm:X.mg "range"=none)(ha:PA X [a,b,c] ta)(hs:starEach [a,b,c] X.env=(false,eval a X.env)::starEach [b,c] X.env)(hs2:(backTo pos (starEach [b,c] X.env)).any (·.1)=false):PI X tg (.Call (.Name "range" p) [a,b,c] [] pos) (KY b2 ta):=by
 intro pins s σ H R I h;refine Call_ (ef I hg hm boot_range (ZC (aW (ha pos pins s σ H _ I h) λus s1 ⟨vs,H1,I1,r1,q1⟩=>?_) hs hs2));obtain⟨i,j,e,⟨q1,q2,q3,q4⟩,q⟩:=q1;subst e;cases r1 with
 |cons r rr=>
  cases rr with
  |cons r' rr=>
   cases rr with
   |cons r2 rr=>cases rr;obtain⟨t,rfl⟩:=r;obtain⟨t',rfl⟩:=r';obtain⟨t2,rfl⟩:=r2;exact call_range_3 (by cases b2<;>decide) (wG I1 q1 q2 q3 q4 q) (.inl (PyProof.noPylong_of_log2 (by cases b2<;>decide)))
theorem xc{lo:Int}(re1:bE X.K ρ1 H1 σ τ)(hr1:a8 X.K ρ1 h1 H1)
  (q1:RQ X.K EX ρ1 H1 (fo is (a9 cf fw bs') ((List.range n).map λ(k:Nat)=>W.int (lo+(k:Int)*g9 b2)) σ h1) (kF X.K D)) :
  ∃W:Nat->Nat->L2.St->Hp->Prop,(∃m,W 0 m τ H1)/\∀i m σ H,W i m σ H ->
   ((xF b2 lo n).stop i H/\D.nx σ H)\/((xF b2 lo n).go i H/\∃N:L2.St->Hp->Prop,(∀σ' H',N σ' H'->∃m',m'<m/\W (i+1) m' σ' H')/\∀x H',(xF b2 lo n).yld i H x H'->kg X.K is x σ H' λσ2 H2=>dE X.K EX (a9 cf fw bs') { D with nx:=N,ct:=N,bk:=D.nx } σ2 H2):=by
 let Pv :=λi τ H=>TR X.K EX (fo is (a9 cf fw bs') (((List.range n).map λ(k:Nat)=>W.int (lo+(k:Int)*g9 b2)).drop i)) (kF X.K D) τ H
 refine⟨λi m σ H=>m=n-i/\i<=n/\Pv i σ H,⟨n,zS,ZD _,ρ1,σ,h1,re1,hr1,q1⟩,?_⟩
 rintro i m τ2 H2 ⟨rfl,hi,p⟩
 by_cases hlt:i<n
 ·refine .inr ⟨hlt,Pv (i+1),λσ' H' p'=>⟨n-(i+1),zL,rfl,hlt,p'⟩,λx H' y=>?_⟩
  obtain⟨e,y⟩:=y
  subst e y
  obtain⟨ρ2,σ2,h2,re2,hr2,q2⟩:=p
  rw[fA (w:=.int (lo+(i:Int)*g9 b2)) (by simp[hlt])]at q2
  exact iY re2 hr2 bf q2 λτ' H' ρ' σ' h' x re' hr' q'=>⟨ρ',σ',h',re',hr',q'⟩
 ·have e:i=n:=zL
  subst e
  obtain⟨ρ2,σ2,h2,re2,hr2,q2⟩:=p
  rw[zzj zS]at q2
  rw[fo]at q2
  exact .inl ⟨zC _,RQ.here hr2 q2 _ re2⟩
theorem GW(hp:PassesOwn (model X.prog X.w) X.A X.env X.xe)(hc:X.calm=true)(hgl:Gl X "range")(hm:X.mg "range"=none)
  (ha:PE X a (tI X.K EX (af cf a'))) (hb0:PE X b (tI X.K EX (af cf b'))) (hn:az a=true) (hn2:az b=true) (hg:PG X tg (kg X.K is)) (hb:PSs X bs (dE X.K EX (a9 cf fw bs'))) :
  PS X (.For tg (.Call (.Name "range" p) [a,b,.Constant (.int (g9 b2)) j3 p3] [] p2) bs [] pos) (dE X.K EX (aL cf fw (.for_ is (.rng2 b2 a' b') bs'))) :=
 (lL hp hc (xt hgl hm (aM ha (aM hb0 (aM tH bF (by rfl)) (au hn2 _ _)) (au hn _ _)) (au hn _ _) (by rw[au hn2];rfl)) hg hb (by intro _;rfl)).sub λD τ H zq=>by obtain⟨ρ,σ,h,re,hr,q⟩:=zq;rw[aL]at q;refine⟨ρ,σ,h,re,hr,q.bnd.mono λw h1 ρ1 H1 x1 hr1 q1 v r=>?_⟩;refine⟨ρ1,σ,h1,re.ext x1,hr1,q1.bnd.mono λw2 h2 ρ2 H2 x2 hr2 q2 v2 r2=>?_⟩;have r1:=Rel.ext x2 _ _ r;split at q2;rename_i i j;cases a7 r1;cases a7 r2;split at q2;rename_i hj;exact⟨i,j,rfl,hj,xc ((re.ext x1).ext x2) hr2 q2⟩;exact q2.elim;exact q2.elim
end
structure mS (K:Fg0) (c:Nat) (C:Addr):Prop where
 ns:PySem.W.nsIn K mainGlobals (eP c)=some (some (.ref C))
 cls:yi K C
 no:∀f∈aO c,iM K C f
theorem pY(c):(aO c).Nodup:=by
 cases c with
 |zero=>decide
 |succ c=>show(["names","standings"]:List Str).Nodup;decide +kernel
theorem lX:∀{fs:List Str}{xs:List V}{k:Nat},fs.Nodup->fs[k]?=some f->xs[k]?=some x->(fs.zip xs).lookup f=some x
 |[],_,_,_,h,_=>by simp at h
 |g::fs,[],k,_,_,h=>‹_›
 |g::fs,y::xs,0,_,h,h2=>by simp_all
 |g::fs,y::xs,k+1,nd,h,h2=>by
  rw[Z3]at nd;have hf:fs[k]?=some f:=by simpa using h
  rw[zzo,ZJ];have:(f==g)=false:=by rw[zze];rintro rfl;exact nd.1 (zH hf)
  rw[this];exact lX nd.2 hf (by simpa using h2)
theorem gq:∀{fs:List Str}{xs:List V},f∉fs->(fs.zip xs).lookup f=none
 |[],_,_=>rfl
 |g::fs,[],_=>rfl
 |g::fs,y::xs,h=>by rw[zV,not_or]at h;rw[zzo,ZJ,(zze.mpr h.1)];exact gq h.2
section
variable {X:Cx}{EX:cC}{cf:CF}{fw:Nat}{pos:Pos}{a b c e:Expr}{a' b' c' e':E}{cl:Nat->Addr}
theorem M7(O:mS X.K k C)(hf:(aO k)[n]?=some f)(ha:PE X a (tI X.K EX (af cf a')))(hb:eO a=true):PE X (.Attribute a f pos) (tI X.K EX (af cf (.fld k n a'))) :=
 (Ir ha (eR hb _ _ _)).sub λτ H Q zq=>by
  obtain⟨ρ,σ,h,re,hr,q⟩:=zq;rw[af]at q;refine⟨ρ,σ,h,re,hr,q.bnd.mono λw h1 ρ1 H1 x1 hr1 q1 v r=>?_⟩;cases w with
  |ins k' ws=>dsimp only at q1;split at q1;rename_i hk;subst hk;split at q1;rename_i w0 e0;obtain⟨p,dx,xs,C',rfl,np,hp,hl,hC,rs⟩:=r;have hC':=hC.symm.trans O.ns;cases hC';obtain⟨x0,ex,rx⟩:=rs.get e0;exact⟨p,C,dx,_,x0,rfl,hp,O.cls,O.no f (zH hf),lX (pY _) hf ex,RQ.here hr1 q1 _ rx⟩;exact q1.elim;exact q1.elim
  |_=>exact q1.elim
theorem qO{m:Str}{fn np:Nat}{C:Addr}{es':List E}{τ:L2.St}{H:Hp}{Q:VK}{t:TA}{K:Fg0}(O:mS K 1 C)(hm:m∉aO 1)(hl:es'.length+1=np)(q:tI K EX (af cf (.mth fn a' es')) τ H Q)
  (ht:∀τ H R,mV K EX (bL cf es') τ H R->t τ H R):AY C m (FU K cl cf fn np) [] (Qq K cl EX) (tI K EX (af cf a')) t τ H Q:=by
 obtain⟨ρ,σ,h,re,hr,q⟩:=q
 rw[af]at q
 refine⟨ρ,σ,h,re,hr,q.bnd.mono λw h1 ρ1 H1 x1 hr1 q1 v r=>?_⟩
 split at q1
 ·rename_i hw
  cases w with
  |ins k ws0 =>
   have hk:k=1:=by unfold uB at hw;split at hw;rename_i z;cases z;rfl;cases hw
   subst hk
   have r0:=r
   obtain⟨p,dx,xs,C',rfl,hnp,hp,hlx,hC,rs⟩:=r
   have hC':=hC.symm.trans O.ns
   cases hC'
   refine⟨p,dx,_,rfl,hp,gq hm,ht _ _ _ ⟨ρ1,σ,h1,re.ext x1,hr1,?_⟩⟩
   cases e:bL cf es' σ h1 with
   |stuck=>rw[e]at q1;exact q1.elim
   |exc c h2=>rw[e]at q1;exact q1
   |ok ws h2 =>
    rw[e]at q1
    intro ρ2 H2 x2 hr2 vs rs2
    have q2:RQ K EX ρ2 H2 (cf fn (.ins 1 ws0::ws) h2) (λw _ ρ' H'=>∀v,Rel K ρ' H' w v->Q v H'):=q1.bnd ρ2 H2 x2 hr2
    refine⟨by rw[Zi,Zn,<- rs2.length,fO e];exact hl,ρ2,h2,.ins 1 ws0::ws,hr2,by rw[Zi];exact .cons (Rel.ext x2 _ _ r0) rs2,?_⟩
    cases e2:cf fn (.ins 1 ws0::ws) h2 with
    |ok w h3=>rw[e2]at q2;exact q2
    |exc c h3=>rw[e2]at q2;exact λρ3 H3 x3 hr3=>⟨c,h3,ρ3,rfl,hr3,q2 ρ3 H3 x3 hr3⟩
    |stuck=>rw[e2]at q2;exact q2
  |_=>cases hw
 ·exact q1.elim
theorem qK(hs : es.all az = true)(hn : es.length<30)(hl : ap.endLine = pos.line) : eval (.Call (.Attribute (.Name x p) m ap) es [] pos) env = (do
   let ov <- eval (.Name x p) env
   standAt ap.atName
   let (f,first) <- holding [ov] (getMethod ov m (do return (<- importBound (.Name x p) env).getD true))
   callWith pos f first (backTo pos (starEach es env)) (backToKw pos (keywordEach [] env))):=by
 have few:methodCallForm (es.length+([]:List Keyword).length) (backTo pos (starEach es env)) (backToKw pos (keywordEach [] env))=true:=by
  unfold methodCallForm;have h1:=fD hs pos env;have h2:(backTo pos (starEach es env)).all (λx=>!x.1)=true:=by rw[List.all_eq_not_any_not];simpa using h1
  rw[h2];have h3:(backToKw pos (keywordEach [] env))=[]:=rfl;rw[h3];simp[hn]
 show(do let ov <- attributeBase (.Name x p) m env (eval (.Name x p) env);standAt ap.atName;methodCall (.Name x p) m ap pos env ov (es.length+([]:List Keyword).length) (backTo pos (starEach es env)) (backToKw pos (keywordEach [] env)))=_
 unfold methodCall
 rw[few]
 have hp:methodCallPos true (.Name x p) env ap pos=pure pos:=by unfold methodCallPos;rw[zF (by simp[hl])]
 simp only[hp,calleeOf,if_true,pure_bind]
 rfl
theorem Kc(O:mS X.K 1 C)(hm:m∉aO 1)(hl:([]:List E).length+1=np)(hln:ap.endLine=pos.line)(ho:PE X (.Name x p) (tI X.K EX (af cf a')))(M:Meth X.K C m f)
  (F:eF X.prog X.w X.K X.mg X.base (mL X.prog X.w) k f fd ps (FU X.K cl cf fn np)) (hr:bX k X.A) (hb:Binds X.K fd ps []) (hX:XL cl X EX) :
  PE X (.Call (.Attribute (.Name x p) m ap) [] [] pos) (tI X.K EX (af cf (.mth fn a' []))) :=
 (Af ho O.cls M F hr hb .nil hX.passes (qK rfl zS hln)).sub λτ H Q q=>qO  O hm hl q λτ H R zq=>by obtain⟨ρ,σ,h,re,hr,q⟩:=zq;exact RQ.here hr q _ .nil
theorem Li(O:mS X.K 1 C)(hm:m∉aO 1)(hl:es'.length+1=np)(hln:ap.endLine=pos.line)(hn:(e::es).length<30)(ho:PE X (.Name x p) (tI X.K EX (af cf a')))(M:Meth X.K C m f)
  (F:eF X.prog X.w X.K X.mg X.base (mL X.prog X.w) k f fd ps (FU X.K cl cf fn np)) (hr:bX k X.A) (hb:Binds X.K fd ps []) (hX:XL cl X EX) (ha:PA X (e::es) (mV X.K EX (bL cf es'))) (hs:(e::es).all az=true) :
  PE X (.Call (.Attribute (.Name x p) m ap) (e::es) [] pos) (tI X.K EX (af cf (.mth fn a' es'))):=by
 have hs':=hs
 rw[ZO,zI]at hs'
 exact(DA ho O.cls M F hr hb .nil hX.passes ha (au hs'.1 es X.env) (fD hs'.2 pos X.env) (qK hs hn hln)).sub λτ H Q q=>qO O hm hl q λ_ _ _ z=>z
end
theorem Dk(hd:d<(aO c).length)(hl:ys.length=d):∀c' (xs:List V),(aO c').length=xs.length->((aO c).take d).zip ys≠(aO c').zip xs:=λc' xs hx e=>by
 have e1:=congrArg (List.map Prod.fst) e;rw[List.map_fst_zip (by rw[Zo];lia),List.map_fst_zip (by simp_all)]at e1;have e2:d=(aO c').length:=by grind
 cases c with
 |zero=>
  cases c' with
  |zero=>simp_all
  |succ c'=>have:d=2:=e2;subst this;exact absurd e1 (by show ¬ (["deed","part_list"]:List Str)=(["names","standings"]:List Str);decide +kernel)
 |succ c=>
  have h2:d<2:=hd;cases c' with
  |zero=>have:d=4:=e2;lia
  |succ c'=>have:d=2:=e2;lia
section
variable {K:Fg0}{ρ:List Addr}{H:Hp}{x C dx:Addr}{fs:List (Str×V)}{o:HO}
structure Pm (H:Hp) (x:Addr):Prop where
 ex:∃C dx fs,H x=some (.ins C dx fs)/\∀c (xs:List V),(aO c).length=xs.length->fs≠(aO c).zip xs
theorem Pm.ne(p:Pm H x)(e:H a=some u)(h:∀C dx fs,u≠.ins C dx fs):a≠x:=by
 obtain⟨C,dx,fs,ex,_⟩:=p.ex
 grind
theorem Pm.rd(p:Pm H x)(r:Rd H a u)(h:∀C dx fs,u≠.ins C dx fs):Rd (aY H x o) a u:=by rcases r with r|⟨ob,r⟩;exact .inl (by rw[aB (p.ne r h)];lia);exact .inr ⟨ob,by rw[aB (p.ne r (λ_ _ _ z=>by simp_all))];lia⟩
mutual
theorem Rel.upx(p:Pm H x):∀w v,Rel K ρ H w v->Rel K ρ (aY H x o) w v
 |.non,v,r=>by rw[Rel]at r ⊢;exact r
 |.bl _,v,r=>by rw[Rel]at r ⊢;exact r
 |.int _,v,r=>by rw[Rel]at r ⊢;exact r
 |.str _,v,r=>by rw[Rel]at r ⊢;exact r
 |.tup ws,v,r=>by rw[Rel]at r ⊢;obtain⟨a,xs,e,q,rs⟩:=r;exact⟨a,xs,e,q.imp (λz=>⟨z.1,p.rd z.2 (λ_ _ _ y=>by cases y)⟩) id,ao.upx p ws xs rs⟩
 |.lst ws,v,r=>by rw[Rel]at r ⊢;obtain⟨a,xs,e,n,q,rs⟩:=r;exact⟨a,xs,e,n,by rw[aB (p.ne q (λ_ _ _ y=>by cases y))];exact q,ao.upx p ws xs rs⟩
 |.scr ws,v,r=>by rw[Rel]at r ⊢;obtain⟨a,xs,e,q,rs⟩:=r;exact⟨a,xs,e,q.imp (λz=>⟨z.1,p.rd z.2 (λ_ _ _ y=>by cases y)⟩) id,ao.upx p ws xs rs⟩
 |.dic ks ws,v,r=>by rw[Rel]at r ⊢;obtain⟨a,xs,e,n,q,l,rs⟩:=r;exact⟨a,xs,e,n,p.rd q (λ_ _ _ y=>by cases y),l,ao.upx p ws xs rs⟩
 |.ins c ws,v,r=>by rw[Rel]at r ⊢;obtain⟨a,dx,xs,C,e,n,q,l,z,rs⟩:=r;refine⟨a,dx,xs,C,e,n,?_,l,z,ao.upx p ws xs rs⟩;rw[aB];exact q;rintro rfl;obtain⟨C',dx',fs',ex,np⟩:=p.ex;rw[q]at ex;cases ex;exact np c xs l rfl
 |.ref n,v,r=>by rw[Rel]at r ⊢;exact r
theorem ao.upx(p:Pm H x):∀ws xs,ao K ρ H ws xs->ao K ρ (aY H x o) ws xs
 |[],xs,r=>by rw[ao]at r ⊢;exact r
 |w::ws,xs,r=>by rw[ao]at r ⊢;obtain⟨y,ys,e,r1,r2⟩:=r;exact⟨y,ys,e,Rel.upx p w y r1,ao.upx p ws ys r2⟩
end
theorem a8.upx(hr:a8 K ρ h H)(p:Pm H x):a8 K ρ h (aY H x o):=⟨hr.len,hr.nd,λn a ob e1 e2=>by
 have q:=hr.at_ n a ob e1 e2
 cases ob with
 |lst ws=>obtain⟨pu,xs,e,r⟩:=q;exact⟨pu,xs,by rw[aB (p.ne e (λ_ _ _ y=>by cases y))];lia,ao.upx p ws xs r⟩
 |dic ks ws=>obtain⟨pu,xs,e,l,r⟩:=q;exact⟨pu,xs,by rw[aB (p.ne e (λ_ _ _ y=>by cases y))];lia,l,ao.upx p ws xs r⟩⟩
theorem bE.upx(re:bE K ρ H σ τ)(p:Pm H x):bE K ρ (aY H x o) σ τ:=⟨re.len,λi w e=>let ⟨v,h1,h2⟩:=re.at_ i w e;⟨v,h1,Rel.upx p w v h2⟩⟩
theorem Bi(y:Ext ρ0 H0 ρ H)(h0:H0 x=none):Ext ρ0 H0 ρ (aY H x o) :=
 ⟨y.pre,λa u e n=>(by rw[aB (by grind)];exact y.keep a u e n),y.out⟩
theorem qF:∀{fs:List Str}{xs:List V},fs.length=xs.length->f∉fs->gZ f v (fs.zip xs)=(fs++[f]).zip (xs++[v])
 |[],[],_,_=>rfl
 |[],_::_,h,_=>by cases h
 |_::_,[],h,_=>by cases h
 |g::fs,y::xs,h,n=>by rw[zV,not_or]at n;rw[zzo,gZ,zP (zza n.1),qF (by simp_all) n.2];rfl
theorem RQ.bnd0{α β:Type}{EX:cC}{r:Res α}{f:α->aa->Res β}{k:β->aa->List Addr->Hp->Prop}(q:RQ K EX ρ H (J.bnd r f) k):RQ K EX ρ H r (λa h' _ _=>RQ K EX ρ H (f a h') k):=by
 cases r with
 |ok a h'=>exact λ_ _ _ _=>q
 |exc c h'=>exact q
 |stuck=>exact q
end
section
variable {X:Cx}{EX:cC}{cf:CF}{fw:Nat}{pos:Pos}{a b c e:Expr}{a' b' c' e':E}{cl:Nat->Addr}
def Nl(K:Fg0)(c:Nat)(x:Addr)(ws:List W)(Q:Hp->Prop):List W->aa->List Addr->Hp->Prop:=λus _ ρ' H'=>Rel K ρ' H' (.ins c (ws++us)) (.ref x)->Q H'
def wx(K:Fg0)(EX:cC)(cf:CF)(c d:Nat)(fl:List (Bool×E)):TS:=λD τ H=>∃ρ0 H0 ρ σ h x dx C xs ws,Ext ρ0 H0 ρ H/\H0 x=none/\x∉ρ/\τ[0]?=some (some (.ref x))/\H x=some (.ins C dx (((aO c).take d).zip xs)) /\
 xs.length=d/\d+fl.length=(aO c).length/\PySem.W.nsIn K mainGlobals (eP c)=some (some (.ref C))/\bE K ρ H σ τ/\a8 K ρ h H/\ao K ρ H ws xs/\RQ K EX ρ0 H0 (eN cf σ fl h) (Nl K c x ws λH'=>D.nx τ H')
theorem Cv:PSs X [] (wx X.K EX cf k (aO k).length []):=lb.sub λD τ H zq=>by obtain⟨ρ0,H0,ρ,σ,h,x,dx,C,xs,ws,y,h0,hx,e0,ex,hl,hd,hC,re,hr,rs,q⟩:=zq;rw[eN]at q;refine q ρ H y hr ?_;rw[Zi];rw[zzS (zC _)]at ex;exact⟨x,dx,xs,C,rfl,hx,ex,hl.symm,hC,rs⟩
theorem og{K:Fg0}{k d:Nat}{f:Str}{C:Addr}{fl:List (Bool×E)}{τ:L2.St}{ρ0 ρ1:List Addr}{H0 H1:Hp}{σ:ai}{h1:aa}{x dx:Addr}{xs:List V}{ws:List W}{w:W}{v:V}{D:Ends}(O:mS K k C)(hf:(aO k)[d]?=some f)
  (y:Ext ρ0 H0 ρ1 H1) (h0:H0 x=none) (hx:x∉ρ1) (e0:τ[0]?=some (some (.ref x))) (ex:H1 x=some (.ins C dx (((aO k).take d).zip xs))) (hl:xs.length=d) (hd:d+(fl.length+1)=(aO k).length) (re:bE K ρ1 H1 σ τ) (hr:a8 K ρ1 h1 H1) (rs:ao K ρ1 H1 ws xs)
  (r:Rel K ρ1 H1 w v) (q:RQ K EX ρ0 H0 (bnd (eN cf σ fl h1) λus h=>.ok (w::us) h) (Nl K k x ws λH'=>D.nx τ H')) :
  Jv 0 τ H1 λu H2=>FZ K f (wx K EX cf k (d+1) fl D τ) v H2 u:=by
 have pm:Pm H1 x:=⟨C,dx,_,ex,Dk zL hl⟩
 have hlt:d<(aO k).length:=zL
 have ht:(aO k).take (d+1)=(aO k).take d++[f]:=by rw[List.take_add_one,hf];rfl
 have hnf:f∉(aO k).take d:=λm=>by
  have nd:=pY k;rw[<- List.take_append_drop d (aO k),ZK]at nd;have:f∈(aO k).drop d:=by obtain⟨_,rfl⟩:=ze.mp hf;rw[List.drop_eq_getElem_cons hlt];exact zQ
  exact nd.2.2 f m f this rfl
 refine⟨_,e0,x,C,dx,_,rfl,ex,O.cls,O.no f (zH hf),?_,ρ0,H0,ρ1,σ,h1,x,dx,C,xs++[v],ws++[w],Bi y h0,h0,hx,e0,?_,by simp[hl],zL,O.ns,re.upx pm,hr.upx pm,ao.upx pm _ _ (rs.append (.cons r .nil)),?_⟩
 ·rw[List.length_zip,Zo]
  have:(aO k).length<=4:=by cases k with|zero=>exact zC 4|succ k=>exact(by decide:2<=4)
  lia
 ·rw[aI,ht,qF (by rw[Zo];lia) hnf]
 ·refine RQ.mono (RQ.bnd0 q) λus h' ρ' H' x' hr' q' z=>?_
  refine q' ρ' H' x' hr' ?_
  rw[zzz]at z
  exact z
theorem q8{k d:Nat}{s f:Str}{p p2:Pos}{C:Addr}{fl:List (Bool×E)}{ss:List Stmt}{bb:Bool}(O:mS X.K k C)(hf:(aO k)[d]?=some f)(hs:X.N[0]?=some s)(hv:uX X.env.scope s)(hdb:(s==("__debug__":Str))=false)(hcd:(s==("__classdict__":Str))=false)
  (he:if bb then PE X e (CG X.K EX (nV cf e')) else PE X e (tI X.K EX (af cf e'))) (hc:cW e=true) (h2:PSs X ss (wx X.K EX cf k (d+1) fl)) :
  PSs X (.Assign [.Attribute (.Name s p) f p2] e pos::ss) (wx X.K EX cf k d ((bb,e')::fl)):=by
 have hself:PE X (.Name s p) (Jv 0):=eX hs hv hdb hcd
 cases bb with
 |false =>
  refine(dA (BK (pos:=pos) hself (show PE X e (tI X.K EX (af cf e')) from he) (gn hc _ _ _)) h2).sub λD τ H zq=>?_
  obtain⟨ρ0,H0,ρ,σ,h,x,dx,C',xs,ws,y,h0,hx,e0,ex,hl,hd,hC,re,hr,rs,q⟩:=zq
  have hC':=hC.symm.trans O.ns
  cases hC'
  rw[eN]at q
  refine⟨ρ,σ,h,re,hr,(q.bnd0.wk y).mono λw h1 ρ1 H1 x1 hr1 q1 v r=>?_⟩
  exact og O hf (y.trans x1) h0 (x1.out x _ ex hx) e0 (x1.keepN ex hx (λ_ z=>by cases z)) hl (by simpa using hd) (re.ext x1) hr1 (ao.ext x1 _ _ rs) r q1
 |true =>
  refine(dA (BK (pos:=pos) hself (show PE X e (CG X.K EX (nV cf e')) from he) (gn hc _ _ _)) h2).sub λD τ H zq=>?_
  obtain⟨ρ0,H0,ρ,σ,h,x,dx,C',xs,ws,y,h0,hx,e0,ex,hl,hd,hC,re,hr,rs,q⟩:=zq
  have hC':=hC.symm.trans O.ns
  cases hC'
  rw[eN]at q
  refine⟨ρ,σ,h,re,hr,(q.bnd0.wk y).mono λus h1 ρ1 H1 x1 hr1 q1 ys l rl hn=>?_⟩
  split at q1
  ·rename_i hp
   have z:=ext_cell (o:=.lst ys) hr1 hn
   have x2:=x1.trans z
   refine og (w:=.ref h1.length) O hf (y.trans x2) h0 (x2.out x _ ex hx) e0 (x2.keepN ex hx (λ_ z=>by cases z)) hl (by simpa using hd) (re.ext x2) (hr1.cell hn hp rl) (ao.ext x2 _ _ rs) ?_ q1
   rw[Rel]
   exact⟨l,rfl,by rw[<- hr1.len,zE (zC _)];simp⟩
  ·exact q1.elim
def OC(K:Fg0)(cl:Nat->Addr)(cf:CF)(fn np c:Nat):Sp:=λvs H Q E=>vs.length=np/\∃x us dx C H1 ρ h ws,vs=.ref x::us/\H=aY (aY H1 dx (.own x)) x (.ins C dx [])/\H1 x=none/\H1 dx=none/\dx≠x/\PySem.W.nsIn K mainGlobals (eP c)=some (some (.ref C)) /\
 a8 K ρ h H1/\ao K ρ H1 ws us/\RQ K (λc _ _ H'=>E (.ref (cl c)) none H') ρ H1 (cf fn ws h) λw _ ρ' H'=>Rel K ρ' H' w (.ref x)->Q .non H'
theorem MZ(M:Mk X.K C f)(hC:PySem.W.nsIn X.K mainGlobals (eP cc)=some (some (.ref C)))
  (F:eF X.prog X.w X.K X.mg X.base (mL X.prog X.w) k f fd ps (OC X.K cl cf fn np cc)) (hr:bX (k+1) X.A) (hg:Gl X x) (hm:X.mg x=some (.ref C)) (hb:Binds X.K fd ps []) (hX:XL cl X EX) (hdb:(x==("__debug__":Str))=false) (hs:(e::es).all az=true) (hl':es'.length+1=np)
  (ha:PA X (e::es) (mV X.K EX (bL cf es'))):PE X (.Call (.Name x p) (e::es) [] pos) (tI X.K EX (af cf (.call fn es'))):=by
 have hs':=hs
 rw[ZO,zI]at hs'
 refine(EH M F hr hg hm hb .nil hX.passes ha hdb (au hs'.1 es X.env) (fD hs'.2 pos X.env)).sub λτ H Q zq=>?_
 obtain⟨ρ,σ,h,re,hr,q⟩:=zq
 rw[af]at q
 refine⟨ρ,σ,h,re,hr,?_⟩
 cases e:bL cf es' σ h with
 |stuck=>rw[e]at q;exact q.elim
 |exc c h1=>rw[e]at q;exact q
 |ok ws h1 =>
  rw[e]at q
  intro ρ1 H1 x1 hr1 vs rs y dx n1 n2 n3
  have q1:RQ X.K EX ρ1 H1 (cf fn ws h1) (λw _ ρ' H'=>∀v,Rel X.K ρ' H' w v->Q v H'):=q.bnd ρ1 H1 x1 hr1
  refine⟨by rw[Zi,Zn,<- rs.length,fO e];exact hl',y,vs,dx,C,H1,ρ1,h1,ws,zS,rfl,n1,n2,n3,hC,hr1,rs,?_⟩
  cases e2:cf fn ws h1 with
  |ok w h2=>rw[e2]at q1;exact λρ2 H2 x2 hr2 r=>⟨rfl,q1 ρ2 H2 x2 hr2 _ r⟩
  |exc c h2=>rw[e2]at q1;exact λρ2 H2 x2 hr2=>⟨c,h2,ρ2,rfl,hr2,q1 ρ2 H2 x2 hr2⟩
  |stuck=>rw[e2]at q1;exact q1
theorem HM{P:Program}{w:World}{K:Fg0}{mg:Str->Option Value}{base:Heap}{x qual:Str}{st:Stmt}{f:Addr}{fd:FuncData}{ps:List Str}{k:Nat}{tb:List Fn}{d fn cc:Nat}{g:Fn}{fl:List (Bool×E)}
  (F:HU K x qual st f fd) (S:fJ ps ps (ay st)) (hg:tb[fn]?=some g) (hnp:g.np=ps.length) (hi:g.ini=some (cc,fl)) (hlen:tb.length<=1000) (hfl:fl.length=(aO cc).length)
  (body:∀(X:Cx) (EX:cC),X.prog=P->X.w=w->X.K=K->X.mg=mg->X.base=base->X.N=ps->X.env.scope=ay st->X.calm=true->(X.fn=λ_=>true)->PassesOwn (model X.prog X.w) X.A X.env X.xe->(X.stack=X.env::X.outer/\X.env.frame=some X.env.locals)->XL cl X EX->XM cl X EX->bX k X.A ->
   PSs X (aS st) (wx K EX (ae fw tb d) cc 0 fl)) :
  eF P w K mg base (mL P w) (k+1) f fd ps (OC K cl (ae fw tb (d+1)) (fn+2000) ps.length cc):=by
 obtain⟨oc,od,kV,doc,pm,an,cdv,ct,osl,rfl,lk,hcd⟩:=F.ex
 refine Ba lk hcd S (λvs H Q E h=>h.1) λA outer s H vs Q E hr zq=>?_
 obtain⟨hl,x,us,dx,C,H1,ρ,h,ws,e1,e2,n1,n2,n3,hC,hrel,rl,q⟩:=zq
 subst e1 e2
 have y1:=J.ext_new (o:=.own x) hrel n2
 have n4:aY H1 dx (.own x) x=none:=by rw[aB (zza n3)];exact n1
 have hr1:=hrel.ext_new (o:=.own x) n2
 have y2:=y1.trans (J.ext_new (o:=.ins C dx []) hr1 n4)
 have hr2:=hr1.ext_new (o:=.ins C dx []) n4
 refine⟨_,body (lV (mL P w) P w K mg base ps qual (ay st) f cdv A outer s _ E) _ rfl rfl rfl rfl rfl rfl rfl rfl rfl PassesOwn.leaving ⟨rfl,rfl⟩ B2 y7 hr,ρ,H1,ρ,none::ws.map some,h,x,dx,C,[],[],y2,n1,hrel.new n1,?_,aI,rfl,by rw[zzT];exact hfl,hC,?_,hr2,.nil,?_⟩
 ·have:ps.length≠0:=by rw[<- hl];simp
  unfold L2.start
  rfl
 ·have rl2:=ao.ext y2 _ _ rl
  have hl2:ws.length=us.length:=rl.length
  refine⟨by unfold L2.start;simp at hl ⊢;lia,λi w e=>?_⟩
  cases i with
  |zero=>simp at e
  |succ i =>
   have e':(ws.map some)[i]?=some (some w):=by simpa using e
   rw[Za]at e'
   obtain⟨u,eu,ez⟩:=Zk.mp e'
   cases ez
   obtain⟨v,ev,rv⟩:=rl2.get eu
   refine⟨v,?_,rv⟩
   unfold L2.start
   have hlt:i<us.length:=(ze.mp ev).1
   simp[zJ,hlt]
   exact(ze.mp ev).2
 ·have e:ae fw tb (d+1) (fn+2000) ws h=bnd (eN (ae fw tb d) (none::ws.map some) fl h) λus h=>.ok (.ins cc us) h:=by
   have hw:ws.length+1=g.np:=by rw[rl.length,hnp,<- hl];rfl
   have no1:tb[fn+2000]?=none:=ZQ.mpr zL;have no2:tb[fn+2000-1000]?=none:=ZQ.mpr zL;show(match tb[fn+2000]? with|some g=>_|none=>match tb[fn+2000-1000]? with|some g=>_|none=>match tb[fn+2000-2000]? with|some g=>_|none=>_)=_;simp_all
  rw[e]at q
  refine RQ.mono (RQ.bnd0 q) λfs h' ρ' H' x' hr' q' z=>?_
  exact q' ρ' H' x' hr' z
end
noncomputable def mD(env:Env):List (Str×NameKind)->List (Str×Addr)->List (Str×Addr)
 |[],cs=>cs
 |(n,k)::r,cs=>if k==.free then(match env.cells.lookup n with
  |some c=>mD env r ((n,c)::cs)
  |none=>mD env r cs) else mD env r cs
theorem mK(h:∀y∈scope.names,y.2=.free->∃c,env.cells.lookup y.1=some c):closureFor scope env=pure (mD env scope.names []):=by
 unfold closureFor
 have go:∀(l:List (Str×NameKind)) (cs:List (Str×Addr)),(∀y∈l,y.2=.free->∃c,env.cells.lookup y.1=some c) ->
   (forIn l cs (λx r=>match x with|(name,kind)=>if(kind==NameKind.free)=true then(do let a <- cellOf env name;pure (ForInStep.yield ((name,a)::r))) else pure (ForInStep.yield r)):Sem (List (Str×Addr)))=pure (mD env l cs):=by
  intro l
  induction l with
  |nil=>intro cs _;rfl
  |cons y l ih =>
   intro cs hl
   obtain⟨n,k⟩:=y
   rw[List.forIn_cons]
   dsimp only
   unfold mD
   by_cases hk:(k==NameKind.free)=true
   ·obtain⟨c,hc⟩:=hl (n,k) zQ (by simpa using hk)
    rw[zF hk,zF hk]
    dsimp only at hc
    unfold cellOf
    rw[hc]
    exact ih _ λy hy=>hl y (zo _ hy)
   simp_all
 exact congrArg (· >>= λr=>pure r) (go scope.names [] h)
theorem lg:∀{l:List (Str×NameKind)}{cs:List (Str×Addr)}{x:Str}{c:Addr},(x,c)∈mD env l cs->(x,c)∈cs\/env.cells.lookup x=some c
 |[],cs,x,c,h=>.inl h
 |(n,k)::r,cs,x,c,h=>by
  unfold mD at h
  split at h
  ·split at h
   ·rcases lg h with z|z
    ·grind
    simp_all
   ·exact lg h
  ·exact lg h
theorem kZ:∀{l:List (Str×NameKind)}{cs:List (Str×Addr)}{x:Str},(cs.lookup x).isSome->((mD env l cs).lookup x).isSome
 |[],cs,x,h=>h
 |(n,k)::r,cs,x,h=>by
  unfold mD
  split
  ·split
   ·refine kZ ?_
    grind
   ·exact kZ h
  ·exact kZ h
theorem j7{env:Env}:∀{l:List (Str×NameKind)}{cs:List (Str×Addr)}{x:Str}{c:Addr},(x,NameKind.free)∈l->env.cells.lookup x=some c->((mD env l cs).lookup x).isSome
 |(n,k)::r,cs,x,c,h,hc=>by unfold mD;rcases(zV.mp h) with e|h;cases e;rw[hc];refine kZ ?_;simp;split;split;exact j7 h hc;exact j7 h hc;exact j7 h hc
theorem bU{β:Type}{b:β}{l:List (Str×β)}(h:l.lookup x=some b):(x,b)∈l:=zzd h
theorem Ag{x:Str}{c:Addr}(h:(mD env l []).lookup x=some c):env.cells.lookup x=some c:=by
 rcases lg (bU h) with z|z
 ·cases z
 lia
noncomputable def i8(sc:Scope)(out:Scope):Scope:={ sc with names:=sc.names.map λ(n,k)=>if(k==.free&&out.kind==.function&&out.names.lookup n==some .cell) then(n,.cell) else(n,k) }
theorem cw{out:Scope}:∀{names:List (Str×NameKind)}{x:Str}{k:NameKind},
  (names.map λ(n,k)=>if(k==.free&&out.kind==.function&&out.names.lookup n==some .cell) then(n,.cell) else(n,k)).lookup x=some k ->
  names.lookup x=some k\/(k=.cell/\names.lookup x=some .free/\out.names.lookup x=some .cell)
 |[],_,_,h=>by exact .inl ‹_›
 |(n,k')::r,x,k,h=>by
  rw[zR]at h;dsimp only at h;by_cases hc:(k'==.free&&out.kind==.function&&out.names.lookup n==some .cell)=true;rw[zF hc,ZJ]at h;rw[ZJ];cases hx:x==n with
  |true=>simp_all
  |false=>rw[hx]at h;exact cw h
  rw[zP hc,ZJ]at h;rw[ZJ];cases hx:x==n with
  |true=>simp_all
  |false=>rw[hx]at h;exact cw h
noncomputable def blk (X:Cx) (N':List Str) (scope:Scope) (cl:List (Str × Addr)) (C:Addr) (fp:List Addr) (s:Shared) (H:Hp):Cx :=
  { X with N:=N',s₀:=s,H₀:=H,env:=compEnvC scope cl C X.env,outer:=X.stack,stack:=X.stack,ex:=fp,fn:=fun _=>false,pn:=[],xe:=fun _ _=>False }

structure lB (out:Scope) (N N':List Str) (sc:Scope) (own:List Str):Prop where
 kind:sc.kind=.function
 cell:∀y∈sc.names,y.2≠.cell
 free:∀y∈sc.names,y.2=.free->out.names.lookup y.1=some .cell
 loc:∀y∈sc.names,y.2=.local->sc.names.lookup y.1=some .local
 mine:∀x,sc.names.lookup x=some .local->x∈own
 pre:∃t,N'=N++t
 new:∀(i:Nat) (x:Str),N'[i]?=some x->N.length<=i->x∈own
structure B1 (N N':List Str) (own:List Str) (σ τ:L2.St):Prop where
 len:τ.length=N'.length
 at_:∀(i:Nat) (v:V),τ[i]?=some (some v)->∃x,N[i]?=some x/\x∉own/\σ[i]?=some (some v)
section
variable {X:Cx}{pins:List (Addr×Obj)}{σ τ:L2.St}{H:Hp}{s:Shared}{N':List Str}{sc:Scope}{own:List Str}
theorem mG(I:Inv X pins σ H s)(B:lB X.env.scope X.N N' sc own):∀y∈sc.names,y.2=.free->∃c,X.env.cells.lookup y.1=some c :=
 λy hy hf=>I.ok.has y.1 (.inl (B.free y hy hf))
theorem Ct{fp:List Addr}{h₁:Heap}{tk:Nat}{C:Addr}{H':Hp}{m:Str->Option Value}(I:Inv X pins σ H s)(B:lB X.env.scope X.N N' sc own)(S:B1 X.N N' own σ τ)
  (f:∀b∈fp,jg X pins H b) (hC:s.heap.objs.size<=C) (hfp:∀b∈fp,b<s.heap.objs.size) (k:∀b o,s.heap.get? b=some o->h₁.get? b=some o) (hn:h₁.Ns C m)
  (u:Un (gu X.stack) fp H H' s.heap h₁) (hok:eV X.prog X.w H' h₁) (hC':H' C=none) :
  Inv (blk X N' sc (mD X.env sc.names []) C fp s H) [] τ H' { s with heap:=h₁,toks:=tk }:=by
 have hcl:∀x c,(mD X.env sc.names []).lookup x=some c->X.env.cells.lookup x=some c:=λx c e=>Ag e
 have hlt:∀x c,X.env.cells.lookup x=some c->c<s.heap.objs.size:=λx c e=>by obtain⟨v,z⟩:=I.cell x c e;exact z.lt
 have cellOf1:∀x c,X.env.cells.lookup x=some c->∀v,s.heap.IsCell c v->h₁.IsCell c v:=λx c e v zq=>by obtain⟨o,ho,hd⟩:=zq;exact⟨o,k c o ho,hd⟩
 refine⟨⟨I.ok.mod,B.kind,I.ok.glob,I.ok.blt,hC,λx y c h1 h2=>I.ok.inj x y c (hcl x c h1) (hcl y c h2),λx hx=>?_,λx c hf _=>(by cases hf),I.ok.hd,I.ok.frames,.inl rfl,λb hb=>⟨?_,λx c e=>?_⟩,
  I.bs,zf I.ok.bsz I.sz,λb o e hb=>?_,λb hb hm=>?_,I.stack,I.stkFree⟩,
  rfl,I.bare,u,⟨m,hn,λi x v e1 e2 e3=>?_⟩,λx c e=>?_,hC',λx c e=>?_,λp hp=>absurd (show p∈([]:List (Addr×Obj)) from hp) zS,hok,S.len⟩
 ·-- has
  have hx':(i8 sc X.env.scope).names.lookup x=some .cell\/(i8 sc X.env.scope).names.lookup x=some .free:=hx
  have fr:sc.names.lookup x=some .free:=by rcases hx' with z|z;rcases cw z with z|z;exact absurd rfl (B.cell _ (bU z));exact z.2.1;rcases cw z with z|z;exact z;exact z.2.1
  obtain⟨c,hc⟩:=mG I B _ (bU fr) rfl
  exact ZV.mp (j7 (bU fr) hc)
 ·intro e
  have e':b=C:=e
  subst e'
  exact ZG _ (zG (hfp b hb) hC)
 ·exact(f b hb).2.2.2.2.1 x c (hcl x c e)
 ·rcases(f b hb).2.2.2.1 with z|z
  ·exact I.ok.noex b o e z
  ·have h1:=zN e
   have h2:=I.ok.bsz
   exact absurd (zG h1 (zf h2 z)) (ZG _)
 ·rcases zV.mp (I.stkSub b hm) with e|z
  ·exact(f b hb).2.1 e
  ·exact(f b hb).2.2.1 z
 ·-- a name
  obtain⟨y,hy,hno,hv⟩:=S.at_ i v e2
  obtain⟨t,ht⟩:=B.pre
  have hi:i<X.N.length:=(ze.mp hy).1
  have e1':N'[i]?=some x:=e1
  rw[ht,zJ hi,hy]at e1'
  cases e1'
  have e3':(i8 sc X.env.scope).names.lookup x=some .local\/(i8 sc X.env.scope).names.lookup x=some .cell\/(i8 sc X.env.scope).names.lookup x=some .free:=e3
  have fr:sc.names.lookup x=some .free/\(i8 sc X.env.scope).names.lookup x=some .cell:=by
   rcases e3' with z|z|z;rcases cw z with z|z;exact absurd (B.mine x z) hno;cases z.1;rcases cw z with z'|z';exact absurd rfl (B.cell _ (bU z'));exact⟨z'.2.1,z⟩;exfalso;rcases cw z with z'|z';have oc:=B.free _ (bU z') rfl;have:∀{names:List (Str×NameKind)},names.lookup x=some .free->(names.map λ(n,k)=>if(k==.free&&X.env.scope.kind==.function&&X.env.scope.names.lookup n==some .cell) then(n,.cell) else(n,k)).lookup x=some NameKind.cell:=by
    intro names;induction names with
    |nil=>intro h;simp at h
    |cons a r ih=>
     obtain⟨n,k⟩:=a;intro h;rw[ZJ]at h;rw[zR];dsimp only;cases hx:x==n with
     |true=>
      rw[hx]at h;have e:x=n:=by simpa using hx
      subst e;cases h;rw[zF (by simp[I.ok.kind];exact oc),ZJ];simp
     |false=>rw[hx]at h;split;rw[ZJ,hx];exact ih h;rw[ZJ,hx];exact ih h
   have q:=this z';rw[show(i8 sc X.env.scope).names=sc.names.map λ(n,k)=>if(k==.free&&X.env.scope.kind==.function&&X.env.scope.names.lookup n==some .cell) then(n,.cell) else(n,k) from rfl,q]at z;cases z;cases z'.1
  have oc:=B.free _ (bU fr.1) rfl
  obtain⟨m0,hn0,hl⟩:=I.loc
  obtain⟨uu,ru,lk⟩:=hl i x v hy hv (.inr (.inl oc))
  refine⟨uu,ru,?_⟩
  rcases lk with⟨kk,_⟩|⟨_,c,hc,hcell⟩
  ·rw[show X.env.kindOf x=X.env.scope.names.lookup x from rfl,oc]at kk;cases kk
  ·obtain⟨c',hc'⟩:=ZV.mp (j7 (cs:=[]) (bU fr.1) hc)
   have:=hcl x c' hc'
   rw[hc]at this
   cases this
   exact .inr ⟨.inl fr.2,c,hc',cellOf1 x c hc _ hcell⟩
 ·obtain⟨v,z⟩:=I.cell x c (hcl x c e)
  exact⟨v,cellOf1 x c (hcl x c e) v z⟩
 ·obtain⟨v,o,ho,hd⟩:=I.cell x c (hcl x c e)
  refine u.free c o ho (I.freeC x c (hcl x c e)) λz=>?_
  exact(f c z).2.2.2.2.1 x c (hcl x c e) rfl
end
section
variable {P:Program}{w:World}{A:Around}{R:Result->Shared->Prop}{s:Shared}
theorem oX(I:Nat->Shared->Prop)
  (tur:∀n s,I n s->wpAny (model P w) A (pyNext it) (λr t1=>match r with
   |none=>R (.ok .next) t1
   |some v=>wpAny (model P w) A (letOwnedTupleGo tg it v) (λ_ t1'=>wpAny (model P w) A (assign tg en v) (λ_ t2 =>
    wpAny (model P w) A (forIn cs true λc r=>if r=true then do let ok <- isTrue c en (eval c en);pure (ForInStep.yield ok) else pure (ForInStep.yield r)) (λok t3 =>
     if ok=true then wpAny (model P w) A (eval el en) (λx t4 =>
      wpAny (model P w) A (call (.builtin "list.append") [ac,x]) (λ_ t5=>∃m,m<n/\I m t5) (λ_ _=>False) t4) (λ_ _=>False) t3
     else ∃m,m<n/\I m t3) (λ_ _=>False) t2) (λ_ _=>False) t1') (λ_ _=>False) t1) (λ_ _=>False) s)
  (n:Nat) (h:I n s) :
  codeAny (model P w) A (.compLoop (.ListComp el [⟨tg,ir,cs,0⟩] sc ps) 0 it ac en) R s:=by
 refine codeAny_loop rfl I (λn s hJ=>?_) n h
 refine wpAny_noted ?_
 rw[compTurn_list]
 refine zd (wpAny_standAt (zd (ZL (tur n s hJ) (λr t1 k1=>?_) λ_ _ z=>z.elim)))
 cases r with
 |none=>exact zB k1
 |some v =>
  refine zd (ZL k1 (λ_ t1' k1'=>(zd (ZL k1' (λ_ t2 k2=>zd (ZL k2 (λok t3 k3=>?_) λ_ _ z=>z.elim)) λ_ _ z=>z.elim))) λ_ _ z=>z.elim)
  cases ok with
  |false=>exact zB ⟨rfl,k3⟩
  |true =>
   exact zd (zd (ZL k3 (λx t4 k4=>zd (ZL k4 (λ_ t5 k5=>zB (zB ⟨rfl,k5⟩)) λ_ _ z=>z.elim)) λ_ _ z=>z.elim))
end
def fu(D:Addr)(J:L2.It)(g:TG)(tt:TT)(te:TE)(Q:VK)(τ:L2.St)(H:Hp):Prop :=
 ∃W:Nat->Nat->L2.St->Hp->Prop,(∃m,W 0 m τ (aY H D (.lst [])))/\∀i m τ H,W i m τ H ->
  (J.stop i H/\Q (.ref D) H)\/(J.go i H/\∀x H',J.yld i H x H'->g x τ H' λτ2 H2=>tt τ2 H2 λb H3=>if b=true then te τ2 H3 λy H4=>∃ys,H4 D=some (.lst ys)/\ys.length<sizeLine/\∃m',m'<m/\W (i+1) m' τ2 (aY H4 D (.lst (ys++[y])))
   else ∃m',m'<m/\W (i+1) m' τ2 H3)
def Lj(X:Cx)(ifs:List Expr)(t:TT):Prop :=
 ∀(pins:List (Addr×Obj)) (s:Shared) (σ:L2.St) (H:Hp) (Q:Bool->Hp->Prop),Inv X pins σ H s->t σ H Q ->
  wpAny (model X.prog X.w) X.A (forIn ifs true λc r=>if r=true then do let ok <- isTrue c X.env (eval c X.env);pure (ForInStep.yield ok) else pure (ForInStep.yield r)) (TP X pins σ Q) X.xe s
theorem Fb:Lj X [] (λ_ H Q=>Q true H):=λpins s σ H Q I q=>wpAny_tests_nil ⟨H,I,q⟩
theorem Ff(h:PT X c t):Lj X [c] t:=λpins s σ H Q I q=>wpAny_tests_one (h pins s σ H Q I q)
theorem nX{X:Cx}{pins:List (Addr×Obj)}{σ τ:L2.St}{H:Hp}{s:Shared}{N':List Str}{sc:Scope}{own:List Str}{tg iter elt:Expr}{ifs:List Expr}{pos:Pos}{wi:TI}{g:TG}{tt:TT}{te:TE}{Q:VK}
  {RR:Value->Addr->Result->Shared->Prop}{E:Value->Shared->Prop}
  (hcalm:X.calm=true) (hi:PI X tg iter wi) (B:lB X.env.scope X.N N' sc own) (S:B1 X.N N' own σ τ)
  (hb:∀cl C fp s H,PG (blk X N' sc cl C fp s H) tg g/\Lj (blk X N' sc cl C fp s H) ifs tt/\PE (blk X N' sc cl C fp s H) elt te)
  (I:Inv X pins σ H s) (q:wi σ H λJ H1=>∀D,H1 D=none->fu D J g tt te Q τ H1)
  (hRR:∀D C H' s' m',Inv X pins σ H' s'->jg X pins H' C->s'.heap.Ns C m'->Q (.ref D) H'->RR (.ref D) C (.ok .next) s')
  (hE:E=X.xe) :
  wpAny (model X.prog X.w) X.A (eval iter X.env) (λxv s₁=>wpAny (model X.prog X.w) X.A (pyIter xv) (λit s₂=>wpAny (model X.prog X.w) X.A (newList []) (λacc s₃ =>
   wpAny (model X.prog X.w) X.A (newFunctionEnv sc X.env.globals (mD X.env sc.names []) [] X.env.qual none .none (some X.env)) (λcenv s₄ =>
    codeAny (model X.prog X.w) X.A (.compStart (.ListComp elt [⟨tg,iter,ifs,0⟩] sc pos) 0 it acc { cenv with scope:=relabel sc X.env }) (RR acc cenv.locals) s₄) E s₃) E s₂) E s₁) E s:=by
 subst hE
 refine aW (hi pins s σ H _ I q) λxv s1 h1=>aW h1 λitv s2 h2=>?_
 obtain⟨it,fp,tn,J,H2,e,I2,T,st2,f2,q2⟩:=h2
 subst e
 refine Z2 (wpAny_newFunctionEnv B.cell (by intro y hy;simp at hy) (λh₁ hns₁ hsb₁=>?_) B.kind)
 dsimp only at hns₁ hsb₁ ⊢
 have hDn:H2 s2.heap.objs.size=none:=I2.fresh
 obtain⟨W,⟨m0,w0⟩,tE⟩:=q2 s2.heap.objs.size hDn
 have I3:=I2.lnew (its:=[]) (ys:=[]) (t':=s2.toks) .nil zS
 generalize hH2:s2.heap.push { cls:=.type "list",dict:=none,data:=.seq ([]:List Value).toArray }=HP at hns₁ hsb₁ ⊢
 have hC:HP.objs.size=s2.heap.objs.size+1:=by rw[<- hH2,Z1]
 have hCle:s2.heap.objs.size<=HP.objs.size:=by rw[hC];exact ZS _
 have hDC:s2.heap.objs.size≠HP.objs.size:=by rw[hC];exact zW (zzI _)
 have I3':Inv X pins σ (aY H2 s2.heap.objs.size (.lst [])) { s2 with heap:=HP,toks:=s2.toks }:=by rw[<- hH2];exact I3
 have old3:∀b o,HP.get? b=some o->h₁.get? b=some o:=λb o e=>hsb₁.extBut b o (zW (zN e)) (hps0 _ e)
 have old:∀b o,s2.heap.get? b=some o->h₁.get? b=some o:=λb o e=>old3 b o (by rw[<- hH2];exact hps0 _ e)
 have hfp:∀b∈fp,b<s2.heap.objs.size:=λb hb=>by obtain⟨o,e,_⟩:=T.obj _ _ st2 b hb;exact zN e
 have hC':aY H2 s2.heap.objs.size (.lst []) HP.objs.size=none:=by rw[aB (zza hDC)];exact I2.hok.fresh hCle
 have IB:=Ct (tk:=s2.toks+([]:List (Str×Value)).length) (C:=HP.objs.size) I2 B S f2 hCle hfp old hns₁ (Un.laid old (zC _) hDn) (I3'.hok.kept old3) hC'
 have stat:∀{H':Hp},(∀b∈fp,H' b=none)->∀b∈fp,jg (blk X N' sc (mD X.env sc.names []) HP.objs.size fp s2 H2) [] H' b:=λhn b hb =>
  ⟨hn b hb,λe=>ZG _ (zG (hfp b hb) (by rw[show b=HP.objs.size from e];exact hCle)),IB.ok.exfs b hb,.inl hb,λx c e=>(IB.ok.exf b hb).2 x c e,λp hp=>absurd (show p∈([]:List (Addr×Obj)) from hp) zS⟩
 obtain⟨pg,pt,pe⟩:=hb (mD X.env sc.names []) HP.objs.size fp s2 H2
 have fpn:∀b∈fp,aY H2 s2.heap.objs.size (.lst []) b=none:=λb hb=>by rw[aB (zW (hfp b hb))];exact(f2 b hb).1
 have tn1:tn 0 h₁:=T.keep _ _ _ st2 λb _ o e=>old b o e
 have loop:∀s₃:Shared,s₃={ s2 with heap:=h₁,toks:=s2.toks+([]:List (Str×Value)).length } ->
   codeAny (model X.prog X.w) X.A (.compLoop (.ListComp elt [⟨tg,iter,ifs,0⟩] sc pos) 0 (.ref it) (.ref s2.heap.objs.size) (compEnvC sc (mD X.env sc.names []) HP.objs.size X.env))
    (RR (.ref s2.heap.objs.size) HP.objs.size) s₃:=by
  rintro s₃ rfl
  refine oX (λn s'=>∃i τ' H',Inv (blk X N' sc (mD X.env sc.names []) HP.objs.size fp s2 H2) [] τ' H' s'/\tn i s'.heap/\(∀b∈fp,H' b=none)/\W i n τ' H') ?_ m0 ⟨0,τ,_,IB,tn1,fpn,w0⟩
  rintro n s' ⟨i,τ',H',I',st',fr',w'⟩
  rcases tE i n τ' H' w' with⟨stop,qn⟩|⟨go,step⟩
  ·refine aW (T.done (blk X N' sc (mD X.env sc.names []) HP.objs.size fp s2 H2) rfl rfl rfl hcalm i [] s' τ' H' _ I' (stat fr') st' stop) λr s4 zq=>?_
   obtain⟨hr,I4⟩:=zq
   subst hr
   obtain⟨m4,hn4,_⟩:=I4.loc
   have IX:Inv X pins σ H' s4:=I2.call' (ch:=fp) I4.os I4.base I4.hok I4.bare λb hb=>⟨(f2 b hb).2.2.2.1,(f2 b hb).2.1,(f2 b hb).2.2.2.2.1,(f2 b hb).2.2.2.2.2⟩
   refine hRR _ _ H' s4 m4 IX ?_ hn4 qn
   have z:=I2.fpOk (H':=H') hCle I4.free
   exact z
  ·refine aW (T.item (blk X N' sc (mD X.env sc.names []) HP.objs.size fp s2 H2) rfl rfl rfl hcalm i [] s' τ' H' _ I' (stat fr') st' go) λr s4 zq=>?_
   obtain⟨u,hr,h4⟩:=zq
   subst hr
   refine aW h4 λ_ s5 zq=>?_
   obtain⟨x,H5,I5,r5,y5,st5,fr5⟩:=zq
   have I5':=I5.pinned (stat fr5) (T.obj _ _ st5)
   have keepT:∀{τ7:L2.St}{H7:Hp}{s7:Shared},Inv (blk X N' sc (mD X.env sc.names []) HP.objs.size fp s2 H2) ([]++lM fp s5.heap) τ7 H7 s7->tn (i+1) s7.heap/\∀b∈fp,H7 b=none:=λ{τ7 H7 s7} I7 =>
    ⟨T.keep _ _ _ st5 λb hb o e=>(I7.pin (b,o) (Zh _ (Zh _ (fY hb e)))).1,λb hb=>by
     obtain⟨o,e,d⟩:=T.obj _ _ st5 b hb
     exact(I7.pin (b,o) (Zh _ (Zh _ (fY hb e)))).2.1⟩
   refine aW (pg _ s5 τ' H5 x u _ I5' r5 (step x H5 y5)) λ_ s6 zq=>?_
   obtain⟨τ6,H6,I6,q6⟩:=zq
   refine aW (pt _ s6 τ6 H6 _ I6 q6) λok s7 zq=>?_
   obtain⟨H7,I7,q7⟩:=zq
   cases ok with
   |false =>
    rw[zP zD]at q7 ⊢
    obtain⟨m',hm,w7⟩:=q7
    obtain⟨k1,k2⟩:=keepT I7
    exact⟨m',hm,i+1,τ6,H7,I7.unpinned,k1,k2,w7⟩
   |true =>
    rw[zF rfl]at q7 ⊢
    refine aW (pe _ s7 τ6 H7 _ I7 q7) λv s8 zq=>?_
    obtain⟨y,H8,I8,r8,ys,hD8,hz,m',hm,w8⟩:=zq
    refine aW (oo _ s8 τ6 H8 (.ref s2.heap.objs.size) [y] _ [v] (λ_ H9=>H9=aY H8 s2.heap.objs.size (.lst (ys++[y]))) I8 rfl (.cons r8 .nil) ⟨_,ys,y,rfl,rfl,hD8,hz,rfl⟩) λ_ s9 zq=>?_
    obtain⟨_,H9,I9,_,e9⟩:=zq
    subst e9
    obtain⟨k1,k2⟩:=keepT I9
    exact⟨m',hm,i+1,τ6,_,I9.unpinned,k1,k2,w8⟩
 exact codeAny_compStart_list (loop _ rfl) (T.self X.A 0 _ _ _ tn1 (loop _ rfl))
def M3:Bool->String
 |true=>"tuple_iterator"
 |false=>"list_iterator"
def PC:Bool->String
 |true=>"tuple"
 |false=>"list"
def isIt(t:Bool)(h:Heap)(it l:Addr)(i:Nat):Prop:=∃o,h.get? it=some o/\o.cls=.type (M3 t)/\o.data=.fields #[.ref l,.int i 0]
def fe(t:Bool)(h:Heap)(l:Addr)(its:Array Value):Prop:=∃o,h.get? l=some o/\o.cls=.type (PC t)/\∃n,o.data=.seq its n
theorem isIt.on(x:isIt t h it l i)(k:∀o,h.get? it=some o->h'.get? it=some o):isIt t h' it l i:=let ⟨o,e,r⟩:=x;⟨o,k o e,r⟩
theorem fe.on(x:fe t h l its)(k:∀o,h.get? l=some o->h'.get? l=some o):fe t h' l its:=let ⟨o,e,r⟩:=x;⟨o,k o e,r⟩
section
variable {P:Program}{w:World}{A:Around}{E:Value->Shared->Prop}{s:Shared}
theorem kY{t:Bool}{it l:Addr}{i:Nat}{its:Array Value}{x:Value}{Q:Value->Shared->Prop}(a:isIt t s.heap it l i)(b:fe t s.heap l its)(c:its[i]?=some x)
  (q:∀h',isIt t h' it l (i+1)->Heap.SameBut it s.heap h'->Q x { s with heap:=h' }):wpAny (model P w) A (Builtin.SmallTypes.nextOf (.ref it)) Q E s:=by
 cases t with
 |false=>exact wpAny_nextOf_list_item (l:=l) (i:=i) a b c q
 |true =>
  obtain⟨o,eo,ec,ed⟩:=id a
  obtain⟨ol,el,_,n,dl⟩:=b
  have ty:s.TypeIs (.ref it) "tuple_iterator":=⟨o,eo,ec⟩
  refine zd (Zv  ty zzq (ZF zzq ty F.entry_tuple_iterator_next ?_ (F.args_tuple_iterator_next_1 _)))
  refine zd (m:=field (.ref it) 0) (Zg eo ed (x:=.ref l) rfl ?_)
  refine zd (m:=field (.ref it) 1) (Zg eo ed (x:=.int i 0) rfl ?_)
  refine zd (m:=seqItems? (.ref l)) (Z8 el dl ?_)
  simp only[ZT,c]
  refine zd (wpAny_setField eo ed zS (zB ⟨x,rfl,zB (q _ ⟨_,ZU _ eo (Obj.isFreed_of_fields (zzr ed _)),(Obj.cls_mapFields ..).trans ec,?_⟩ (zzH ..))⟩))
  rw[zzr ed]
  simp[rawInt]
theorem oG{t:Bool}{it l:Addr}{i:Nat}{its:Array Value}{Q:Value->Shared->Prop}(hh:A.handled=none)(a:isIt t s.heap it l i)(b:fe t s.heap l its)(c:its[i]?=none)
  (q:∀h' e,Heap.ExtBut it s.heap h'->(∃o,h'.get? e=some o/\o.cls=.type "StopIteration")->E (.ref e) { s with heap:=h' }):wpAny (model P w) A (Builtin.SmallTypes.nextOf (.ref it)) Q E s:=by
 cases t with
 |false=>exact wpAny_nextOf_list_end hh (l:=l) (i:=i) a b c q
 |true =>
  obtain⟨o,eo,ec,ed⟩:=id a
  obtain⟨ol,el,_,n,dl⟩:=b
  have ty:s.TypeIs (.ref it) "tuple_iterator":=⟨o,eo,ec⟩
  unfold Builtin.SmallTypes.nextOf
  refine zd (Zv (name:=Str.ofString "__next__") ty zzq (ZF zzq ty F.entry_tuple_iterator_next ?_ (F.args_tuple_iterator_next_1 _)))
  refine zd (m:=field (.ref it) 0) (Zg eo ed (x:=.ref l) rfl ?_)
  refine zd (m:=field (.ref it) 1) (Zg eo ed (x:=.int i 0) rfl ?_)
  refine zd (m:=seqItems? (.ref l)) (Z8 el dl ?_)
  simp only[ZT,c]
  refine zd (wpAny_rule (zd (wpAny_setField eo ed zS ?_)))
  refine zd  ?_
  simp only[newExc,newTuple]
  refine zd (Z2 (zd (m:=firstArgMember _ _) (zzA (a:=Value.none) (rfl) (Z2 ?_ (by size_fits)))) (by size_fits))
  simp only[raiseNew]
  refine zd (wpAny_handled ?_)
  first|rw[show A.in1.handled=none from hh]|rw[hh]
  exact zd (zB (wpAny_throw (q _ _ (((zzH ..).extBut.push _).push _) ⟨_,zA _ rfl,rfl⟩)))
end
section
variable {P:Program}{w:World}{A:Around}{E:Value->Shared->Prop}{s:Shared}
theorem Bd{z TI TO i1 i2 l1 l2:Addr}(D:ZipApart z TI TO i1 i2 l1 l2)(hz:IsZip s.heap z TI TO .none)(hI:IsPair s.heap TI (.ref i1) (.ref i2))(hO:IsPair s.heap TO a b)
  (a1:isIt t1 s.heap i1 l1 k) (a2:isIt t2 s.heap i2 l2 k) (b1:fe t1 s.heap l1 xs) (b2:fe t2 s.heap l2 ys) (ex:xs[k]?=some x) (ey:ys[k]?=some y)
  (q:∀h',IsZip h' z TI TO (rawInt s.heap.objs.size)->IsPair h' TO x y->isIt t1 h' i1 l1 (k+1)->isIt t2 h' i2 l2 (k+1)->IsPair h' s.heap.objs.size x y->(∀c o,c∉[z,TO,i1,i2]->s.heap.get? c=some o->h'.get? c=some o)->Q (some (.ref s.heap.objs.size)) { s with heap:=h' }) :
  wpAny (model P w) A (pyNext (.ref z)) Q E s:=by
 have ty:s.TypeIs (.ref z) "zip":=⟨_,hz,rfl⟩
 unfold pyNext
 refine zd (zzE (Zv (name:=Str.ofString "__next__") ty F.slot_zip_next (ZF F.slot_zip_next ty F.entry_zip_next ?_ (F.args_zip_next_1 _))))
 refine zd (m:=field (.ref z) 2) (Zg hz rfl (x:=.bool false) rfl ?_)
 refine zd (m:=field (.ref z) 3) (Zg hz rfl (x:=.ref TI) rfl (zd (Z8 hI rfl ?_)))
 refine zd (m:=Builtin.SmallTypes.ownedTupleIsFree (.ref z)) ?_
 unfold Builtin.SmallTypes.ownedTupleIsFree
 refine zd (Zg hz rfl (x:=.none) rfl (zB ?_))
 simp only[if_true]
 refine zd (wpAny_rule (zd (Zg hz rfl (x:=.ref TO) rfl (zd (ZB hz zS λg1 z1 s1=>?_)))))
 replace z1:IsZip g1 z TI TO .ellipsis:=z1
 refine zd ?_
 simp only[List.zipIdx_cons,List.zipIdx_nil,List.forIn_cons,List.forIn_nil]
 refine zd (zd (wpAny_onRaise ?_))
 refine zd (m:=Builtin.SmallTypes.nextOf (.ref i1)) (kY (l:=l1) (i:=k) (t:=t1) (a1.on λo e=>s1.extBut _ _ D.i1z e) (b1.on λo e=>s1.extBut _ _ D.l1z e) ex λg2 a1' s2=>zB ?_)
 have O2:IsPair g2 TO a b:=s2.extBut _ _ D.TOi1 (s1.extBut _ _ D.TOz hO)
 refine zd (Z8 O2 rfl (zd (wpAny_updateSeq_pair O2 λg3 O3 s3=>?_)))
 replace O3:IsPair g3 TO x b:=O3
 refine zd (wpAny_letGo (zB (zd (zd (wpAny_onRaise ?_)))))
 refine zd (m:=Builtin.SmallTypes.nextOf (.ref i2)) (kY (l:=l2) (i:=k) (t:=t2) (a2.on λo e=>s3.extBut _ _ D.TOi2.symm (s2.extBut _ _ D.i12.symm (s1.extBut _ _ D.i2z e))) (b2.on λo e=>s3.extBut _ _ D.l2TO (s2.extBut _ _ D.l2i1 (s1.extBut _ _ D.l2z e))) ey λg4 a2' s4=>zB ?_)
 have O4:IsPair g4 TO x b:=s4.extBut _ _ D.TOi2 O3
 refine zd (Z8 O4 rfl (zd (wpAny_updateSeq_pair O4 λg5 O5 s5=>?_)))
 replace O5:IsPair g5 TO x y:=O5
 refine zd (wpAny_letGo (zB (zB (zd (Z8 O5 rfl (zd (wpAny_newTuple ?_)))))))
 have sz:g5.objs.size=s.heap.objs.size:=by rw[s5.1,s4.1,s3.1,s2.1,s1.1]
 have z5:IsZip g5 z TI TO .ellipsis:=s5.extBut _ _ D.TOz.symm (s4.extBut _ _ D.i2z.symm (s3.extBut _ _ D.TOz.symm (s2.extBut _ _ D.i1z.symm z1)))
 have k5:∀c o,c∉[z,TO,i1,i2]->s.heap.get? c=some o->g5.get? c=some o:=λc o hc e=>by simp only[zV,Zy,zz7,not_or]at hc;exact s5.extBut _ _ hc.2.1 (s4.extBut _ _ hc.2.2.2 (s3.extBut _ _ hc.2.1 (s2.extBut _ _ hc.2.2.1 (s1.extBut _ _ hc.1 e))))
 have p1:isIt t1 g5 i1 l1 (k+1):=a1'.on λo e=>s5.extBut _ _ D.TOi1.symm (s4.extBut _ _ D.i12 (s3.extBut _ _ D.TOi1.symm e))
 have p2:isIt t2 g5 i2 l2 (k+1):=a2'.on λo e=>s5.extBut _ _ D.TOi2.symm e
 have zlt:z<g5.objs.size:=zN z5
 refine zd (m:=Builtin.SmallTypes.ownedTupleHandOut (.ref z) (.ref g5.objs.size)) ?_
 unfold Builtin.SmallTypes.ownedTupleHandOut
 refine zd (ZB (hps0 _ z5) zS λg7 z7 s7=>?_)
 replace z7:IsZip g7 z TI TO (rawInt g5.objs.size):=z7
 refine ZB z7 zS λg8 z8 s8=>?_
 replace z8:IsZip g8 z TI TO (rawInt g5.objs.size):=z8
 have up:∀c o,c≠z->g5.get? c=some o->g8.get? c=some o:=λc o c1 e=>s8.extBut _ _ c1 (s7.extBut _ _ c1 (hps0 _ e))
 have T8:IsPair g8 g5.objs.size x y:=s8.extBut _ _ (ZX zlt) (s7.extBut _ _ (ZX zlt) (zA _ rfl))
 rw[sz]at z8 T8
 refine zB ⟨_,rfl,zB ?_⟩
 show Q (some (.ref g5.objs.size)) _
 rw[sz]
 exact q g8 z8 (up _ _ D.TOz O5) (p1.on λo e=>up _ o D.i1z e) (p2.on λo e=>up _ o D.i2z e) T8 λc o hc e=>up c o (λz=>hc (by simp[z])) (k5 c o hc e)
theorem Bk{z TI TO i1 i2 l1 l2:Addr}(hh:A.handled=none)(D:ZipApart z TI TO i1 i2 l1 l2)(hz:IsZip s.heap z TI TO .none)(hI:IsPair s.heap TI (.ref i1) (.ref i2))(hO:IsPair s.heap TO a b)
  (a1:isIt t1 s.heap i1 l1 k) (a2:isIt t2 s.heap i2 l2 k) (b1:fe t1 s.heap l1 xs) (b2:fe t2 s.heap l2 ys) (en:xs[k]?=none\/ys[k]?=none)
  (q:∀h',(∀c o,c∉[z,TO,i1,i2]->s.heap.get? c=some o->h'.get? c=some o)->Q none { s with heap:=h' }):wpAny (model P w) A (pyNext (.ref z)) Q E s:=by
 have ty:s.TypeIs (.ref z) "zip":=⟨_,hz,rfl⟩
 unfold pyNext
 refine zd (zzE (Zv (name:=Str.ofString "__next__") ty F.slot_zip_next (ZF F.slot_zip_next ty F.entry_zip_next ?_ (F.args_zip_next_1 _))))
 refine zd (m:=field (.ref z) 2) (Zg hz rfl (x:=.bool false) rfl ?_)
 refine zd (m:=field (.ref z) 3) (Zg hz rfl (x:=.ref TI) rfl (zd (Z8 hI rfl ?_)))
 refine zd (m:=Builtin.SmallTypes.ownedTupleIsFree (.ref z)) ?_
 unfold Builtin.SmallTypes.ownedTupleIsFree
 refine zd (Zg hz rfl (x:=.none) rfl (zB ?_))
 simp only[if_true]
 refine zd (wpAny_rule (zd (Zg hz rfl (x:=.ref TO) rfl (zd (ZB hz zS λg1 z1 s1=>?_)))))
 replace z1:IsZip g1 z TI TO .ellipsis:=z1
 refine zd ?_
 refine zd (zd (wpAny_onRaise ?_))
 have fin:∀{h':Heap}{e:Addr},(∃o,h'.get? e=some o/\o.cls=.type "StopIteration")->(∀c o,c∉[z,TO,i1,i2]->s.heap.get? c=some o->h'.get? c=some o) ->
   wpAny (model P w) A (isInstance (.ref e) (.type "StopIteration")) (λr s'=>wpAny (model P w) A (if r=true then pure none else throw (Value.ref e)) Q E s') E { s with heap:=h' }:=λ{h' e} ⟨o,ho,hc⟩ kk =>
  wpAny_isInstance (T:="StopIteration") (b:=true) ⟨o,ho,hc⟩ isSubtype_stop (zB (q _ kk))
 cases hx:xs[k]? with
 |none =>
  refine zd (m:=Builtin.SmallTypes.nextOf (.ref i1)) (oG (l:=l1) (i:=k) (t:=t1) hh (a1.on λo e=>s1.extBut _ _ D.i1z e) (b1.on λo e=>s1.extBut _ _ D.l1z e) hx λg2 e s2 he=>?_)
  obtain⟨oe,ho,hc⟩:=he
  have z2:IsZip g2 z TI TO .ellipsis:=s2 _ _ D.i1z.symm z1
  have ez:e≠z:=λr=>by subst r;rw[z2]at ho;cases ho;simp at hc
  refine ZB z2 zS λg3 _ s3=>zd (fin ⟨oe,s3.extBut _ _ ez ho,hc⟩ λc o hc e=>?_)
  simp only[zV,Zy,zz7,not_or]at hc
  exact s3.extBut _ _ hc.1 (s2 _ _ hc.2.2.1 (s1.extBut _ _ hc.1 e))
 |some x =>
  have hy:ys[k]?=none:=by rcases en with r|r;rw[hx]at r;cases r;exact r
  refine zd (m:=Builtin.SmallTypes.nextOf (.ref i1)) (kY (l:=l1) (i:=k) (t:=t1) (a1.on λo e=>s1.extBut _ _ D.i1z e) (b1.on λo e=>s1.extBut _ _ D.l1z e) hx λg2 a1' s2=>zB ?_)
  have O2:IsPair g2 TO a b:=s2.extBut _ _ D.TOi1 (s1.extBut _ _ D.TOz hO)
  refine zd (Z8 O2 rfl (zd (wpAny_updateSeq_pair O2 λg3 O3 s3=>?_)))
  refine zd (wpAny_letGo (zB (zd (zd (wpAny_onRaise ?_)))))
  refine zd (m:=Builtin.SmallTypes.nextOf (.ref i2)) (oG (l:=l2) (i:=k) (t:=t2) hh (a2.on λo e=>s3.extBut _ _ D.TOi2.symm (s2.extBut _ _ D.i12.symm (s1.extBut _ _ D.i2z e))) (b2.on λo e=>s3.extBut _ _ D.l2TO (s2.extBut _ _ D.l2i1 (s1.extBut _ _ D.l2z e))) hy λg4 e s4 he=>?_)
  obtain⟨oe,ho,hc⟩:=he
  have z4:IsZip g4 z TI TO .ellipsis:=s4 _ _ D.i2z.symm (s3.extBut _ _ D.TOz.symm (s2.extBut _ _ D.i1z.symm z1))
  have ez:e≠z:=λr=>by subst r;rw[z4]at ho;cases ho;simp at hc
  refine ZB z4 zS λg5 _ s5=>zd (fin ⟨oe,s5.extBut _ _ ez ho,hc⟩ λc o hc e=>?_)
  simp only[zV,Zy,zz7,not_or]at hc
  exact s5.extBut _ _ hc.1 (s4 _ _ hc.2.2.2 (s3.extBut _ _ hc.2.1 (s2.extBut _ _ hc.2.2.1 (s1.extBut _ _ hc.1 e))))
end
section
variable {P:Program}{w:World}{A:Around}{E:Value->Shared->Prop}{s:Shared}
theorem kT(a:fe t s.heap l its)(q:Q (.ref s.heap.objs.size) { s with heap:=s.heap.push { cls:=.type (M3 t),data:=.fields #[.ref l,.int 0 0] } }):wpAny (model P w) A (pyIter (.ref l)) Q E s:=by cases t;exact zz4 a q;exact wpAny_pyIter_tuple a q
abbrev Dm(t1:Bool)(h:Heap)(l1:Addr):Heap:=h.push { cls:=.type (M3 t1),data:=.fields #[.ref l1,.int 0 0] }
abbrev NG(t1 t2:Bool)(h:Heap)(l1 l2:Addr):Heap:=(Dm t1 h l1).push { cls:=.type (M3 t2),data:=.fields #[.ref l2,.int 0 0] }
noncomputable abbrev NO(t1 t2:Bool)(h:Heap)(l1 l2:Addr):Heap:=(NG t1 t2 h l1 l2).push { cls:=.type "tuple",data:=.seq #[.ref h.objs.size,.ref (Dm t1 h l1).objs.size] }
abbrev NU(t1 t2:Bool)(h:Heap)(l1 l2:Addr):Heap:=(NO t1 t2 h l1 l2).push { cls:=.type "tuple",data:=.seq #[.none,.none] }
noncomputable abbrev Kg(t1 t2:Bool)(h:Heap)(l1 l2:Addr):Heap:=(NU t1 t2 h l1 l2).push { cls:=.type "zip",data:=.fields #[.none,.bool false,.bool false,.ref (NG t1 t2 h l1 l2).objs.size,.ref (NO t1 t2 h l1 l2).objs.size] }
theorem yS(t1 t2)(l1 l2)(xs ys):Meets (Builtin.«zip.__new__» ⟨[.type "zip",.ref l1,.ref l2],[]⟩) (λ_ R s=>fe t1 s.heap l1 xs/\fe t2 s.heap l2 ys/\R (.ok (.ret (.ref (NU t1 t2 s.heap l1 l2).objs.size))) { s with heap:=Kg t1 t2 s.heap l1 l2 }) :=
 .of_wp λP w A R s h=>by
  obtain⟨hp,g,d,tk,os⟩:=s
  obtain⟨c1,c2,h⟩:=h
  have hsub:=sub_zip
  have m1 :=c1
  have m2:fe t2 (Shared.heap ⟨hp.push { cls:=.type (M3 t1),data:=.fields #[.ref l1,.int 0 0] },g,d,tk,os⟩) l2 ys:=c2.on λo e=>hps0 _ e
  wp_walk using kT m1,kT m2
  exact⟨_,rfl,h⟩
theorem AS(c1:fe t1 s.heap l1 xs)(c2:fe t2 s.heap l2 ys)
  (q:∀h',IsZip h' (s.heap.objs.size+4) (s.heap.objs.size+2) (s.heap.objs.size+3) .none->IsPair h' (s.heap.objs.size+2) (.ref s.heap.objs.size) (.ref (s.heap.objs.size+1))->IsPair h' (s.heap.objs.size+3) .none .none ->
   isIt t1 h' s.heap.objs.size l1 0->isIt t2 h' (s.heap.objs.size+1) l2 0->(∀c o,s.heap.get? c=some o->h'.get? c=some o)->Q (.ref (s.heap.objs.size+4)) { s with heap:=h' }):wpAny (model P w) A (call (.type "zip") [.ref l1,.ref l2]) Q E s:=by
 refine callType_new F.called_zip zD (F.typeCall_zip_2 _ _) (F.newCall_zip_2 _ _) (λobj=>F.args_object_init_3 obj _ _) F.entry_zip_new (yS t1 t2 l1 l2 xs ys) ⟨c1,c2,?_⟩
 have n1:(Dm t1 s.heap l1).objs.size=s.heap.objs.size+1:=Z1 ..
 have n2:(NG t1 t2 s.heap l1 l2).objs.size=s.heap.objs.size+2:=by rw[Z1,n1]
 have n3:(NO t1 t2 s.heap l1 l2).objs.size=s.heap.objs.size+3:=by rw[Z1,n2]
 have n4:(NU t1 t2 s.heap l1 l2).objs.size=s.heap.objs.size+4:=by rw[Z1,n3]
 have g5:(Kg t1 t2 s.heap l1 l2).get? (NU t1 t2 s.heap l1 l2).objs.size=some _:=zA _ rfl
 have g4:(Kg t1 t2 s.heap l1 l2).get? (NO t1 t2 s.heap l1 l2).objs.size=some _:=hps0 _ (zA _ rfl)
 have g3:(Kg t1 t2 s.heap l1 l2).get? (NG t1 t2 s.heap l1 l2).objs.size=some _:=hps0 _ (hps0 _ (zA _ rfl))
 have g2:(Kg t1 t2 s.heap l1 l2).get? (Dm t1 s.heap l1).objs.size=some _:=hps0 _ (hps0 _ (hps0 _ (zA _ rfl)))
 have g1:(Kg t1 t2 s.heap l1 l2).get? s.heap.objs.size=some _:=hps0 _ (hps0 _ (hps0 _ (hps0 _ (zA _ rfl))))
 show _/\_
 rw[n2,n3,n4]at g5
 rw[n1,n2]at g3
 rw[n3]at g4
 rw[n1]at g2
 rw[n4]
 exact⟨⟨_,g5,rfl⟩,q _ g5 g3 g4 ⟨_,g1,rfl,rfl⟩ ⟨_,g2,rfl,rfl⟩ λc o x=>hps0 _ (hps0 _ (hps0 _ (hps0 _ (hps0 _ x))))⟩
end
section
variable {P:Program}{w:World}{A:Around}{E:Value->Shared->Prop}{s:Shared}
theorem xi(he:IsEnum s.heap e it c old)(a:isIt t s.heap it l i)(b:fe t s.heap l its)(ex:its[i]?=some x)(ne:e≠it)
  (q:∀h' tk,IsEnumOut h' e it (c+1) x s.heap.objs.size->isIt t h' it l (i+1)->IsPair h' s.heap.objs.size (.int c tk) x->(∀b o,b∉[e,it]->s.heap.get? b=some o->h'.get? b=some o)->Q (some (.ref s.heap.objs.size)) { s with heap:=h',toks:=tk+1 }) :
  wpAny (model P w) A (pyNext (.ref e)) Q E s:=by
 have ty:s.TypeIs (.ref e) "enumerate":=⟨_,he,rfl⟩
 unfold pyNext
 refine zd (zzE (Zv (name:=Str.ofString "__next__") ty zz1 (ZF zz1 ty F.entry_enumerate_next ?_ (F.args_enumerate_next_1 _))))
 refine zd (m:=field (.ref e) 2) (Zg he rfl (x:=.ref it) rfl ?_)
 refine zd (m:=Builtin.SmallTypes.nextOf (.ref it)) (kY (l:=l) (i:=i) (t:=t) a b ex λg1 a1 s1=>?_)
 have e1:IsEnum g1 e it c old:=(s1.2 e ne).trans he
 refine zd (m:=field (.ref e) 3) (Zg e1 rfl (x:=rawInt c) rfl ?_)
 refine zd (m:=field (.ref e) 4) (Zg e1 rfl (x:=.none) rfl ?_)
 refine zd (m:=mkInt c) (wpAny_mkInt ?_)
 refine zd (m:=setField (.ref e) 3 (rawInt (c+1))) (ZB e1 zS λg2 e2 s2=>?_)
 replace e2:IsEnum g2 e it (c+1) old:=e2
 refine zd (m:=setField (.ref e) 4 .none) (ZB e2 zS λg3 e3 s3=>?_)
 replace e3:IsEnum g3 e it (c+1) old:=e3
 refine zd (m:=newTuple [.int c s.toks,x]) (wpAny_newTuple ?_)
 have e4:IsEnum (g3.push { cls:=.type "tuple",data:=.seq #[.int c s.toks,x] }) e it (c+1) old:=hps0 _ e3
 have sz:g3.objs.size=s.heap.objs.size:=by rw[s3.1,s2.1,s1.1]
 have el:e<s.heap.objs.size:=zN he
 generalize hg:g3.push { cls:=.type "tuple",data:=.seq #[.int c s.toks,x] }=g4 at e4
 have T4:IsPair g4 s.heap.objs.size (.int c s.toks) x:=by rw[<- hg,<- sz];exact zA _ rfl
 have k4:∀b o,b∉[e,it]->s.heap.get? b=some o->g4.get? b=some o:=λb o hb eb=>by simp only[zV,Zy,zz7,not_or]at hb;rw[<- hg];exact hps0 _ (s3.extBut b o hb.1 (s2.extBut b o hb.1 (s1.extBut b o hb.2 eb)))
 have i4:isIt t g4 it l (i+1):=a1.on λo y=>by rw[<- hg];exact hps0 _ (s3.extBut it o ne.symm (s2.extBut it o ne.symm y))
 refine zd (m:=Builtin.SmallTypes.ownedTupleIsFree (.ref e)) ?_
 unfold Builtin.SmallTypes.ownedTupleIsFree
 rw[sz]
 refine zd (Zg (s:=⟨g4,_,_,_,_⟩) e4 rfl (x:=.none) rfl (zB ?_))
 simp only[if_true]
 refine zd (wpAny_rule (zd (Zg e4 rfl (x:=old) rfl (zd (ZB e4 zS λg5 e5 s5=>?_)))))
 replace e5:IsEnum g5 e it (c+1) x:=e5
 replace s5:Heap.SameBut e g4 g5:=s5
 refine zd  ?_
 unfold Builtin.SmallTypes.ownedTupleHandOut
 refine zd (ZB e5 zS λg6 e6 s6=>?_)
 replace e6:IsEnumOut g6 e it (c+1) x s.heap.objs.size:=e6
 replace s6:Heap.SameBut e g5 g6:=s6
 refine ZB e6 zS λg7 e7 s7=>?_
 replace e7:IsEnumOut g7 e it (c+1) x s.heap.objs.size:=e7
 replace s7:Heap.SameBut e g6 g7:=s7
 have up:∀b o,b≠e->g4.get? b=some o->g7.get? b=some o:=λb o hb y=>s7.extBut b o hb (s6.extBut b o hb (s5.extBut b o hb y))
 exact zd (wpAny_letGo (zB ⟨_,rfl,zB (q g7 s.toks e7 (i4.on λo y=>up it o ne.symm y) (up _ _ (ZX el) T4) λb o hb y=>up b o (λz=>hb (by simp[z])) (k4 b o hb y))⟩))
theorem wc(hh:A.handled=none)(he:IsEnum s.heap e it c old)(a:isIt t s.heap it l i)(b:fe t s.heap l its)(ex:its[i]?=none)
  (q:∀h',Heap.ExtBut it s.heap h'->Q none { s with heap:=h' }):wpAny (model P w) A (pyNext (.ref e)) Q E s:=by
 have ty:s.TypeIs (.ref e) "enumerate":=⟨_,he,rfl⟩
 refine zd (zzE (Zv  ty zz1 (ZF zz1 ty F.entry_enumerate_next ?_ (F.args_enumerate_next_1 _))))
 refine zd (m:=field (.ref e) 2) (Zg he rfl (x:=.ref it) rfl ?_)
 refine zd  (oG (l:=l) (i:=i) (t:=t) hh a b ex λg1 x s1 hx=>?_)
 obtain⟨o,ho,hc⟩:=hx
 exact zd (wpAny_isInstance  (b:=true) ⟨o,ho,hc⟩ isSubtype_stop (zB (q _ s1)))
end
def kD(K:Fg0)(t:Bool)(H:Hp)(a:Addr)(xs:List V):Prop:=match t with
 |true=>kq K H a xs
 |false=>iT K H a xs
section
variable {X:Cx}{pins:List (Addr×Obj)}{σ:L2.St}{H:Hp}{s:Shared}{t:Bool}{a b:Addr}{xs ys:List V}
theorem kD.at_(I:Inv X pins σ H s)(q:kD X.K t H a xs):∃its:List Value,Vals xs its/\fe t s.heap a its.toArray:=by
 cases t with
 |false=>obtain⟨its,r,p,_⟩:=I.list q;exact⟨its,r,p.isList⟩
 |true=>obtain⟨its,r,p,_⟩:=I.tuple q;exact⟨its,r,p⟩
theorem kD.inj(I:Inv X pins σ H s)(q:kD X.K t H a xs)(r:kD X.K t H a ys):xs=ys:=by
 cases t with
 |false=>exact I.list_inj q r
 |true=>exact I.tuple_inj q r
theorem Rd.ne(r:Rd H a u)(f:H b=none):a≠b:=by rintro rfl;rcases r with r|⟨_,r⟩<;>rw[f]at r<;>cases r
theorem Ap(I:Inv X pins σ H s)(k:X.K.lookup a=some o)(f:jg X pins H b):a≠b:=by rintro rfl;have e:=I.mod.kin a o k;rcases f.2.2.2.1 with z|z;exact I.ok.noex a o e z;exact absurd (zG (zN e) (zf I.ok.bsz z)) (ZG _)
theorem kD.ne(I:Inv X pins σ H s)(q:kD X.K t H a xs)(f:jg X pins H b):a≠b:=by
 cases t with
 |false=>rcases q with q|⟨o,_,_,k,_⟩;exact Rd.ne q f.1;exact Ap I k f
 |true=>rcases q with q|⟨o,_,_,k,_⟩;exact Rd.ne q f.1;exact Ap I k f
theorem sg{fp:List Addr}{h':Heap}{t':Nat}{x y:V}{u v:Value}(I:Inv X pins σ H s)(hf:∀b∈fp,jg X pins H b)(k:∀b o,b∉fp->s.heap.get? b=some o->h'.get? b=some o)(hp:IsPair h' s.heap.objs.size u v)(ru:RelV x u)(rv:RelV y v) :
  Inv X pins σ (aY H s.heap.objs.size (.tup [x,y])) { s with heap:=h',toks:=t' }:=by
 have hn:=I.fresh
 have nz:∀c (o:HO),H c=some o->c≠s.heap.objs.size:=λc o e z=>by rw[z,hn]at e;cases e
 have lt:∀b o,s.heap.get? b=some o->b≠s.heap.objs.size:=λb o e=>zW (zN e)
 have nf:∀c (o:HO),H c=some o->c∉fp:=λc o e z=>by rw[(hf c z).1]at e;cases e
 refine I.step (g':=s.gens) (d':=s.drawn) (ch:=fp) (λb hb=>?_) (λb o _ _ hc e _=>k b o hc e) (λb o _ _ hc e _=>⟨o.slots,k b o hc e⟩) (λb o _ e n=>by rw[aB (lt b o e)];exact n)
  (λb o hc e=>⟨o,k b o hc e⟩) (λb _ e=>by rw[aB (nz b _ e)];exact e) (λb _ _ e=>by rw[aB (nz b _ e)];exact e) (λb ps e=>⟨#[],by rw[aB (nz b _ e),e];simp⟩) (λm hm=>?_) (λb o e=>?_) I.bare
 ·obtain⟨_,f1,_,f3,f4,f5⟩:=hf b hb
  exact⟨f3,f1,f4,f5⟩
 ·obtain⟨o,es,ep,ho,r⟩:=hm
  exact⟨o,es,ep,k _ o (λz=>(hf _ z).2.1 rfl) ho,r⟩
 ·by_cases hb:b=s.heap.objs.size
  ·subst hb
   rw[aI]at e
   cases e
   exact⟨by show 2<=sizeLine;decide,[u,v],.cons ru (.cons rv .nil),⟨_,hp,rfl,_,rfl⟩⟩
  ·rw[aB hb]at e
   refine(I.hok b o e).stay (λc v hc q=>k c v ?_ q) (λc q=>by rw[aB (nz c _ q)];exact q) λc _ q=>by rw[aB (nz c _ q)];exact q
   grind
theorem m8{fp:List Addr}{h':Heap}{t':Nat}(I:Inv X pins σ H s)(hf:∀b∈fp,jg X pins H b)(k:∀b o,b∉fp->s.heap.get? b=some o->h'.get? b=some o):Inv X pins σ H { s with heap:=h',toks:=t' }:=by
 have nf:∀c (o:HO),H c=some o->c∉fp:=λc o e z=>by rw[(hf c z).1]at e;cases e
 refine I.step (g':=s.gens)  (ch:=fp) (λb hb=>?_) (λb o _ _ hc e _=>k b o hc e) (λb o _ _ hc e _=>⟨o.slots,k b o hc e⟩) (λb o _ e n=>n)
  (λb o hc e=>⟨o,k b o hc e⟩) (λb _ e=>e) (λb _ _ e=>e) (λb ps e=>⟨#[],by rw[e];simp⟩) (λm hm=>?_) (λb o e=>?_) I.bare
 ·obtain⟨_,f1,_,f3,f4,f5⟩:=hf b hb
  exact⟨f3,f1,f4,f5⟩
 ·obtain⟨o,es,ep,ho,r⟩:=hm
  exact⟨o,es,ep,k _ o (λz=>(hf _ z).2.1 rfl) ho,r⟩
 ·refine(I.hok b o e).stay (λc v hc q=>k c v ?_ q) (λc q=>q) λc _ q=>q
  grind
end
noncomputable def Qv(K:Fg0)(t1 t2:Bool)(a b:Addr):L2.It :=
 ⟨λi H => ∃xs ys x y, kD K t1 H a xs /\ kD K t2 H b ys /\ xs[i]? = some x /\ ys[i]? = some y,
  λi H v H'=>∃p x y,H p=none/\v=.ref p/\H'=aY H p (.tup [x,y])/\(∀xs,kD K t1 H a xs->xs[i]?=some x)/\∀ys,kD K t2 H b ys->ys[i]?=some y,
  λi H => ∃xs ys, kD K t1 H a xs /\ kD K t2 H b ys /\ (xs.length <= i \/ ys.length <= i)⟩
noncomputable def Qp(K:Fg0)(t:Bool)(c:Int)(a:Addr):L2.It :=
 ⟨λi H => ∃xs x, kD K t H a xs /\ xs[i]? = some x,
  λi H v H'=>∃p x,H p=none/\v=.ref p/\H'=aY H p (.tup [.int (c+i),x])/\∀xs,kD K t H a xs->xs[i]?=some x,
  λi H => ∃xs, kD K t H a xs /\ xs.length <= i⟩
def QW(t1 t2:Bool)(a b n:Addr)(i:Nat)(h:Heap):Prop:=IsZip h (n+4) (n+2) (n+3) .none/\IsPair h (n+2) (.ref n) (.ref (n+1))/\(∃u v,IsPair h (n+3) u v)/\isIt t1 h n a i/\isIt t2 h (n+1) b i
abbrev M5(n:Addr):List Addr:=[n+4,n+2,n+3,n,n+1]
theorem apart{n a b:Addr}(ha:∀c∈M5 n,a≠c)(hb:∀c∈M5 n,b≠c):ZipApart (n+4) (n+2) (n+3) n (n+1) a b:=by refine⟨?_,?_,?_,?_,?_,?_,?_,?_,?_,?_,ha _ zS,ha _ zS,ha _ zS,ha _ zS,hb _ zS,hb _ zS,hb _ zS,hb _ zS⟩<;>(simp)
theorem yA{P:Program}{w:World}{K:Fg0}(t1 t2)(a b n):Turn P w K (.Tuple es x1 pos) (Qv K t1 t2 a b) (M5 n) (n+4) (QW t1 t2 a b n) where
 mem:=zS
 obj:=λi h ⟨q1,q2,⟨u,v,q3⟩,⟨o4,q4,_,d4⟩,⟨o5,q5,_,d5⟩⟩ c hc=>by grind
 keep:=λi h h' ⟨q1,q2,⟨u,v,q3⟩,q4,q5⟩ k=>⟨k _ zS _ q1,k _ zS _ q2,⟨u,v,k _ zS _ q3⟩,q4.on λo e=>k _ zS o e,q5.on λo e=>k _ zS o e⟩
 item:=by
  intro X hP hw hK hc i pins s σ H E I hf st hg;subst hP hw hK;obtain⟨xs,ys,x,y,s1,s2,ex,ey⟩:=hg;obtain⟨q1,q2,⟨u,v,q3⟩,q4,q5⟩:=st;obtain⟨is1,r1,p1⟩:=s1.at_ I;obtain⟨is2,r2,p2⟩:=s2.at_ I;obtain⟨ux,hux,rx⟩:=r1.get ex;obtain⟨uy,huy,ry⟩:=r2.get ey;have D:=apart (n:=n) (a:=a) (b:=b) (λc hc=>s1.ne I (hf c hc)) (λc hc=>s2.ne I (hf c hc));refine Bd D q1 q2 q3 q4 q5 p1 p2 (x:=ux) (y:=uy) (by simpa using hux) (by simpa using huy) λh' z1 z2 z3 z4 z5 kk=>⟨_,rfl,?_⟩;refine wpAny_letOwnedTupleGo_zip z1 λh2 y1 sb=>?_;have kz:∀c o,c∉M5 n->s.heap.get? c=some o->h2.get? c=some o:=λc o hc e=>sb.extBut _ _ (λz=>hc (by simp[z])) (kk c o (λz=>hc (by grind)) e);have hz:n+4<s.heap.objs.size:=zN q1;have I1:=sg (t':=s.toks) I hf kz (sb.extBut _ _ (ZX hz) z5) rx ry
  refine⟨.ref s.heap.objs.size,_,I1,rfl,⟨_,x,y,I.fresh,rfl,rfl,λzs hs=>by rw[kD.inj I hs s1];exact ex,λzs hs=>by rw[kD.inj I hs s2];exact ey⟩,
   ⟨y1,?_,⟨_,_,sb.extBut _ _ (by show @Ne Nat _ _;lia) z2⟩,z3.on λo e=>sb.extBut _ _ (by show @Ne Nat _ _;lia) e,z4.on λo e=>sb.extBut _ _ (by show @Ne Nat _ _;lia) e⟩,λb hb=>?_⟩
  refine sb.extBut _ _ (by show @Ne Nat _ _;lia) (kk _ _ ?_ q2);simp only[zV,Zy,zz7];rintro (z|z|z|z)<;>exact absurd z (by show @Ne Nat _ _;lia);have:b<s.heap.objs.size:=by grind
  rw[aB (zW this)];exact(hf b hb).1
 done:=by
  intro X hP hw hK hc i pins s σ H E I hf st hg;subst hP hw hK;obtain⟨xs,ys,s1,s2,en⟩:=hg;obtain⟨q1,q2,⟨u,v,q3⟩,q4,q5⟩:=st;obtain⟨is1,r1,p1⟩:=s1.at_ I;obtain⟨is2,r2,p2⟩:=s2.at_ I;have D:=apart (n:=n) (a:=a) (b:=b) (λc hc=>s1.ne I (hf c hc)) (λc hc=>s2.ne I (hf c hc));have l1:=r1.length;have l2:=r2.length
  refine Bk (I.ok.hd hc) D q1 q2 q3 q4 q5 p1 p2 (by simp;lia) λh' kk=>⟨rfl,m8 (t':=s.toks) I hf λc o hc e=>kk c o (λz=>hc (by
   simp only[zV,Zy,zz7]at z ⊢
   rcases z with z|z|z|z
   ·exact .inl z
   ·exact .inr (.inr (.inl z))
   ·exact .inr (.inr (.inr (.inl z)))
   ·exact .inr (.inr (.inr (.inr z))))) e⟩
 self:=λA i s Q E st h=>wpAny_pyIter_zip st.1 h
def Sn(t:Bool)(c:Int)(a n:Addr)(i:Nat)(h:Heap):Prop:=(∃old,IsEnum h (n+1) n (c+i) old)/\isIt t h n a i
theorem wg{P:Program}{w:World}{K:Fg0}(t)(c)(a n):Turn P w K (.Tuple es x1 pos) (Qp K t c a) [n+1,n] (n+1) (Sn t c a n) where
 mem:=zS
 obj:=λi h ⟨⟨old,q1⟩,⟨o2,q2,_,d2⟩⟩ b hb=>by grind
 keep:=λi h h' ⟨⟨old,q1⟩,q2⟩ k=>⟨⟨old,k _ zS _ q1⟩,q2.on λo e=>k _ zS o e⟩
 item:=by
  intro X hP hw hK hc i pins s σ H E I hf st hg;subst hP hw hK;obtain⟨xs,x,s1,ex⟩:=hg;obtain⟨⟨old,q1⟩,q2⟩:=st;obtain⟨is1,r1,p1⟩:=s1.at_ I;obtain⟨ux,hux,rx⟩:=r1.get ex;refine xi q1 q2 p1 (x:=ux) (by simpa using hux) (by show @Ne Nat _ _;lia) λh' tk z1 z2 z3 kk=>⟨_,rfl,?_⟩;refine wpAny_letOwnedTupleGo_enum z1 λh2 y1 sb=>?_;have kz:∀c o,c∉[n+1,n]->s.heap.get? c=some o->h2.get? c=some o:=λc o hc e=>sb.extBut _ _ (λz=>hc (by simp[z])) (kk c o hc e);have hz:n+1<s.heap.objs.size:=zN q1;have I1:=sg (t':=tk+1) (x:=.int (c+i)) I hf kz (sb.extBut _ _ (ZX hz) z3) ⟨_,rfl⟩ rx;refine⟨.ref s.heap.objs.size,_,I1,rfl,⟨_,x,I.fresh,rfl,rfl,λzs hs=>by rw[kD.inj I hs s1];exact ex⟩,⟨⟨ux,?_⟩,z2.on λo e=>sb.extBut _ _ (by show @Ne Nat _ _;lia) e⟩,λb hb=>?_⟩;have e:(c+((i+1:Nat):Int))=c+(i:Int)+1:=zL;rw[e];exact y1;have:b<s.heap.objs.size:=by have hb':=hb;simp only[zV,Zy,zz7]at hb';have hz':@LT.lt Nat _ (n+1) s.heap.objs.size:=hz;rcases hb' with rfl|rfl<;>(show @LT.lt Nat _ _ _;lia)
  rw[aB (zW this)];exact(hf b hb).1
 done:=by intro X hP hw hK hc i pins s σ H E I hf st hg;subst hP hw hK;obtain⟨xs,s1,en⟩:=hg;obtain⟨⟨old,q1⟩,q2⟩:=st;obtain⟨is1,r1,p1⟩:=s1.at_ I;have l1:=r1.length;exact wc (I.ok.hd hc) q1 q2 p1 (by simp;lia) λh' kk=>⟨rfl,m8 (t':=s.toks) I hf λc o hc e=>kk c o (λz=>hc (by simp[z])) e⟩
 self:=λA i s Q E ⟨⟨_,q1⟩,_⟩ h=>wpAny_pyIter_enum q1 h
section
variable {P:Program}{w:World}{A:Around}{E:Value->Shared->Prop}{s:Shared}
abbrev F5(tk:Tok):List (Str×Value):=[("start",.int 1 tk)]
theorem sV(t)(tk0)(l)(its)(n)(dct)(sl : Array (Option Value)) : Meets (Builtin.«enumerate.__new__» ⟨[.type "enumerate", .ref l], F5 tk0⟩) (λ_ R s => s.heap.get? l = some { cls := .type (PC t), dict := dct, data := .seq its n, slots := sl } /\
   R (.ok (.ret (.ref (Dm t s.heap l).objs.size))) { s with heap:=(Dm t s.heap l).push { cls:=.type "enumerate",data:=.fields #[.none,.bool false,.ref s.heap.objs.size,rawInt 1,.none,.none] } }) :=
 .of_wp λP w A R s h=>by
  obtain⟨hp,g,d,tk,os⟩:=s
  obtain⟨c1,h⟩:=h
  have hsub:=sub_enumerate
  have m1:fe t (Shared.heap ⟨hp,g,d,tk,os⟩) l its:=⟨_,c1,rfl,n,rfl⟩
  wp_walk using AutoSeq1.wpAny_loadPart' c1
  refine wpAny_stack_any λst=>zB ?_
  split
  ·rename_i c _ _ _ _ _
   cases (c==Value.type "enumerate")<;>(wp_walk using AutoSeq1.wpAny_loadPart' c1,kT m1;exact⟨_,rfl,h⟩)
  ·wp_walk using AutoSeq1.wpAny_loadPart' c1,kT m1
   exact⟨_,rfl,h⟩
theorem Et(a b)(tk):argsOk "object.__init__" ⟨[a,b],F5 tk⟩:=by rfl
theorem ue:Meets (Builtin.«object.__init__» ⟨[o,x],F5 tk⟩) (λ_ R s=>s.TypeIs o "enumerate"/\R (.ok (.ret .none)) s):=by
 refine Meets.of_wp λP w A R s hs=>?_;obtain⟨hT,hq⟩:=hs;have hl:=F.called_enumerate.init.lookup;have hm:=F.called_enumerate.made;repeat (any_goals (first|rfl|wp_step))
 simp_all
theorem tK{t:Bool}{tk:Tok}{l:Addr}{its:Array Value}{Q:Value->Shared->Prop}(c:fe t s.heap l its)
  (q:∀h',IsEnum h' (s.heap.objs.size+1) s.heap.objs.size 1 .none->isIt t h' s.heap.objs.size l 0->(∀c o,s.heap.get? c=some o->h'.get? c=some o)->Q (.ref (s.heap.objs.size+1)) { s with heap:=h' }):wpAny (model P w) A (call (.type "enumerate") [.ref l] (F5 tk)) Q E s:=by
 obtain⟨⟨cl,dct,dt,sl⟩,el,hc,n,hd⟩:=c
 replace hc:cl=.type (PC t):=hc
 replace hd:dt=.seq its n:=hd
 subst hc hd
 have ft:=F.called_enumerate
 have hct:checkTypeCall "enumerate" ⟨[.ref l],F5 tk⟩=pure ():=by kernel_rfl
 have hcn:checkBuiltinCall "enumerate.__new__" ⟨[.type "enumerate",.ref l],F5 tk⟩=pure ():=by kernel_rfl
 obtain⟨c,tl,hmro⟩:=ft.mro
 have hmade:=ft.made
 have hsub:=ft.sub
 refine wpAny_call (codeAny_of_tree ?_)
 show wpAny _ _ (callAny (.type "enumerate") _) _ _ _
 refine zB ⟨Code.quiet_builtin _ (by decide +kernel),zzv F.entry_type_call ?_⟩
 rw[Around.under_plain (weight_type_call_type "enumerate" [.ref l] (F5 tk)) (units_type_call_type "enumerate" [.ref l] (F5 tk))]
 have h1:=ft.notType
 have h2:=ft.canCreate
 repeat (any_goals (first|assumption|wp_step))
 have n1:(Dm t s.heap l).objs.size=s.heap.objs.size+1:=Z1 ..
 have g2:((Dm t s.heap l).push { cls:=.type "enumerate",data:=.fields #[.none,.bool false,.ref s.heap.objs.size,rawInt 1,.none,.none] }).get? (Dm t s.heap l).objs.size=some _:=zA _ rfl
 rw[n1]at g2
 refine zzO (zzy ft.plain F.entry_enumerate_new (zzA hcn (sV t tk l its n dct sl P w A.in1 (wants (λobj s1=>s1.TypeIs obj "enumerate"/\Q obj s1) E) s ⟨el,?_⟩))) λr s1 hr=>?_
 ·show _/\_
  rw[n1]
  exact⟨⟨_,g2,rfl⟩,q _ g2 ⟨_,hps0 _ (zA _ rfl),rfl,rfl⟩ λc o x=>hps0 _ (hps0 _ x)⟩
 cases r with
 |error e=>exact hr
 |ok fl =>
  cases fl with
  |ret obj =>
   obtain⟨hT,hQ⟩:=hr
   have hli:=ft.init.lookup
   have hbi:=ft.init.bind obj
   repeat (any_goals (first|assumption|wp_step))
   refine zzO (zzy ft.init.plain F.entry_object_init (ft.init.check _ _ _ _ _ _ _ _ hT (Et obj _ tk) (ue P w A.in1 (wants (λr s2=>r=.none/\Q obj s2) E) s1 ⟨hT,rfl,hQ⟩))) λr2 s2 h3=>?_
   cases r2 with
   |error e=>exact h3
   |ok fl2 =>
    cases fl2 with
    |ret r =>
     obtain⟨rfl,hq⟩:=h3
     repeat (any_goals (first|assumption|wp_step))
    |_=>exact h3.elim
  |_=>exact hr.elim
end
def FX:cC:=λ_ _ _ _=>False
theorem bE.weak{K:Fg0}(r:bE K ρ H σ' τ)(hl:σ.length=σ'.length)(h:∀(i:Nat) (w:W),σ[i]?=some (some w)->σ'[i]?=some (some w)):bE K ρ H σ τ :=
 ⟨hl.trans r.len,λi w e=>r.at_ i w (h i w e)⟩
theorem sH{σ:ai}(hn:∀u,σ[i]?≠some (some u)):(σ.set i (some w)).length=σ.length/\∀(j:Nat) (u:W),σ[j]?=some (some u)->(σ.set i (some w))[j]?=some (some u) :=
 ⟨zS,λj u e=>by
  have hij:i≠j:=by rintro rfl;simp_all
  simp_all⟩
theorem jE:∀{is:List Nat}{ws:List W}{σ σ':ai},fX is ws σ=some σ'->σ'.length=σ.length/\∀(j:Nat) (u:W),j∉is->σ[j]?=some (some u)->σ'[j]?=some (some u)
 |[],[],σ,σ',e=>by cases e;simp_all
 |[],_::_,_,_,e=>by cases e
 |_::_,[],_,_,e=>by cases e
 |i::is,w::ws,σ,σ',e=>by
  obtain⟨h1,h2⟩:=jE  (ws:=ws) e
  refine⟨by simp_all,λj u hj z=>h2 j u (λm=>hj (zo _ m)) ?_⟩
  grind
theorem A3{is:List Nat}(e:aV is w σ=some σ')(hn:∀i∈is,∀u,σ[i]?≠some (some u)):σ'.length=σ.length/\∀(j:Nat) (u:W),σ[j]?=some (some u)->σ'[j]?=some (some u):=by
 unfold aV at e
 split at e
 ·rename_i i
  cases e
  exact sH (hn i zS)
 ·split at e
  ·obtain⟨h1,h2⟩:=jE e
   grind
  ·obtain⟨h1,h2⟩:=jE e
   grind
  ·cases e
open Classical in
theorem iH{K:Fg0}{EX:cC}{ρ1:List Addr}{h1:aa}{H1:Hp}{σ0:ai}{τ0:L2.St}{J:L2.It}{ws:List W}{src:Option Nat}{is:List Nat}{ts:ai->aa->Res Bool}{ev:ai->aa->Res W}{Q:VK}
  (re:bE K ρ1 H1 σ0 τ0) (hr:a8 K ρ1 h1 H1) (hsrc:∀k,src=some k->k<h1.length)
  (ok:∀ρ h H i,Ext ρ1 H1 ρ H->a8 K ρ h H->(∀k,src=some k->h[k]?=h1[k]?)->(i=ws.length->J.stop i H)/\∀w,ws[i]?=some w->J.go i H/\∀x H',J.yld i H x H'->Ext ρ H ρ H'/\a8 K ρ h H'/\Rel K ρ H' w x)
  (hcl:∀i∈is,∀u,σ0[i]?≠some (some u))
  (q:RQ K EX ρ1 H1 (jP h1.length (lc h1.length src (λw h=>cK (aV is w σ0) ts ev h) ws (h1++[.lst []]))) λw _ ρ' H'=>∀v,Rel K ρ' H' w v->Q v H') :
  ∀D,H1 D=none->fu D J (kg K is) (fP K FX ts) (tI K FX ev) Q τ0 H1:=by
 intro D hD
 generalize hR:jP h1.length (lc h1.length src (λw h=>cK (aV is w σ0) ts ev h) ws (h1++[.lst []]))=R0 at q
 have hl1:ρ1.length=h1.length:=hr.len
 have hD1:D∉ρ1:=hr.new hD
 refine⟨λi m τ H=>m=ws.length-i/\i<=ws.length/\∃ρ h,Ext ρ1 H1 ρ H/\ρ[h1.length]?=some D/\bE K ρ H σ0 τ/\a8 K ρ h H/\(∀k,src=some k->h[k]?=h1[k]?) /\
  jP h1.length (lc h1.length src (λw h=>cK (aV is w σ0) ts ev h) (ws.drop i) h)=R0,⟨ws.length,zS,ZD _,ρ1++[D],h1++[.lst []],ext_cell hr hD,?_,re.ext (ext_cell hr hD),hr.cell (ws:=[]) (xs:=[]) hD (by rw[aj]) .nil,?_,by rw[Zz];exact hR⟩,?_⟩
 ·rw[zE zL,hl1];simp
 ·intro k hk
  rw[zJ (hsrc k hk)]
 rintro i m τ H ⟨rfl,hi,ρ,h,x,hD2,re2,hr2,hk,hq⟩
 obtain⟨ok1,ok2⟩:=ok ρ h H i x hr2 hk
 by_cases hlt:i<ws.length
 ·refine .inr ?_
  obtain⟨go,yl⟩:=ok2 ws[i] (zK hlt)
  refine⟨go,λv H' y=>?_⟩
  obtain⟨xe,hr2',rv⟩:=yl v H' y
  replace x:=x.trans xe
  replace re2:=re2.ext xe
  clear ok1 ok2 yl go
  replace hr2:=hr2'
  rw[List.drop_eq_getElem_cons hlt,lc]at hq
  cases eb:aV is ws[i] σ0 with
  |none =>
   rw[eb]at hq
   have:R0=.stuck:=hq.symm
   rw[this]at q;exact q.elim
  |some σ1 =>
   rw[eb]at hq
   obtain⟨u1,u2⟩:=A3 eb hcl
   refine⟨ρ,σ0,ws[i],σ1,re2,rv,eb,λτ' re'=>⟨ρ,σ1,h,re',hr2,?_⟩⟩
   have re0:bE K ρ _ σ0 τ':=re'.weak u1.symm u2
   unfold cK at hq
   dsimp only at hq
   cases et:ts σ1 h with
   |stuck =>
    rw[et]at hq
    have:R0=.stuck:=hq.symm
    rw[this]at q;exact q.elim
   |exc c h3 =>
    rw[et]at hq
    have:R0=.stuck:=hq.symm
    rw[this]at q;exact q.elim
   |ok b h3 =>
    rw[et]at hq
    intro ρ3 H3 x3 hr3
    cases b with
    |false =>
     refine qd ?_
     have hq':jP h1.length (if(∀k,src=some k->h3[k]?=h[k]?) then lc h1.length src (λw h=>cK (aV is w σ0) ts ev h) (ws.drop (i+1)) h3 else .stuck)=R0:=hq
     by_cases hg:∀k,src=some k->h3[k]?=h[k]?
     ·rw[zF hg]at hq'
      exact⟨ws.length-(i+1),zL,rfl,hlt,ρ3,h3,x.trans x3,x3.at hD2,re0.ext x3,hr3,λk e=>(hg k e).trans (hk k e),hq'⟩
     ·rw[zP hg]at hq'
      have:R0=.stuck:=hq'.symm
      rw[this]at q;exact q.elim
    |true =>
     refine pU ⟨ρ3,σ1,h3,re'.ext x3,hr3,?_⟩
     have hq1:jP h1.length (bnd (bnd (ev σ1 h3) λw h=>Res.ok (some w) h) λo h'=>if(∀k,src=some k->h'[k]?=h[k]?) then(match o with
       |none=>lc h1.length src (λw h=>cK (aV is w σ0) ts ev h) (ws.drop (i+1)) h'
       |some u=>match h'[h1.length]? with
        |some (.lst us)=>if ar u=true/\us.length<sizeLine then lc h1.length src (λw h=>cK (aV is w σ0) ts ev h) (ws.drop (i+1)) (h'.set h1.length (.lst (us++[u]))) else .stuck
        |_=>.stuck) else .stuck)=R0:=hq
     cases ee:ev σ1 h3 with
     |stuck =>
      rw[ee]at hq1
      have:R0=.stuck:=hq1.symm
      rw[this]at q;exact q.elim
     |exc c h4 =>
      rw[ee]at hq1
      have:R0=.stuck:=hq1.symm
      rw[this]at q;exact q.elim
     |ok u h4 =>
      rw[ee]at hq1
      intro ρ4 H4 x4 hr4 y ry
      have hq2:jP h1.length (if(∀k,src=some k->h4[k]?=h[k]?) then(match h4[h1.length]? with
        |some (.lst us)=>if ar u=true/\us.length<sizeLine then lc h1.length src (λw h=>cK (aV is w σ0) ts ev h) (ws.drop (i+1)) (h4.set h1.length (.lst (us++[u]))) else .stuck
        |_=>.stuck) else .stuck)=R0:=hq1
      by_cases hg:∀k,src=some k->h4[k]?=h[k]?
      ·rw[zF hg]at hq2
       have hD4:=x4.at (x3.at hD2)
       split at hq2
       ·rename_i us eu
        obtain⟨pu,ys,hy,rs⟩:=hr4.at_ _ D _ hD4 eu
        by_cases hp:ar u=true/\us.length<sizeLine
        ·rw[zF hp]at hq2
         refine⟨ys,hy,by rw[<- rs.length];exact hp.2,ws.length-(i+1),zL,rfl,hlt,ρ4,h4.set h1.length (.lst (us++[u])),?_,hD4,?_,hr4.write hD4 (fN pu hp.1) (rs.append (.cons ry .nil)),?_,hq2⟩
         ·exact((x.trans x3).trans x4).trans (ext_write hD4)
         ·exact((re0.ext x3).ext x4).ext (ext_write hD4)
         ·intro k e
          rw[Zc (ZX (hsrc k e))]
          exact(hg k e).trans (hk k e)
        ·rw[zP hp]at hq2
         have:R0=.stuck:=hq2.symm
         rw[this]at q;exact q.elim
       ·have:R0=.stuck:=hq2.symm
        rw[this]at q;exact q.elim
      ·rw[zP hg]at hq2
       have:R0=.stuck:=hq2.symm
       rw[this]at q;exact q.elim
 ·have ei:i=ws.length:=zL
  refine .inl ⟨ok1 ei,?_⟩
  rw[ei,List.drop_length,lc]at hq
  unfold jP at hq
  dsimp only at hq
  split at hq
  ·rename_i us eu
   obtain⟨pu,ys,hy,rs⟩:=hr2.at_ _ D _ hD2 eu
   subst hq
   refine q ρ1 H x.cut (hr2.cut x hl1) _ ?_
   rw[Rel]
   exact⟨D,ys,rfl,hD1,hy,ao.less (λb hb=>x.pre.subset hb) us ys pu rs⟩
  ·subst hq;exact q.elim
open Classical in
theorem fj{K:Fg0}{EX:cC}{ρ1:List Addr}{h1:aa}{H1:Hp}{σ0:ai}{τ0:L2.St}{J:L2.It}{ws:List W}{src:Option Nat}{is:List Nat}{ts:ai->aa->Res Bool}{ev:ai->aa->Res W}{Q:VK}
  (re:bE K ρ1 H1 σ0 τ0) (hr:a8 K ρ1 h1 H1) (hsrc:∀k,src=some k->k<h1.length)
  (ok:∀ρ h H i,Ext ρ1 H1 ρ H->a8 K ρ h H->(∀k,src=some k->h[k]?=h1[k]?)->(i=ws.length->J.stop i H)/\∀w,ws[i]?=some w->J.go i H/\∀x H',J.yld i H x H'->H'=H/\Rel K ρ H w x)
  (hcl:∀i∈is,∀u,σ0[i]?≠some (some u))
  (q:RQ K EX ρ1 H1 (jP h1.length (lc h1.length src (λw h=>cK (aV is w σ0) ts ev h) ws (h1++[.lst []]))) λw _ ρ' H'=>∀v,Rel K ρ' H' w v->Q v H') :
  ∀D,H1 D=none->fu D J (kg K is) (fP K FX ts) (tI K FX ev) Q τ0 H1 :=
 iH re hr hsrc (λρ h H i x hr hk=>⟨(ok ρ h H i x hr hk).1,λw e=>⟨((ok ρ h H i x hr hk).2 w e).1,λv H' y=>by
  obtain⟨e',r⟩:=((ok ρ h H i x hr hk).2 w e).2 v H' y
  subst e'
  exact⟨Ext.refl,hr,r⟩⟩⟩) hcl q
theorem kI:∀(is:List Nat) (σ:List (Option α)),(kE is σ).length=σ.length
 |[],_=>rfl
 |i::is,σ=>by rw[kE,kI is];simp
theorem BI:∀{is:List Nat}{σ:List (Option α)}{i:Nat}{w:α},(kE is σ)[i]?=some (some w)->i∉is/\σ[i]?=some (some w)
 |[],_,_,_,h=>⟨zS,h⟩
 |j::is,σ,i,w,h=>by rw[kE]at h;obtain⟨h1,h2⟩:=BI h;by_cases hij:j=i;rw[List.getElem?_set]at h2;simp_all;rw[Zc hij]at h2;exact⟨λm=>(zV.mp m).elim (λe=>hij e.symm) h1,h2⟩
theorem uF:∀{is:List Nat}{σ:List (Option α)}{i:Nat},i∉is->(kE is σ)[i]?=σ[i]?
 |[],_,_,_=>rfl
 |j::is,σ,i,h=>by rw[kE,uF λm=>h (zo _ m),Zc (by grind)]
abbrev iO{α:Type}(is:List Nat)(n:Nat)(σ:List (Option α)):List (Option α):=kE is σ++List.replicate n none
theorem pf{α:Type}{is:List Nat}{n:Nat}{σ:List (Option α)}{i:Nat}{w:α}(h:(iO is n σ)[i]?=some (some w)):i∉is/\σ[i]?=some (some w):=by by_cases hi:i<(kE is σ).length;rw[zJ hi]at h;exact BI h;rw[zE (by simp_all),List.getElem?_replicate]at h;simp_all
theorem fV{α:Type}{is:List Nat}{n:Nat}{σ:List (Option α)}:∀i∈is,∀u,(iO is n σ)[i]?≠some (some u):=λi hi u e=>(pf e).1 hi
theorem eJ{K:Fg0}(r:bE K ρ H σ τ):bE K ρ H (iO is n σ) (iO is n τ):=by
 refine⟨by simp[kI,r.len],λi w e=>?_⟩;obtain⟨h1,h2⟩:=pf e;obtain⟨v,h3,h4⟩:=r.at_ i w h2;refine⟨v,?_,h4⟩;have hi:i<(kE is τ).length:=by rw[kI];grind
 rw[zJ hi,uF h1];lia
theorem uz(hl:τ.length=N.length)(hn:N'.length=N.length+n)(ho:∀i x,N[i]?=some x->x∈own->i∈is):B1 N N' own τ (iO is n τ):=by
 refine⟨by simp[kI,hl,hn],λi v e=>?_⟩;obtain⟨h1,h2⟩:=pf e;have hi:i<N.length:=by rw[<- hl];grind
 exact⟨N[i],zK hi,λm=>h1 (ho i _ (zK hi) m),h2⟩
section
variable {X:Cx}{EX:cC}{cf:CF}{fw:Nat}{pos:Pos}{a b c e:Expr}{a' b' c' e':E}{is:List Nat}{n:Nat}{ifs':List E}{elt':E}
theorem Eb{K:Fg0}(hr:a8 K ρ1 h1 H1)(e:seqA h1 w=some ws)(r:Rel K ρ1 H1 w v) :
  (∀k,lz w=some k->k<h1.length)/\∃p,v=.ref p/\(((∃xs,iT K H1 p xs)/\∀ρ h H i,Ext ρ1 H1 ρ H->a8 K ρ h H->(∀k,lz w=some k->h[k]?=h1[k]?)->(i=ws.length->(vm K p).stop i H)/\∀w,ws[i]?=some w->(vm K p).go i H/\∀x H',(vm K p).yld i H x H'->H'=H/\Rel K ρ H w x) \/
   ((∃xs,kq K H1 p xs)/\∀ρ h H i,Ext ρ1 H1 ρ H->a8 K ρ h H->(∀k,lz w=some k->h[k]?=h1[k]?)->(i=ws.length->(yh K p).stop i H)/\∀w,ws[i]?=some w->(yh K p).go i H/\∀x H',(yh K p).yld i H x H'->H'=H/\Rel K ρ H w x)):=by
 have lists:∀(p:Addr) (ρ:List Addr) (h:aa) (H:Hp) (i:Nat) (xs:List V),iT K H p xs->ao K ρ H ws xs->(i=ws.length->(vm K p).stop i H)/\∀w,ws[i]?=some w->(vm K p).go i H/\∀x H',(vm K p).yld i H x H'->H'=H/\Rel K ρ H w x:=by intro p ρ h H i xs hq rs;refine⟨λei=>⟨xs,hq,by rw[<- rs.length];lia⟩,λw' ew=>?_⟩;obtain⟨x,hx,rx⟩:=rs.get ew;refine⟨⟨xs,x,hq,hx⟩,λy H' ⟨e1,e2⟩=>⟨e1,?_⟩⟩;have:=e2 xs hq;rw[hx]at this;cases this;exact rx
 have tups:∀(p:Addr) (ρ:List Addr) (h:aa) (H:Hp) (i:Nat) (xs:List V),kq K H p xs->ao K ρ H ws xs->(i=ws.length->(yh K p).stop i H)/\∀w,ws[i]?=some w->(yh K p).go i H/\∀x H',(yh K p).yld i H x H'->H'=H/\Rel K ρ H w x:=by intro p ρ h H i xs hq rs;refine⟨λei=>⟨xs,hq,by rw[<- rs.length];lia⟩,λw' ew=>?_⟩;obtain⟨x,hx,rx⟩:=rs.get ew;refine⟨⟨xs,x,hq,hx⟩,λy H' ⟨e1,e2⟩=>⟨e1,?_⟩⟩;have:=e2 xs hq;rw[hx]at this;cases this;exact rx
 cases w with
 |tup us =>
  rw[Rel]at r
  obtain⟨p,xs,rfl,hq,rs⟩:=r
  cases (show us=ws from z9 e)
  exact⟨λk ek=>(by cases ek),p,rfl,.inr ⟨⟨xs,hq.sq⟩,λρ h H i x _ _=>tups p ρ h H i xs (hq.ext x).sq (ao.ext x _ _ rs)⟩⟩
 |scr us =>
  rw[Rel]at r
  obtain⟨p,xs,rfl,hq,rs⟩:=r
  cases (show us=ws from z9 e)
  exact⟨λk ek=>(by cases ek),p,rfl,.inl ⟨⟨xs,hq.sq⟩,λρ h H i x _ _=>lists p ρ h H i xs (hq.ext x).sq (ao.ext x _ _ rs)⟩⟩
 |lst us =>
  rw[Rel]at r
  obtain⟨p,xs,rfl,hn,hq,rs⟩:=r
  cases (show us=ws from z9 e)
  exact⟨λk ek=>(by cases ek),p,rfl,.inl ⟨⟨xs,.inl (.inl hq)⟩,λρ h H i x _ _=>lists p ρ h H i xs (.inl (.inl (x.keepN hq hn (λ_ z=>by cases z)))) (ao.ext x _ _ rs)⟩⟩
 |ref k =>
  rw[Rel]at r
  obtain⟨p,rfl,hk⟩:=r
  have e':(match h1[k]? with|some (.lst ws)=>some ws|_=>none)=some ws:=e
  split at e'<;>try (cases e';done)
  rename_i us eu
  cases e'
  obtain⟨_,xs,hx,rs⟩:=hr.at_ k p _ hk eu
  refine⟨λk' ek=>(by cases ek;exact(ze.mp eu).1),p,rfl,.inl ⟨⟨xs,.inl (.inl hx)⟩,λρ h H i x hr' hs=>?_⟩⟩
  obtain⟨_,xs',hx',rs'⟩:=hr'.at_ k p _ (x.at hk) (by rw[hs k rfl];exact eu)
  exact lists p ρ h H i xs' (.inl (.inl hx')) rs'
 |_=>cases e
theorem Co{K:Fg0}:∀ρ h H i,Ext ρ1 H1 ρ H->a8 K ρ h H->(i=(ji z).length->(Kh z).stop i H)/\∀w,(ji z)[i]?=some w->(Kh z).go i H/\∀x H',(Kh z).yld i H x H'->H'=H/\Rel K ρ H w x:=by intro ρ h H i _ _;refine⟨λe=>by show i=z.cps.size;rw[e];simp[ji],λw e=>?_⟩;unfold ji at e;rw[Za]at e;obtain⟨c,ec,rfl⟩:=Zk.mp e;rw[Array.getElem?_toList]at ec;refine⟨(Array.getElem?_eq_some_iff.mp ec).1,λy H' ⟨e2,c',e3,e4⟩=>⟨e2,?_⟩⟩;rw[ec]at e3;cases e3;assumption
theorem tU{τ:L2.St}{H:Hp}{Q:VK}{K:Fg0}(q:tI K EX (af cf (.compS is n a' ifs' elt')) τ H Q) :
  CU K (tI K EX (af cf a')) τ H λJ H1=>∀D,H1 D=none->fu D J (kg K is) (fP K FX (cg cf ifs')) (tI K FX (af cf elt')) Q (iO is n τ) H1:=by
 obtain⟨ρ,σ,h,re,hr,q⟩:=q
 rw[af]at q
 refine⟨ρ,σ,h,re,hr,q.bnd.mono λw h1 ρ1 H1 x1 hr1 q1 v r=>?_⟩
 split at q1
 ·rename_i ws e
  by_cases hz:∃z,w=.str z
  ·obtain⟨z,rfl⟩:=hz
   unfold Fg at e
   dsimp only at e
   split at e
   ·cases e
    cases aG r
    exact .inl ⟨z,rfl,fj (src:=none) (eJ (re.ext x1)) hr1 (λk e=>by cases e) (λρ h H i x hr _=>Co ρ h H i x hr) fV q1⟩
   ·cases e
  ·have e':seqA h1 w=some ws:=by cases w<;>first|exact e|exact absurd ⟨_,rfl⟩ hz
   obtain⟨hs,p,rfl,hq⟩:=Eb hr1 e' r
   refine .inr ⟨p,rfl,?_⟩
   rcases hq with⟨hx,hq⟩|⟨hx,hq⟩
   ·exact .inl ⟨hx,fj (eJ (re.ext x1)) hr1 hs hq fV q1⟩
   ·exact .inr ⟨hx,fj (eJ (re.ext x1)) hr1 hs hq fV q1⟩
 ·exact q1.elim
theorem vQ{K:Fg0}{lo:Int}:∀ρ h H i,Ext ρ1 H1 ρ H->a8 K ρ h H->(∀k,(none:Option Nat)=some k->h[k]?=([]:aa)[k]?) ->
  (i=((List.range m).map λ(k:Nat)=>W.int (lo+(k:Int))).length->(x9 lo m).stop i H)/\∀w,((List.range m).map λ(k:Nat)=>W.int (lo+(k:Int)))[i]?=some w->(x9 lo m).go i H/\∀x H',(x9 lo m).yld i H x H'->H'=H/\Rel K ρ H w x:=by
 intro ρ h H i x hr _
 refine⟨λe=>by show m<=i;simp_all,λw e=>?_⟩
 rw[Za]at e
 cases e1:(List.range m)[i]? with
 |none=>rw[e1]at e;cases e
 |some k =>
  rw[e1]at e
  obtain⟨hi,ek⟩:=ze.mp e1
  have hi':i<m:=by simpa using hi
  have ek':k=i:=by simpa using ek.symm
  subst ek'
  cases e
  exact⟨hi',λy H' ⟨e2,e3⟩=>⟨e2,by subst e3;exact bf⟩⟩
def J3(X:Cx)(cf:CF)(N':List Str)(sc:Scope)(tg:Expr)(is:List Nat)(ifs:List Expr)(ifs':List E)(elt:Expr)(elt':E):Prop :=
 ∀cl C fp s H,PG (blk X N' sc cl C fp s H) tg (kg X.K is)/\Lj (blk X N' sc cl C fp s H) ifs (fP X.K FX (cg cf ifs'))/\PE (blk X N' sc cl C fp s H) elt (tI X.K FX (af cf elt'))
variable {tg elt:Expr}{ifs:List Expr}{N' own:List Str}{sc:Scope}{ce:E}{wi:TI}
theorem yt(hc:X.calm=true)(hi:PI X tg a wi)(hp:cR a=true)(B:lB X.env.scope X.N N' sc own)(hn:N'.length=X.N.length+n)(ho:∀(i:Nat) (x:Str),X.N[i]?=some x->x∈own->i∈is)
  (hb:J3 X cf N' sc tg is ifs ifs' elt elt') (hq:∀τ H Q,tI X.K EX (af cf ce) τ H Q->wi τ H λJ H1=>∀D,H1 D=none->fu D J (kg X.K is) (fP X.K FX (cg cf ifs')) (tI X.K FX (af cf elt')) Q (iO is n τ) H1) :
  PE X (.ListComp elt [⟨tg,a,ifs,0⟩] sc pos) (tI X.K EX (af cf ce)):=by
 intro pins s τ H Q I q
 exact wpAny_comprehension_free  rfl (kX hp _) (mK (mG I B)) B.kind B.loc (nX  hc hi B (uz I.len hn ho) hb I (hq τ H Q q) (λD C H' s' m' I' f hn' q'=>(⟨m',hn',λh' hs=>⟨.ref D,H',I'.turned  (λb o hb e=>hs.extBut b o hb e) f.1 f.2.1 f.2.2.2.1 f.2.2.2.2.1 f.2.2.2.2.2,rfl,q'⟩⟩)) rfl)
theorem Hl(hN:X.N.Nodup)(hix:X.N[i]?=some x)(hx:sR X.env.scope x)(hf:X.fn x=true\/X.env.scope.names.lookup x=some .local)
  (hc:X.calm=true) (hi:PI X tg a wi) (hp:cR a=true) (B:lB X.env.scope X.N N' sc own) (hn:N'.length=X.N.length+n) (ho:∀(i:Nat) (x:Str),X.N[i]?=some x->x∈own->i∈is)
  (hb:J3 X cf N' sc tg is ifs ifs' elt elt') (hq:∀τ H Q,tI X.K EX (af cf ce) τ H Q->wi τ H λJ H1=>∀D,H1 D=none->fu D J (kg X.K is) (fP X.K FX (cg cf ifs')) (tI X.K FX (af cf elt')) Q (iO is n τ) H1) :
  PS X (.Assign [.Name x p] (.ListComp elt [⟨tg,a,ifs,0⟩] sc pos) spos) (dE X.K EX (aL cf fw (.asg i ce))):=by
 have key:∀D τ H,dE X.K EX (aL cf fw (.asg i ce)) D τ H->tI X.K EX (af cf ce) τ H λv H1=>D.nx (τ.set i (some v)) H1:=λD τ H zq=>by obtain⟨ρ,σ,h,re,hr,q⟩:=zq;rw[aL]at q;exact⟨ρ,σ,h,re,hr,q.bnd.mono λw h1 ρ1 H1 x1 hr1 q1 v r=>RQ.here hr1 q1 _ ((re.ext x1).set i r)⟩
 have sw:∃k,swapsWith (.ListComp elt [⟨tg,a,ifs,0⟩] sc pos) (some (.Name x p)) spos.line X.env=pure k:=⟨_,rfl⟩
 obtain⟨k,hk⟩:=sw
 cases k with
 |false=>exact(fR hN hix hx (yt (pos:=pos) hc hi hp B hn ho hb hq) hk hf).sub λD τ H q=>key D τ H q
 |true =>
  intro pins s τ H D I q
  rw[exec_Assign_Name_used _ _ _ _ hk]
  refine zd (wpAny_standAt <| zd ?_)
  refine zd (ZL (wpAny_comprehension_free (use:=some (assign (.Name x p) X.env)) (Q:=λ_ s'=>SP X pins D .next s') rfl (kX hp _) (mK (mG I B)) B.kind B.loc ?_) (λ_ s' hq=>zB (zB hq)) λ_ _ e=>e)
  refine nX  hc hi B (uz I.len hn ho) hb I (hq τ H _ (key D τ H q)) (λDD C H' s' m' I' f hn' q'=>?_) rfl
  show wpAny _ X.A (assign (.Name x p) X.env (.ref DD)) _ _ s'
  refine wpAny_assign_Name (ng I' hN hix hx (v:=.ref DD) rfl (λs2 I2 zq=>?_) hf)
  obtain⟨al,sb,ha⟩:=zq
  have hne:C≠al:=by rcases ha with e|e;rw[e];exact f.2.1;exact zza (f.2.2.2.2.1 x al e)
  exact⟨m',hn'.sameBut sb hne,λh' hs=>⟨_,H',I2.turned (it:=C) (λb o hb e=>hs.extBut b o hb e) f.1 f.2.1 f.2.2.2.1 f.2.2.2.2.1 f.2.2.2.2.2,q'⟩⟩
theorem Ga(ha:PE X a (tI X.K EX (af cf a'))):PI X tg a (CU X.K (tI X.K EX (af cf a'))):=Ar ha
theorem Fq:∀τ H Q,tI X.K EX (af cf (.compS is n a' ifs' elt')) τ H Q->CU X.K (tI X.K EX (af cf a')) τ H λJ H1=>∀D,H1 D=none->fu D J (kg X.K is) (fP X.K FX (cg cf ifs')) (tI X.K FX (af cf elt')) Q (iO is n τ) H1 :=
 λτ H Q q=>tU q
theorem Jj:∀τ H Q,tI X.K EX (af cf (.compR is n [a'] ifs' elt')) τ H Q->Ge (mV X.K EX (bL cf [a'])) τ H λJ H1=>∀D,H1 D=none->fu D J (kg X.K is) (fP X.K FX (cg cf ifs')) (tI X.K FX (af cf elt')) Q (iO is n τ) H1:=λτ H Q zq=>by
 obtain⟨ρ,σ,h,re,hr,q⟩:=zq;rw[af]at q;refine⟨ρ,σ,h,re,hr,?_⟩;cases e:bL cf [a'] σ h with
 |stuck=>rw[e]at q;exact q.elim
 |exc c h1=>rw[e]at q;exact q
 |ok ws h1=>
  rw[e]at q;intro ρ1 H1 x1 hr1 vs rs;have q1:=q.bnd ρ1 H1 x1 hr1;have hl:=fO e;obtain⟨w,rfl⟩:=List.length_eq_one_iff.mp hl;rw[cQ]at q1;cases w with
  |int j=>obtain⟨v,rfl,rv⟩:=se rs;cases a7 rv;unfold jR at q1;dsimp only at q1;split at q1;rename_i ks ek;split at ek;rename_i hj;cases ek;exact⟨j,rfl,hj.1,hj.2,fj (eJ (re.ext x1)) hr1 (λk e=>by cases e) (λρ h H i x hr _=>vQ ρ h H i x hr (λk e=>by cases e)) fV q1⟩;cases ek;exact q1.elim
  |_=>exact q1.elim
theorem HN:∀τ H Q,tI X.K EX (af cf (.compR is n [a',b'] ifs' elt')) τ H Q->FJ (mV X.K EX (bL cf [a',b'])) τ H λJ H1=>∀D,H1 D=none->fu D J (kg X.K is) (fP X.K FX (cg cf ifs')) (tI X.K FX (af cf elt')) Q (iO is n τ) H1:=λτ H Q zq=>by
 obtain⟨ρ,σ,h,re,hr,q⟩:=zq;rw[af]at q;refine⟨ρ,σ,h,re,hr,?_⟩;cases e:bL cf [a',b'] σ h with
 |stuck=>rw[e]at q;exact q.elim
 |exc c h1=>rw[e]at q;exact q
 |ok ws h1=>
  rw[e]at q;intro ρ1 H1 x1 hr1 vs rs;have q1:=q.bnd ρ1 H1 x1 hr1;have hl:=fO e;obtain⟨w,w2,rfl⟩:∃w w2,ws=[w,w2]:=by rcases ws with _|⟨w,_|⟨w2,_|_⟩⟩<;>first|exact⟨_,_,rfl⟩|cases hl
  rw[cQ]at q1;unfold jR at q1;split at q1;rename_i ks ek;split at ek;rename_i e1;cases e1;rename_i i j e1;cases e1;split at ek;rename_i hj;cases ek;obtain⟨v,v2,rfl,rv,rv2⟩:=Bc rs;cases a7 rv;cases a7 rv2;exact⟨i,j,rfl,hj,fj (eJ (re.ext x1)) hr1 (λk e=>by cases e) (λρ h H i x hr _=>vQ ρ h H i x hr (λk e=>by cases e)) fV q1⟩;cases ek;cases ek;exact q1.elim
end
theorem ou{K:Fg0}(e:seqA [] w=some us)(r:Rel K ρ1 H1 w v):∃p t xs,v=.ref p/\ao K ρ1 H1 us xs/\∀ρ H,Ext ρ1 H1 ρ H->kD K t H p xs:=by
 cases w with
 |tup ws=>rw[Rel]at r;obtain⟨p,xs,rfl,hq,rs⟩:=r;cases (show ws=us from z9 e);exact⟨p,true,xs,rfl,rs,λρ H x=>(hq.ext x).sq⟩
 |scr ws=>obtain⟨p,xs,rfl,hq,rs⟩:=r;cases (show ws=us from z9 e);exact⟨p,false,xs,rfl,rs,λρ H x=>(hq.ext x).sq⟩
 |lst ws=>rw[Rel]at r;obtain⟨p,xs,rfl,hn,hq,rs⟩:=r;cases (z9 e);exact⟨p,false,xs,rfl,rs,λρ H x=>.inl (.inl (x.keepN hq hn (λ_ z=>by cases z)))⟩
 |ref k=>cases e
 |_=>cases e
theorem kA{α β:Type}{a:α}{h:aa}{f:α->aa->Res β}:bnd (.ok a h) f=f a h:=rfl
theorem o8{K:Fg0}{ρ:List Addr}{h:aa}{H:Hp}{q:Addr}{u v:W}{x y:V}(hr:a8 K ρ h H)(hq:H q=none)(r1:Rel K ρ H u x)(r2:Rel K ρ H v y) :
  Ext ρ H ρ (aY H q (.tup [x,y]))/\a8 K ρ h (aY H q (.tup [x,y]))/\Rel K ρ (aY H q (.tup [x,y])) (.tup [u,v]) (.ref q):=by
 have e:Ext ρ H ρ (aY H q (.tup [x,y])):=ext_new hr hq
 exact⟨e,hr.ext_new hq,(⟨q,[x,y],rfl,.inl ⟨hr.new hq,.inl aI⟩,(.cons (Rel.ext e _ _ r1) (.cons (Rel.ext e _ _ r2) .nil))⟩)⟩
def KU(K:Fg0)(ta:TA):TI:=λσ H R=>ta σ H λvs H1=>∃p q t1 t2,vs=[.ref p,.ref q]/\(∃xs,kD K t1 H1 p xs)/\(∃ys,kD K t2 H1 q ys)/\R (Qv K t1 t2 p q) H1
def Hc(K:Fg0)(c:Int)(ta:TA):TI:=λσ H R=>ta σ H λvs H1=>∃p t,vs=[.ref p]/\(∃xs,kD K t H1 p xs)/\R (Qp K t c p) H1
section
variable {X:Cx}{EX:cC}{cf:CF}{a b:Expr}{a' b':E}{ta:TA}{p pos:Pos}{es:List Expr}{x1:Nat}{ps:Pos}{is:List Nat}{n:Nat}{ifs':List E}{elt':E}
theorem IY(hg:Gl X "zip")(hm:X.mg "zip"=none)(ha:PA X [a,b] ta)(hs:starEach [a,b] X.env=[(false,eval a X.env),(false,eval b X.env)]:=by rfl)(hs2:starEach [b] X.env=[(false,eval b X.env)]:=by rfl) :
  PI X (.Tuple es x1 ps) (.Call (.Name "zip" p) [a,b] [] pos) (KU X.K ta):=by
 intro pins s σ H R I h
 refine Call_ (ef I hg hm PyProof.Rows.boot_zip (ZC (aW (ha pos pins s σ H _ I h) λus s1 ⟨vs,H1,I1,r1,q1⟩=>?_) (by simp_all) (by rw[hs2];rfl)))
 obtain⟨p,q,t1,t2,rfl,⟨xs,s1q⟩,⟨ys,s2q⟩,q1⟩:=q1
 cases r1 with
 |cons r rr =>
  cases rr with
  |cons r' rr =>
   cases rr
   cases r
   cases r'
   obtain⟨is1,_,m1⟩:=s1q.at_ I1
   obtain⟨is2,_,m2⟩:=s2q.at_ I1
   refine AS m1 m2 λh' z1 z2 z3 z4 z5 kk=>wpAny_pyIter_zip z1 ⟨_,M5 s1.heap.objs.size,_,_,H1,rfl,I1.kept  kk,yA t1 t2 p q s1.heap.objs.size,⟨z1,z2,⟨_,_,z3⟩,z4,z5⟩,λc hc=>?_,q1⟩
   have:s1.heap.objs.size<=c:=by grind
   exact I1.fpOk this (I1.hok.fresh this)
theorem m9{E:Value->Shared->Prop}
  (h:wpAny M A (spliced (backTo pos (starEach [e] env))) (λvs s1=>wpAny M A (evalAll ((backToKw pos (keywordEach kws env)).map (·.2))) (λks s2=>wpAny M A (call (.type T) vs (((backToKw pos (keywordEach kws env)).filterMap (·.1)).zip ks)) Q E s2) E s1) E s)
  (he:starEach [e] env=[(false,eval e env)]) (hall:(backToKw pos (keywordEach kws env)).all (·.1.isSome)=true) (hkw:(backToKw pos (keywordEach kws env)).any (·.1.isNone)=false) :
  wpAny M A (callWith pos (.type T) [] (backTo pos (starEach [e] env)) (backToKw pos (keywordEach kws env))) Q E s:=by
 have hb:backTo pos [(false,eval e env)]=[(false,eval e env)]:=rfl
 rw[he,hb]at h ⊢
 refine zd (ZH (ZL (PyProof.Rows.evalArgs_kwB  (Q:=λa s1=>wpAny M A (call (.type T) ([]++a.pos) a.kw) Q E s1) hall h) (λa s1 h1=>zd (wpAny_standAt ?_)) λ_ _ x=>x))
 rw[show(([(false,eval e env)]).any (·.1)||(backToKw pos (keywordEach kws env)).any (·.1.isNone))=false by rw[hkw];rfl]
 refine zd (zB ?_)
 exact zd (ZL h1 (λr s2 hr=>zd (ZH (wpAny_point (zB hr)))) λ_ _ x=>x)
theorem u6{j:Nat}{kp kp2:Pos}(hg:Gl X "enumerate")(hm:X.mg "enumerate"=none)(ha:PA X [a] ta)(hs:starEach [a] X.env=[(false,eval a X.env)]:=by rfl):PI X (.Tuple es x1 ps) (.Call (.Name "enumerate" p) [a] [⟨some "start",.Constant (.int 1) j kp,kp2⟩] pos) (Hc X.K 1 ta):=by
 intro pins s σ H R I h;refine ZZ (ef I hg hm PyProof.Rows.boot_enumerate (m9 (aW (ha pos pins s σ H _ I h) λus s1 ⟨vs,H1,I1,r1,q1⟩=>?_) hs rfl rfl));obtain⟨p,t,rfl,⟨xs,s1q⟩,q1⟩:=q1;cases r1 with
 |cons r rr=>
  cases rr;cases r;refine aW (Ef (X:=X) tH GU pos pins s1 σ H1 (λvs H2=>vs=[.int 1]/\H2=H1) I1 ⟨rfl,rfl⟩) λks s2 zq=>?_;obtain⟨vs,H2,I2,r2,e1,e2⟩:=zq;subst e1 e2;cases r2 with
  |cons r rr=>
   obtain⟨tk,rfl⟩:=r;obtain⟨is1,_,m1⟩:=s1q.at_ I2;refine tK (tk:=tk) m1 λh' z1 z2 kk=>wpAny_pyIter_enum z1 ⟨_,[s2.heap.objs.size+1,s2.heap.objs.size],_,_,H2,rfl,I2.kept  kk,wg t 1 p s2.heap.objs.size,⟨⟨_,z1⟩,z2⟩,λc hc=>?_,q1⟩;have:s2.heap.objs.size<=c:=by grind
   exact I2.fpOk this (I2.hok.fresh this)
theorem MP:∀τ H Q,tI X.K EX (af cf (.compS is n (.zipE a' b') ifs' elt')) τ H Q->KU X.K (mV X.K EX (bL cf [a',b'])) τ H λJ H1=>∀D,H1 D=none->fu D J (kg X.K is) (fP X.K FX (cg cf ifs')) (tI X.K FX (af cf elt')) Q (iO is n τ) H1:=λτ H Q zq=>by
 obtain⟨ρ,σ,h,re,hr,q⟩:=zq
 rw[af,af]at q
 refine⟨ρ,σ,h,re,hr,?_⟩
 rw[bL]
 cases e1:af cf a' σ h with
 |stuck=>rw[e1]at q;exact q.elim
 |exc c h1=>rw[e1]at q;exact q
 |ok x h1 =>
  rw[e1,kA]at q
  rw[kA,bL]
  cases e2:af cf b' σ h1 with
  |stuck=>rw[e2]at q;exact q.elim
  |exc c h2=>rw[e2]at q;exact q
  |ok y h2 =>
   rw[e2,kA]at q
   rw[kA,bL,kA,kA]
   intro ρ1 H1 x1 hr1 vs rs
   cases ex:seqA [] x with
   |none=>rw[ex]at q;exact q.elim
   |some us =>
    cases ey:seqA [] y with
    |none=>rw[ex,ey]at q;exact q.elim
    |some ws =>
     rw[ex,ey]at q
     obtain⟨v1,v2,rfl,r1,r2⟩:=Bc rs
     obtain⟨p,t1,xs,rfl,rl1,sq1⟩:=ou ex r1
     obtain⟨p',t2,ys,rfl,rl2,sq2⟩:=ou ey r2
     refine⟨p,p',t1,t2,rfl,⟨xs,sq1 _ _ Ext.refl⟩,⟨ys,sq2 _ _ Ext.refl⟩,?_⟩
     have q0 :=q
     refine iH (src:=none) (eJ (re.ext x1)) hr1 (λk e=>by cases e) (λρ2 h3 H3 i x2 hr3 _=>?_) fV (q0.bnd ρ1 H1 x1 hr1)
     have rl1':=ao.ext x2 _ _ rl1
     have rl2':=ao.ext x2 _ _ rl2
     have l1:=rl1'.length
     have l2:=rl2'.length
     refine⟨λei=>⟨xs,ys,sq1 _ _ x2,sq2 _ _ x2,?_⟩,λw ew=>?_⟩
     ·grind
     ·rw[List.getElem?_zipWith]at ew
      cases eu:us[i]? with
      |none=>rw[eu]at ew;simp at ew
      |some u =>
       cases ev:ws[i]? with
       |none=>rw[eu,ev]at ew;simp at ew
       |some v =>
        rw[eu,ev]at ew
        cases ew
        obtain⟨xv,hx,rx⟩:=rl1'.get eu
        obtain⟨yv,hy,ry⟩:=rl2'.get ev
        refine⟨⟨xs,ys,xv,yv,sq1 _ _ x2,sq2 _ _ x2,hx,hy⟩,λv2 H' zq=>?_⟩
        obtain⟨pp,x',y',hp,e1,e2,f1,f2⟩:=zq
        have g1:=f1 xs (sq1 _ _ x2)
        have g2:=f2 ys (sq2 _ _ x2)
        rw[hx]at g1
        rw[hy]at g2
        cases g1
        cases g2
        subst e1 e2
        exact o8 hr3 hp rx ry
theorem Nx{c:Int}:∀τ H Q,tI X.K EX (af cf (.compS is n (.enmE c a') ifs' elt')) τ H Q->Hc X.K c (mV X.K EX (bL cf [a'])) τ H λJ H1=>∀D,H1 D=none->fu D J (kg X.K is) (fP X.K FX (cg cf ifs')) (tI X.K FX (af cf elt')) Q (iO is n τ) H1:=λτ H Q zq=>by
 obtain⟨ρ,σ,h,re,hr,q⟩:=zq
 rw[af,af]at q
 refine⟨ρ,σ,h,re,hr,?_⟩
 rw[bL]
 cases e1:af cf a' σ h with
 |stuck=>rw[e1]at q;exact q.elim
 |exc c h1=>rw[e1]at q;exact q
 |ok x h1 =>
  rw[e1,kA]at q
  rw[kA,bL,kA]
  intro ρ1 H1 x1 hr1 vs rs
  cases ex:seqA [] x with
  |none=>rw[ex]at q;exact q.elim
  |some us =>
   rw[ex]at q
   obtain⟨v1,rfl,r1⟩:=se rs
   obtain⟨p,t1,xs,rfl,rl1,sq1⟩:=ou ex r1
   refine⟨p,t1,rfl,⟨xs,sq1 _ _ Ext.refl⟩,?_⟩
   have q0 :=q
   refine iH (src:=none) (eJ (re.ext x1)) hr1 (λk e=>by cases e) (λρ2 h3 H3 i x2 hr3 _=>?_) fV (q0.bnd ρ1 H1 x1 hr1)
   have rl1':=ao.ext x2 _ _ rl1
   have l1:=rl1'.length
   refine⟨λei=>⟨xs,sq1 _ _ x2,?_⟩,λw ew=>?_⟩
   ·grind
   ·rw[ZM]at ew
    cases eu:us[i]? with
    |none=>rw[eu]at ew;simp at ew
    |some u =>
     rw[eu]at ew
     cases ew
     obtain⟨xv,hx,rx⟩:=rl1'.get eu
     refine⟨⟨xs,xv,sq1 _ _ x2,hx⟩,λv2 H' zq=>?_⟩
     obtain⟨pp,x',hp,e1,e2,f1⟩:=zq
     have g1:=f1 xs (sq1 _ _ x2)
     rw[hx]at g1
     cases g1
     subst e1 e2
     exact o8 hr3 hp bf rx
end
theorem gQ:Slot "reversed" "__next__" "reversed.__next__" :=
 .of   (rfl) (rfl) (rfl) (rfl)
  zD (rfl)
theorem rL:entryFor table "reversed.__next__"=some Builtin.«reversed.__next__»:=entryFor_of_tree (rfl)
theorem qL(a:Value):argsOk "reversed.__next__" ⟨[a],[]⟩:=by rfl
theorem q9:Slot "reversed" "__iter__" "reversed.__iter__" :=
 .of   (rfl) (rfl) (rfl) (rfl)
  zD (rfl)
theorem AO(a:Value):argsOk "reversed.__iter__" ⟨[a],[]⟩:=by rfl
theorem yL:entryFor table "reversed.__iter__"=some Builtin.«dict_keyiterator.__iter__» :=
 entryFor_alias (id':="dict_keyiterator.__iter__") (rfl) (rfl) (by decide +kernel) (rfl)
theorem mF:Slot "reversed" "__length_hint__" "reversed.__length_hint__" :=
 .of   (rfl) (rfl) (rfl) (rfl)
  zD (rfl)
theorem AR:entryFor table "reversed.__length_hint__"=some Builtin.«reversed.__length_hint__»:=entryFor_of_tree (rfl)
theorem yf(a:Value):argsOk "reversed.__length_hint__" ⟨[a],[]⟩:=by rfl
theorem BV:Slot "reversed" "__init__" "object.__init__" :=
 .of   (rfl) (rfl) (rfl) (rfl)
  zD (rfl)
theorem Du:typeLookup (.type "reversed") "__len__"=pure none:=rfl
theorem Ea:typeLookup (.type "tuple") "__reversed__"=pure none:=rfl
theorem JG:TypeCalled "reversed" "reversed.__new__" "object.__init__" :=
 ⟨rfl,F.create_reversed,⟨_,_,F.mro_reversed⟩,F.made_reversed,F.plain_reversed_new,F.sub_reversed_self,BV⟩
def Qe(l:Addr)(i:Int):Obj:={ cls:=.type "reversed",data:=.fields #[.ref l,rawInt i] }
theorem JR:isSubtype (.type "tuple") (.type "dict")=pure false:=rfl
theorem BB(l)(its : Array Value)(hz : (its.size : Int)<2^63) : Meets (Builtin.«reversed.__new__» ⟨[.type "reversed", .ref l], []⟩) (λ_ R s => IsTup s.heap l its /\
   ∀tk,R (.ok (.ret (.ref s.heap.objs.size))) { s with heap:=s.heap.push (Qe l ((its.size:Int)-1)),toks:=tk }) :=
 .of_wp λP w A R s h=>by obtain⟨hp,g,d,tk,os⟩:=s;obtain⟨c1,h⟩:=h;have ty :=c1.typeIs;have no:=Ea;have sb:=JR;refine zd (zzA (newClass_reversed _) ?_);refine zd (zzA (a:=()) (by first|rfl|kernel_rfl) ?_);refine zd (zzA (a:=()) (by first|rfl|kernel_rfl) ?_);refine zd (zzY ty no ?_);refine zd (zd (wpAny_isInstance (T:="tuple") (b:=false) ty sb ?_));refine zd (zzY ty F.slot_tuple_getitem.lookup (zB ?_));refine zd (PyProof.Rows.len_tuple c1 hz ?_);show wpAny _ _ (newObj (.type "reversed") (.fields #[.ref l,rawInt ((its.size:Int)-1)]) none >>= λx=>ret x) _ _ _;exact zd (Z2 (zB ⟨_,rfl,h _⟩) (by size_fits))
theorem yz{P:Program}{w:World}{A:Around}{E:Value->Shared->Prop}{s:Shared}{Q:Value->Shared->Prop}{l:Addr}{its:Array Value}(c:IsTup s.heap l its)(hz:(its.size:Int)<2^63)
  (q:∀tk,Q (.ref s.heap.objs.size) { s with heap:=s.heap.push (Qe l ((its.size)-1)),toks:=tk }):wpAny (model P w) A (call (.type "reversed") [.ref l]) Q E s :=
 callType_new JG (rfl) (F.typeCall_reversed_1 _) (F.newCall_reversed_1 _) (λobj=>F.args_object_init_2 obj _) F.entry_reversed_new (BB l its hz) ⟨c,λtk=>⟨⟨_,zA _ rfl,rfl⟩,q tk⟩⟩
def mP(h:Heap)(a l:Addr)(i:Int):Prop:=∃o,h.get? a=some o/\o.cls=.type "reversed"/\o.data=.fields #[.ref l,rawInt i]
section
variable {P:Program}{w:World}{A:Around}{E:Value->Shared->Prop}{s:Shared}
theorem Fi{it l:Addr}{i:Nat}{its:Array Value}{x:Value}{Q:Option Value->Shared->Prop}(a:mP s.heap it l (i:Int))(b:IsTup s.heap l its)(hz:(its.size:Int)<2^62)(hx:its[i]?=some x)
  (hQ:∀h' tk,mP h' it l ((i:Int)-1)->Heap.SameBut it s.heap h'->Q (some x) { s with heap:=h',toks:=tk }):wpAny (model P w) A (pyNext (.ref it)) Q E s:=by
 obtain⟨o,ho,hc,hd⟩:=id a
 have hi:i<its.size:=(Array.getElem?_eq_some_iff.mp hx).1
 unfold pyNext
 refine zd (zzE (Zv (name:=Str.ofString "__next__") ⟨o,ho,hc⟩ gQ (ZF gQ ⟨o,ho,hc⟩ rL ?_ (qL _))))
 refine zd (zzA (a:=(Value.ref it,[])) rfl ?_)
 refine zd (Zg ho hd (x:=.ref l) rfl ?_)
 refine zd (Zg ho hd (x:=rawInt (i:Int)) rfl ?_)
 show wpAny _ _ (if(i:Int)<0 then _ else _) _ _ s
 rw[zP zL]
 refine zd (zzY b.typeIs F.slot_tuple_getitem.lookup ?_)
 refine zd (m:=mkInt _) (wpAny_mkInt ?_)
 refine zd (zzE (PyProof.Rows.getItem_tuple b zL zL (j:=i) (by unfold seqIndex?;simp;lia) hx ?_))
 refine zd (Zg ho hd (x:=rawInt (i:Int)) rfl ?_)
 refine zd (wpAny_setField ho hd zS ?_)
 refine zB ⟨x,rfl,zB (hQ _ _ ?_ (zzH ..))⟩
 exact⟨_,ZU _ ho (Obj.isFreed_of_fields (zzr hd _)),(Obj.cls_mapFields ..).trans hc,by rw[zzr hd];simp⟩
end
section
variable {P:Program}{w:World}{A:Around}{E:Value->Shared->Prop}{s:Shared}
theorem JH{it l:Addr}{Q:Option Value->Shared->Prop}(hh:A.handled=none)(a:mP s.heap it l (-1))(hQ:∀h',Heap.ExtBut it s.heap h'->Q none { s with heap:=h' }):wpAny (model P w) A (pyNext (.ref it)) Q E s:=by
 obtain⟨o,ho,hc,hd⟩:=id a;unfold pyNext;refine zd (zzE (Zv (name:=Str.ofString "__next__") ⟨o,ho,hc⟩ gQ (ZF gQ ⟨o,ho,hc⟩ rL ?_ (qL _))));unfold Builtin.«reversed.__next__»;refine zd (zzA (a:=(Value.ref it,[])) rfl ?_);refine zd (Zg ho hd (x:=.ref l) rfl ?_);refine zd (Zg ho hd (x:=rawInt (-1)) rfl ?_);show wpAny _ _ (if(-1:Int)<0 then _ else _) _ _ s;rw[zF zD];refine zd (wpAny_rule ?_);have e1:=ZU (Obj.mapFields (·.set! 1 (rawInt (-1)))) ho (Obj.isFreed_of_fields (zzr hd _));refine zd ?_;refine zd (wpAny_setField ho hd zS ?_);refine wpAny_setField e1 (zzr hd _) zS ?_;unfold Builtin.SmallTypes.stopIteration;refine zd (zd (m:=newExc (.type "StopIteration") []) ?_);simp only[newExc,newTuple];refine zd (Z2 (zd (m:=firstArgMember _ _) (zzA (a:=Value.none) (by first|rfl|(simp only[firstArgMember];rfl)) (Z2 ?_ (by size_fits)))) (by size_fits));simp only[raiseNew];refine zd (wpAny_handled ?_);first|rw[show A.in1.handled=none from hh]|rw[hh]
 refine zd (zB (wpAny_throw ?_));refine zd (wpAny_isInstance (T:="StopIteration") (b:=true) ⟨_,zA _ rfl,rfl⟩ isSubtype_stop ?_);exact zB (hQ _ ((((zzH ..).extBut.trans (zzH ..).extBut).push _).push _))
theorem mP.on{h h':Heap}{a l:Addr}{i:Int}(x:mP h a l i)(e:∀o,h.get? a=some o->h'.get? a=some o):mP h' a l i:=let ⟨o,ho,r⟩:=x;⟨o,e _ ho,r⟩
theorem IsTup.on{h h':Heap}{a:Addr}{its:Array Value}(x:IsTup h a its)(e:∀o,h.get? a=some o->h'.get? a=some o):IsTup h' a its:=let ⟨o,ho,r⟩:=x;⟨o,e _ ho,r⟩
theorem An(hh:A.handled=none)(I l:Addr)(hne:l≠I)(its:Array Value)(hz:(its.size:Int)<2^62) :
  Walks P w A I [I,l] [I] its.size (λi v=>its[its.size-1-i]?=some v) (λi h=>i<=its.size/\mP h I l ((its.size:Int)-1-(i:Int))/\IsTup h l its) where
 sub:=λb hb=>by simp at hb;simp[hb]
 frame:=λ_ _ _ x hk=>⟨x.1,x.2.1.on λo e=>hk I zS o e,IsTup.on x.2.2 λo e=>hk l zS o e⟩
 item:=λi s Q E hi x hQ=>by have e:(its.size:Int)-1-(i:Int)=((its.size-1-i:Nat):Int):=zL;have hit:=x.2.1;rw[e]at hit;have hx:its[its.size-1-i]?=some (its[its.size-1-i]'zL):=Array.getElem?_eq_getElem zL;refine Fi hit x.2.2 hz hx λh' tk hit' hs'=>?_;have e2:((its.size-1-i:Nat):Int)-1=(its.size:Int)-1-((i+1:Nat):Int):=zL;rw[e2]at hit';exact hQ _ h' tk hx ⟨hi,hit',IsTup.on x.2.2 λo eo=>(hs'.2 l hne).trans eo⟩ λb o hb eo=>hs'.extBut b o (λh=>hb (by simp[h])) eo
 done:=λs Q E x hQ=>by have hit:=x.2.1;rw[show(its.size:Int)-1-(its.size:Int)=-1 by lia]at hit;exact JH hh hit λh' he'=>hQ h' s.toks λb o hb eo=>he' b o (λh=>hb (by simp[h])) eo
 self:=λ_ s Q E x hQ=>by obtain⟨o,ho,hc,hd⟩:=x.2.1;refine wpAny_pyIter_slot ⟨o,ho,hc⟩ q9 (ZF q9 ⟨o,ho,hc⟩ yL ?_ (AO _));show wpAny _ _ (ret (.ref I)) _ _ s;exact zB ⟨_,rfl,"reversed",_,⟨o,ho,hc⟩,gQ.lookup,hQ⟩
theorem Ex{it l:Addr}{its:Array Value}{Q:Bool->Shared->Prop}(a:mP s.heap it l ((its.size:Int)-1))(b:IsTup s.heap l its)(hz:its.size<=1000)(h:∀bb tk,Q bb { s with toks:=tk }):wpAny (model P w) A (Builtin.List.listLengthHint (.ref it)) Q E s:=by
 obtain⟨o,ho,hc,hd⟩:=id a
 have ty:s.TypeIs (.ref it) "reversed":=⟨o,ho,hc⟩
 unfold Builtin.List.listLengthHint
 refine zd (zzY ty Du ?_)
 refine zd (zzY ty mF.lookup ?_)
 generalize pQ:("reversed.__length_hint__":String)=id0
 wp_delta
 subst pQ
 refine zd (wpAny_isInstance (T:="reversed") (b:=true) ty F.sub_reversed_self ?_)
 refine wpAny_ite_split (λhab=>absurd hab zD) (λ_=>?_)
 refine wpAny_ite_split (λhab=>absurd hab (by decide +kernel)) (λ_=>?_)
 refine zd (wpAny_rule ?_)
 refine zd (zzA (mF.bind _) ?_)
 refine zd (zzE (ZF mF ty AR ?_ (yf _)))
 unfold Builtin.«reversed.__length_hint__»
 refine zd (zzA (a:=Value.ref it) rfl ?_)
 refine zd (Zg ho hd (x:=.ref l) rfl ?_)
 refine wpAny_ite_split (λhab=>absurd hab zS) (λ_=>?_)
 refine zd (PyProof.Rows.len_tuple b zL ?_)
 refine zd (m:=asInt? _) (zB ?_)
 refine zd (Zg ho hd (x:=rawInt ((its.size:Int)-1)) rfl ?_)
 show wpAny _ _ (if(its.size:Int)<(its.size:Int)-1+1 then _ else _) _ _ _
 rw[zP zL]
 refine zd (m:=mkInt _) (wpAny_mkInt (zB ⟨_,rfl,?_⟩))
 refine zd (m:=asInt? _) (zB ?_)
 have e:(its.size:Int)-1+1=(its.size:Int):=zL
 rw[e]
 dsimp only
 have f1:¬ ((!Builtin.List.listFitsIndex (its.size:Int))=true):=by
  have:Builtin.List.listFitsIndex (its.size:Int)=true:=by unfold Builtin.List.listFitsIndex;rw[zI,Zm,Zm];lia
  rw[this];decide
 have f2:¬ (Builtin.List.listTooLong ((its.size:Int).toNat)=true):=by
  unfold Builtin.List.listTooLong;rw[Zm,Zq];lia
 rw[zP f1,zP zL,zP f2]
 exact zB (h _ _)
theorem w9{R:Result->Shared->Prop}{I l:Addr}{its:Array Value}(hh:A.handled=none)(a:mP s.heap I l ((its.size:Int)-1))(b:IsTup s.heap l its)(hne:l≠I)(hz:its.size<=1000)(S:Addr)(res:Value)(c₀:Nat)
  (hS:s.heap.get? S=some { cls:=.type "list",data:=.seq #[] c₀ }) (hSI:S≠I) (hSl:S≠l)
  (hR:∀h' tk acc' c',(∀b o,b≠S->b≠I->s.heap.get? b=some o->h'.get? b=some o)->h'.get? S=some { cls:=.type "list",dict:=none,data:=.seq acc' c',slots:=#[] } ->
   ItemsOf (λi v=>its[its.size-1-i]?=some v) acc' its.size->R (.ok (.ret res)) { s with heap:=h',toks:=tk }) :
  wpAny (model P w) A.in1 (Builtin.List.listExtendWith (.ref S) (.ref I) res)
   (λfin s'=>match fin with|.done f=>R (.ok f) s'|.again c'=>c'.quiet=true/\codeAny (model P w) A c' R s') (λe s'=>R (.error e) s') s:=by
 have hSf:S∉[I,l]:=by simp[hSI,hSl]
 have W:=(An (P:=P) (w:=w) (A:=A.in1) hh I l hne its zL).toS
 have key:∀(h:Heap) (c₁ tk:Nat),(∀b o,b≠S->s.heap.get? b=some o->h.get? b=some o)->h.get? S=some { cls:=.type "list",data:=.seq #[] c₁ } ->
   codeAny (model P w) A (.builtin "list.extend.loop" ⟨[.ref S,.ref I,res],[]⟩) R { s with heap:=h,toks:=tk }:=by
  intro h c₁ tk hk hS₁
  refine codeAny_extend_loopS W (by rw[Zq];lia) S hSf res its.size 0 _ #[] c₁ rfl (ZD _) ⟨ZD _,by simpa using a.on (hk I · (zza hSI)),IsTup.on b (hk l · (zza hSl))⟩ hS₁ (ItemsOf.nil _) λs' acc' c' hm hS' hacc=>?_
  rw[Moved.eq_with hm]
  refine hR s'.heap s'.toks acc' c' (λb o hb hb2 e=>hm.heap b o (λhmem=>?_) (hk b o hb e)) hS' hacc
  grind
 obtain⟨o,ho,hc,hd⟩:=id a
 unfold Builtin.List.listExtendWith
 refine zd (wpAny_typeOf (T:="reversed") ⟨o,ho,hc⟩ ?_)
 have h1:Builtin.List.listSameRef (.ref S) (.ref I)=false:=by simp[Builtin.List.listSameRef,hSI]
 have h2:(Value.type "reversed"==Value.type "list")=false:=zD
 have h3:(Value.type "reversed"==Value.type "tuple")=false:=zD
 simp only[h1,h2,h3,Bool.or_false,Bool.false_eq_true,if_false]
 refine zd (W.self 0 _ _ _ ⟨ZD _,by simpa using a,b⟩ ?_)
 refine zd (ZH (Ex a b hz λbb tk=>?_))
 refine wpAny_ite_split (λ_=>?_) (λ_=>zB ⟨plainId_quiet F.plain_extend_loop _,key _ c₀ _ (λb o _ e=>e) hS⟩)
 refine zd (wpAny_rule ?_)
 refine zd ?_
 refine zd (wpAny_updateSeq hS rfl ?_)
 have hS₂:=ZU (Obj.mapSeq (·.push Value.none)) hS rfl
 refine wpAny_updateSeq (hz:=by seq_fits) hS₂ rfl ?_
 have hS₃:=ZU (Obj.mapSeq (·.pop)) hS₂ rfl
 exact zB ⟨plainId_quiet F.plain_extend_loop _,key _ _ _ (λb o hb e=>(zzi _ _ (zza hb)).trans ((zzi _ _ (zza hb)).trans e)) hS₃⟩
theorem C8{Q:Value->Shared->Prop}{I l:Addr}{its:Array Value}(hh:A.handled=none)(a:mP s.heap I l ((its.size:Int)-1))(b:IsTup s.heap l its)(hz:its.size<=1000)
  (hQ:∀h' tk acc' c',(∀b o,b≠I->s.heap.get? b=some o->h'.get? b=some o) ->
   h'.get? s.heap.objs.size=some { cls:=.type "list",dict:=none,data:=.seq acc' c',slots:=#[] }->ItemsOf (λi v=>its[its.size-1-i]?=some v) acc' its.size->Q (.ref s.heap.objs.size) { s with heap:=h',toks:=tk }) :
  wpAny (model P w) A (call (.type "list") [.ref I]) Q E s:=by
 have hne:l≠I:=λe=>by
  obtain⟨o,ho,hc,_⟩:=a
  obtain⟨o2,ho2,hc2,_⟩:=b
  grind
 refine callType_codes (Q₁:=λobj s₁=>obj=.ref s.heap.objs.size/\s₁={ s with heap:=s.heap.push { cls:=.type "list",data:=.seq #[] } }) F.called_list (F.typeCall_list_1 _) F.entry_list_init
  (code_list_new _ ⟨rfl,rfl⟩) λobj s₁ h₁=>?_
 obtain⟨rfl,rfl⟩:=h₁
 have hS:(s.heap.push { cls:=.type "list",data:=.seq #[] }).get? s.heap.objs.size=some { cls:=.type "list",data:=.seq #[] }:=zA _ rfl
 have hI:I<s.heap.objs.size:=let ⟨_,ho,_⟩:=a;zN ho
 have hl:=b.lt
 refine⟨⟨_,hS,rfl⟩,F.args_list_init_2 _ _,?_⟩
 generalize hS0:s.heap.objs.size=S at *
 refine zd ?_
 unfold Builtin.List.listItems
 refine zd (Z8 hS rfl (zB ?_))
 refine zd (wpAny_updateSeq hS rfl ?_)
 have hS₂:=ZU (Obj.mapSeq (λ_=>(#[]:Array Value))) hS rfl
 have yH:∀b o,b≠S->s.heap.get? b=some o->((s.heap.push { cls:=.type "list",data:=.seq #[] }).update S (Obj.mapSeq (λ_=>(#[]:Array Value)))).get? b=some o :=
  λb o hb e=>(zzi _ _ (zza hb)).trans (hps0 _ e)
 refine zd (wpAny_letGo ?_)
 refine w9 (A:=A.in1) hh (a.on (yH I · (zW hI))) (IsTup.on b (yH l · (zW hl))) hne hz S .none _ hS₂ (ZX hI) (ZX hl) λh' tk acc' c' hk hS' hacc=>?_
 exact⟨rfl,hQ h' tk acc' c' (λb o hb e=>hk b o (λz=>by have h9:=zN e;rw[hS0,z]at h9;exact ZG _ h9) hb (yH b o (λz=>by have h9:=zN e;rw[hS0,z]at h9;exact ZG _ h9) e)) hS' hacc⟩
end
section
variable {X:Cx}{EX:cC}{cf:CF}{a:Expr}{a':E}{te:TE}{p p2 p3 pos:Pos}
theorem D1(hc:X.calm=true)(hg:Gl X "list")(hm:X.mg "list"=none)(hg2:Gl X "reversed")(hm2:X.mg "reversed"=none)(ha:PE X a te)(hs:az a=true) :
  PE X (.Call (.Name "list" p) [.Call (.Name "reversed" p2) [a] [] p3] [] pos) (λσ H Q=>te σ H λx H1=>∃l xs,[x]=[.ref l]/\kD X.K true H1 l xs/\xs.length<=1000/\∀q,H1 q=none->Q (.ref q) (aY H1 q (.lst xs.reverse))):=by
 intro pins s σ H Q I h
 refine ZZ (ef I hg hm zzR ?_ (by decide +kernel) (by decide +kernel))
 refine ZC (zzN ?_)
 refine ZZ (ef I hg2 hm2 PyProof.Rows.boot_reversed ?_ (by decide +kernel) (by decide +kernel))
 refine ZC (aW (aM ha bF (au hs _ _) p3 pins s σ H (λvs H1=>∃l xs,vs=[.ref l]/\kD X.K true H1 l xs/\xs.length<=1000/\∀q,H1 q=none->Q (.ref q) (aY H1 q (.lst xs.reverse))) I h) λus s1 ⟨vs,H1,I1,r1,q1⟩=>?_) (au hs _ _) (by rfl)
 obtain⟨l,xs,rfl,hx,hl,q⟩:=q1
 cases r1 with
 |cons r rr =>
  cases rr
  cases r
  obtain⟨its,vs,m⟩:=hx.at_ I1
  have hz:its.toArray.size<=1000:=by have:=vs.length;simp;lia
  refine yz m zL λtk=>?_
  refine Calls.spliced_nil ?_
  refine C8 (I.ok.hd hc) ⟨_,zA _ rfl,rfl,rfl⟩ (IsTup.push m _) hz λh' tk2 acc c hk hS hI=>?_
  have hn:acc.toList=its.reverse:=by
   have e0:its.toArray.size=its.length:=rfl;refine List.ext_getElem? λj=>?_;rw[e0]at hI;by_cases hj:j<its.length;have hj2:j<acc.size:=by rw[hI.1];exact hj
   have:=hI.2 j acc[j] (Array.getElem?_eq_getElem hj2);dsimp only at this;rw[List.getElem?_toArray]at this;rw[List.getElem?_reverse hj,this];simp[hj2];rw[List.getElem?_eq_none (by rw[Array.length_toList,hI.1];lia),List.getElem?_eq_none (by rw[List.length_reverse];lia)]
  have hsz:(s1.heap.push (Qe l ((its.toArray.size:Int)-1))).objs.size=s1.heap.objs.size+1:=Z1 ..
  rw[hsz]at hS ⊢
  refine⟨.ref (s1.heap.objs.size+1),_,I1.laid (o:=.lst xs.reverse) (λb o e=>hk b o (zW (zN e)) (hps0 _ e)) (ZS _) ⟨?_,acc.toList,c,?_,?_⟩,rfl,q _ (I1.hok.fresh (ZS _))⟩
  ·rw[List.length_reverse,Zq];lia
  ·rw[hn];exact qP vs
  ·rw[hS]
theorem Hh(hc:X.calm=true)(hg:Gl X "list")(hm:X.mg "list"=none)(hg2:Gl X "reversed")(hm2:X.mg "reversed"=none)(ha:PE X a (tI X.K EX (af cf a')))(hs:az a=true) :
  PE X (.Call (.Name "list" p) [.Call (.Name "reversed" p2) [a] [] p3] [] pos) (tI X.K EX (af cf (.lrev a'))):=(D1 hc hg hm hg2 hm2 ha hs).sub λτ H Q zq=>by
 obtain⟨ρ,σ,h,re,hr,q⟩:=zq
 rw[af]at q
 refine⟨ρ,σ,h,re,hr,q.bnd.mono λw h1 ρ1 H1 x1 hr1 q1 v r=>?_⟩
 cases w with
 |tup us =>
  dsimp only at q1
  split at q1
  ·obtain⟨l,xs,rfl,hx,rs⟩:=r
   refine⟨l,xs,rfl,hx.sq,by have:=rs.length;lia,λp hp=>q1 _ _ (ext_new hr1 hp) (hr1.ext_new hp) _ ?_⟩
   rw[Rel]
   exact⟨p,xs.reverse,rfl,hr1.new hp,aI,ao.ext (ext_new hr1 hp) _ _ rs.rev⟩
  ·exact q1.elim
 |_=>exact q1.elim
end
theorem fm:∀n i its,its.length=n->(∀(j:Nat) (v:Value),its[j]?=some v->∃t,v=.int (i+(j)) t)->Vals ((List.range n).map λ(k:Nat)=>V.int (i+(k:Int))) its
 |0,i,its,hl,_=>by rw[List.length_eq_zero_iff]at hl;subst hl;exact .nil
 |n+1,i,its,hl,h=>by
  obtain⟨v,r,rfl⟩:=Zj hl;rw[List.range_succ_eq_map,zR,Z7];have ih:=fm n (i+1) r (by simpa using hl) (λj v e=>by
   obtain⟨t,rfl⟩:=h (j+1) v (by simpa using e)
   grind)
  refine .cons (h 0 v rfl) ?_;have e:(List.range n).map ((λ(k:Nat)=>V.int (i+(k:Int))) ∘ Nat.succ)=(List.range n).map λ(k:Nat)=>V.int (i+1+(k:Int)):=zzh λk _=>by grind
  rw[e];exact ih
section
variable {X:Cx}{EX:cC}{cf:CF}{pos:Pos}{a b:Expr}{a' b':E}
theorem yK:bx X (.type "range") (λxs H Q=>∃i j:Int,xs=[.int i,.int j]/\(-(2^62)<=i/\i<2^62/\-(2^62)<=j/\j<2^62)/\∀q,H q=none->Q (.ref q) (aY H q (.rng i j))):=by
 intro pins s σ H xs us Q I r zq9;obtain⟨i,j,e0,hb,q⟩:=zq9;subst e0;cases r with
 |cons r rr=>
  cases rr with
  |cons r' rr=>cases rr;obtain⟨t,rfl⟩:=r;obtain⟨t',rfl⟩:=r';exact call_range_2 ⟨.ref s.heap.objs.size,_,I.laid (o:=.rng i j) (λb o e=>hps0 _ e) (zC _) ⟨_,_,_,zA _ rfl⟩,rfl,q _ I.fresh⟩
theorem tq(hc:X.calm=true):bx X (.type "list") (λxs H Q=>∃p,∃i j:Int,xs=[.ref p]/\H p=some (.rng i j)/\(-(2^62)<=i/\i<2^62/\-(2^62)<=j/\j<2^62)/\(j-i).toNat<=1000/\∀q,H q=none->Q (.ref q) (aY H q (.lst ((List.range (j-i).toNat).map λ(k:Nat)=>V.int (i+(k:Int)))))):=by
 intro pins s σ H xs us Q I r zq9
 obtain⟨p,i,j,e0,hp,hb,hn,q⟩:=zq9
 subst e0
 obtain⟨u,rfl,ru⟩:=r.one
 cases ru
 obtain⟨t,u,v,ho⟩:=I.hok p _ hp
 have hsz:Builtin.Range.rangeSize i j 1=(((j-i).toNat:Nat):Int):=by rw[rangeSize_one];grind
 refine call_list_range (I.ok.hd hc) ho (small_one hb.1 hb.2.1 hb.2.2.1 hb.2.2.2) hsz zL λh' tk acc c hk hS ha=>?_
 refine⟨.ref s.heap.objs.size,_,I.laid (o:=.lst _) hk (zC _) ⟨?_,acc.toList,c,fm _ i acc.toList (by simpa using ha.1) (λk v e=>?_),by simpa using hS⟩,rfl,q _ I.fresh⟩
 ·rw[zj,zzB,Zq];lia
 ·obtain⟨t,rfl⟩:=ha.2 k v (by simpa using e)
  grind
theorem Gy(hc:X.calm=true)(hg:Gl X "list")(hm:X.mg "list"=none)(hg2:Gl X "range")(hm2:X.mg "range"=none)(ha:PE X a (tI X.K EX (af cf a')))(hb:PE X b (tI X.K EX (af cf b')))(hs:az a=true)(hs2:az b=true) :
  PE X (.Call (.Name "list" p) [.Call (.Name "range" p2) [a,b] [] p3] [] pos) (tI X.K EX (af cf (.lrng a' b'))):=by
 have h1:=bR (p:=p2) (pos:=p3) yK hg2 hm2 (by decide +kernel) (aM ha (aM hb bF (au hs2 _ _)) (au hs _ _)) (by decide +kernel) (by decide +kernel) (au hs _ _) (by rw[au hs2];rfl)
 refine(bR (tq hc) hg hm zzR (aM h1 bF (by rfl)) (by decide +kernel) (by decide +kernel) (by rfl) (by rfl)).sub λτ H Q zq=>?_
 obtain⟨ρ,σ,h,re,hr,q⟩:=zq
 rw[af]at q
 refine⟨ρ,σ,h,re,hr,q.bnd.mono λw h1 ρ1 H1 x1 hr1 q1 v r=>?_⟩
 refine⟨ρ1,σ,h1,re.ext x1,hr1,q1.bnd.mono λw2 h2 ρ2 H2 x2 hr2 q2 v2 r2=>?_⟩
 rw[cQ]at q2
 cases w with
 |int i =>
  cases a7 r
  cases w2 with
  |int j =>
   cases a7 r2
   unfold jR at q2
   dsimp only at q2
   split at q2
   ·rename_i ks ek
    split at ek
    ·rename_i hj
     cases ek
     split at q2
     ·rename_i hl
      refine⟨i,j,rfl,hj,λp hp=>⟨p,i,j,rfl,aI,hj,by simpa using hl,λq hq=>?_⟩⟩
      have hr3:=hr2.ext_new (o:=.rng i j) hp
      refine q2 _ _ ((ext_new hr2 hp).trans (ext_new hr3 hq)) (hr3.ext_new hq) _ ?_
      refine⟨q,_,rfl,hr3.new hq,aI,?_⟩
      have:∀(l:List Nat),ao X.K ρ2 (aY (aY H2 p (.rng i j)) q (.lst ((List.range (j-i).toNat).map λ(k:Nat)=>V.int (i+(k:Int))))) (l.map λ(k:Nat)=>W.int (i+(k:Int))) (l.map λ(k:Nat)=>V.int (i+(k:Int))):=λl=>by
       induction l with
       |nil=>exact .nil
       |cons k l ih=>exact .cons bf ih
      exact this _
     ·exact q2.elim
    ·cases ek
   ·exact q2.elim
  |_=>exact q2.elim
 |_=>exact q2.elim
theorem Cz(hp:PassesOwn (model X.prog X.w) X.A X.env X.xe)(hc:X.calm=true)(hi:PI X (.Tuple es x1 ps) it (Hc X.K c (mV X.K EX (bL cf [a']))))(hg:PG X (.Tuple es x1 ps) (kg X.K is))(hb:PSs X bs (dE X.K EX (a9 cf fw bs')))
  (hs:cR it=true):PS X (.For (.Tuple es x1 ps) it bs [] pos) (dE X.K EX (aL cf fw (.for_ is (.seq (.enmE c a')) bs'))) :=
 (lL hp hc hi hg hb (kX hs _)).sub λD τ H zq=>by
  obtain⟨ρ,σ,h,re,hr,q⟩:=zq;rw[aL,af]at q;refine⟨ρ,σ,h,re,hr,?_⟩;rw[bL];cases e1:af cf a' σ h with
  |stuck=>rw[e1]at q;exact q.elim
  |exc c h1=>rw[e1]at q;exact q
  |ok x h1=>
   rw[e1,kA]at q;rw[kA,bL,kA];intro ρ1 H1 x1 hr1 vs rs;cases ex:seqA [] x with
   |none=>rw[ex]at q;exact q.elim
   |some us=>
    rw[ex]at q;obtain⟨v1,rfl,r1⟩:=se rs;obtain⟨p,t1,xs,rfl,rl1,sq1⟩:=ou ex r1;refine⟨p,t1,rfl,⟨xs,sq1 _ _ Ext.refl⟩,?_⟩;have q0 :=q;have q1:=q0.bnd ρ1 H1 x1 hr1;generalize hws:us.mapIdx (λi u=>W.tup [.int (c+(i:Int)),u])=ws at q1;have lw:ws.length=us.length:=by rw[<- hws,Z6]
    refine⟨λi m τ H=>m=ws.length-i/\TX X.K EX ρ1 H1 (fo is (a9 cf fw bs') (ws.drop i)) (kF X.K D) τ H,⟨_,rfl,ρ1,σ,h1,.refl,re.ext x1,hr1,q1⟩,?_⟩;rintro i m τ2 H2 ⟨rfl,ρ2,σ2,h2,x2,re2,hr2,q2⟩;have rl2:=ao.ext x2 _ _ rl1;have l1:=rl2.length;by_cases hlt:i<ws.length;obtain⟨u,eu⟩:∃u,us[i]?=some u:=⟨_,zK zL⟩;obtain⟨xv,hx,rx⟩:=rl2.get eu;have ew:ws[i]?=some (.tup [.int (c+(i:Int)),u]):=by rw[<- hws,ZM,eu];rfl
    refine .inr ⟨⟨xs,xv,sq1 _ _ x2,hx⟩,λτ' H'=>(ws.length-(i+1))=ws.length-(i+1)/\TX X.K EX ρ1 H1 (fo is (a9 cf fw bs') (ws.drop (i+1))) (kF X.K D) τ' H',λτ' H' z=>⟨_,zL,z⟩,λv2 H' zq=>?_⟩;obtain⟨pp,x',hp,e1,e2,f1⟩:=zq;have g1:=f1 xs (sq1 _ _ x2);rw[hx]at g1;cases g1;subst e1 e2;obtain⟨xe,hr3,rw3⟩:=o8 (u:=.int (c+(i:Int))) (x:=.int (c+(i:Int))) hr2 hp bf rx;rw[fA ew]at q2;exact iY (re2.ext xe) hr3 rw3 (RQ.wk xe q2) λτ' H' ρ' σ' h' x re' hr' q'=>⟨rfl,ρ',σ',h',(x2.trans xe).trans x,re',hr',q'⟩;refine .inl ⟨⟨xs,sq1 _ _ x2,zL⟩,?_⟩;rw[zzj zL,fo]at q2;exact RQ.here hr2 q2 _ re2
end
section
variable {X:Cx}{EX:cC}{cf:CF}{fw:Nat}{pos:Pos}{a b c e:Expr}{a' b' c' e':E}
def QS(K:Fg0)(EX:cC):V->Option Int->Option Int->Hp->VK->Prop:=λx lo hi H Q =>
 ∃ρ h w,a8 K ρ h H/\Rel K ρ H w x/\RQ K EX ρ H (FA w lo hi h) λw _ ρ' H'=>∀v,Rel K ρ' H' w v->Q v H'
theorem qe{v:Value}{o:Option Int}(h:IsPart v o):∃p:Option (Int×Tok),v=partValue p/\p.map (·.1)=o:=by
 cases h with
 |none=>exact⟨none,rfl,rfl⟩
 |int i t=>exact⟨some (i,t),rfl,rfl⟩
theorem vK{K:Fg0}{ρ:List Addr}{H:Hp}{ws:List W}{xs:List V}{lo hi:Option Int}(r:ao K ρ H ws xs):ao K ρ H (k8 ws lo hi) (xA xs lo hi):=by unfold k8 xA;rw[r.length];exact(r.drop _).take _
theorem Jb:NR X (QS X.K EX):=by
 intro pins s σ H x v vl vu lo hi sl Q I rx hs pl pu zq17;obtain⟨ρ,h,w,hr,r,q⟩:=zq17;unfold FA at q;split at q;rename_i z;split at q;rename_i hz;cases aG r;obtain⟨t,rfl⟩:=rx;obtain⟨p,rfl,e1⟩:=qe pl;obtain⟨p2,rfl,e2⟩:=qe pu;subst e1 e2;refine⟨"str",_,PySem.F.slot_str_getitem.lookup,PySem.typeIs_str s z t,?_⟩;obtain⟨o,h1,h2,h3⟩:=hs;refine wpAny_getItem_str_slice (l:=p) (u:=p2) (st:=none) ⟨o,h1,h2,h3⟩ rfl ?_;unfold sliceMade;refine post_val_or_str ?_;have ez:(if((Option.map (λx=>x.1) (none:Option (Int×Tok))).getD 1==1&&(slicePicked z p p2 none).length==z.length)=true then z else⟨((slicePicked z p p2 none).filterMap (z.cps[·]?)).toArray⟩)=Txt.slice z (p.map (·.1)) (p2.map (·.1)):=by unfold Txt.slice slicePicked;simp
 rw[ez];refine⟨zf (Txt.slice_le z _ _) (zf hz zD),λt' k=>⟨.str _,H,I.tok k,⟨t',rfl⟩,RQ.here hr q _ gA⟩⟩;exact q.elim;rename_i ws;split at q;exact q.elim;rename_i hw;have r0:=r;rw[Rel]at r;obtain⟨p,xs,rfl,hq,rs⟩:=r;exact Hb pins s σ H _ v vl vu lo hi sl Q I rx hs pl pu ⟨p,xs,rfl,hq.sq,by rw[<- rs.length];exact hw,RQ.tup hr (vK rs) q⟩;split at q;rename_i ws e;obtain⟨p,xs,rfl,hq,rs⟩:=ia hr e r;exact C7 pins s σ H _ v vl vu lo hi sl Q I rx hs pl pu ⟨p,xs,rfl,hq,RQ.lst hr (vK rs) q⟩;exact q.elim
def Ls(K:Fg0)(EX:cC)(ev:ai->aa->Res (Option Int)):L2.TO:=λτ H Q =>
 TR K EX ev (λo _ _ H'=>Q o H') τ H
theorem _root_.L2.PO.sub{X:Cx}{e:Option Expr}{t t':L2.TO}(p:PO X e t)(h:∀τ H Q,t' τ H Q->t τ H Q):PO X e t':=λpins s σ H Q I q=>p pins s σ H Q I (h _ _ _ q)
theorem GQ:PO X none (Ls X.K EX (um cf none)):=ET.sub λτ H Q zq=>by obtain⟨ρ,σ,h,re,hr,q⟩:=zq;rw[um]at q;exact RQ.here hr q
theorem G0(ha:PE X a (tI X.K EX (af cf a'))):PO X (some a) (Ls X.K EX (um cf (some a'))):=(D3 ha).sub λτ H Q zq=>by obtain⟨ρ,σ,h,re,hr,q⟩:=zq;refine⟨ρ,σ,h,re,hr,q.bnd.mono λw h1 ρ1 H1 x1 hr1 q1 v r=>?_⟩;split at q1;rename_i i;exact⟨i,a7 r,RQ.here hr1 q1⟩;exact q1.elim
theorem Oa{lo hi:Option Expr}{lo' hi':Option E}{p2:Pos}(ha:PE X a (tI X.K EX (af cf a')))(hl:PO X lo (Ls X.K EX (um cf lo')))(hu:PO X hi (Ls X.K EX (um cf hi'))) :
  PE X (.Subscript a (.Slice lo hi none p2) pos) (tI X.K EX (af cf (.sl a' lo' hi'))):=(Av Jb ha hl hu).sub λτ H Q zq=>by
 obtain⟨ρ,σ,h,re,hr,q⟩:=zq
 exact⟨ρ,σ,h,re,hr,q.bnd.mono λw h1 ρ1 H1 x1 hr1 q1 v r=>(⟨ρ1,σ,h1,re.ext x1,hr1,q1.bnd.mono λl h2 ρ2 H2 x2 hr2 q2=>(⟨ρ2,σ,h2,(re.ext x1).ext x2,hr2,q2.bnd.mono λu h3 ρ3 H3 x3 hr3 q3=>(⟨ρ3,h3,w,hr3,Rel.ext x3 _ _ (Rel.ext x2 _ _ r),q3⟩)⟩)⟩)⟩
theorem E1(t:Ty){i:Int}{k:Tok}:Answers (λs=>s.TypeIs (.int i k) "int") (.int i k) (.type (aN t)) (decide (t=.int)):=by
 cases t with
 |int=>exact zzZ zzC PySem.F.sub_int_int
 |bool=>exact zz8 (by decide +kernel) zzs PySem.F.sub_int_bool
 |str=>exact zz8 (by decide +kernel) zzD PySem.F.sub_int_str
 |tuple=>exact zz8 (rfl) zzk PySem.F.sub_int_tuple
 |list=>exact zz8 (by decide +kernel) zzt PySem.F.sub_int_list
theorem BM(t:Ty){i:Bool}:Answers (λs=>s.TypeIs (.bool i) "bool") (.bool i) (.type (aN t)) (decide (t=.int)||decide (t=.bool)):=by
 cases t with
 |int=>exact zzZ zzC PySem.F.sub_bool_int
 |bool=>exact zzZ zzs PySem.F.sub_bool_bool
 |str=>exact Answers.of_false_bool (by decide +kernel) zzD PySem.F.sub_bool_str
 |tuple=>exact Answers.of_false_bool (rfl) zzk PySem.F.sub_bool_tuple
 |list=>exact Answers.of_false_bool (by decide +kernel) zzt PySem.F.sub_bool_list
theorem C6(t:Ty){i:Str}{k:Tok}:Answers (λs=>s.TypeIs (.str i k) "str") (.str i k) (.type (aN t)) (decide (t=.str)):=by
 cases t with
 |int=>exact zz9 (by decide +kernel) zzC PySem.F.sub_str_int
 |bool=>exact zz9 (by decide +kernel) zzs PySem.F.sub_str_bool
 |str=>exact zzZ zzD PySem.F.sub_str_str
 |tuple=>exact zz9 (by decide +kernel) zzk PySem.F.sub_str_tuple
 |list=>exact zz9 (by decide +kernel) zzt PySem.F.sub_str_list
theorem mm(t:Ty){p:Addr}:Answers (λs=>s.TypeIs (.ref p) "list") (.ref p) (.type (aN t)) (decide (t=.list)):=by
 cases t with
 |int=>exact zz2 (rfl) zzC PySem.F.sub_list_int
 |bool=>exact zz2 (rfl) zzs PySem.F.sub_list_bool
 |str=>exact zz2 (rfl) zzD PySem.F.sub_list_str
 |tuple=>exact zz2 (rfl) zzk PySem.F.sub_list_tuple
 |list=>exact zzZ zzt PySem.F.sub_list_list
theorem xk(t:Ty){p:Addr}:Answers (λs=>s.TypeIs (.ref p) "tuple") (.ref p) (.type (aN t)) (decide (t=.tuple)):=by
 cases t with
 |int=>exact zzU (rfl) zzC PySem.F.sub_tuple_int
 |bool=>exact zzU (rfl) zzs PySem.F.sub_tuple_bool
 |str=>exact zzU (rfl) zzD PySem.F.sub_tuple_str
 |tuple=>exact zzZ zzk PySem.F.sub_tuple_tuple
 |list=>exact zzU (rfl) zzt PySem.F.sub_tuple_list
theorem vW{P:Shared->Prop}{x:Value}{f:Ty->Bool}(h:∀t,Answers P x (.type (aN t)) (f t)):∀ts:List Ty,AnswersAll P x (ts.map λt=>Value.type (aN t)) (ts.map f)
 |[]=>trivial
 |t::ts=>⟨h t,vW h ts⟩
def fU:List Expr->Option (List Ty)
 |[]=>some []
 |.Name x _::es=>(tyOf' x).bind λt=>(fU es).map (t::·)
 |_=>none
where tyOf' (x:Str):Option Ty:=if x="int" then some .int else if x="bool" then some .bool else if x="str" then some .str else if x="tuple" then some .tuple else if x="list" then some .list else none
theorem AV{x:Str}{t:Ty}(h:fU.tyOf' x=some t):x=Str.ofString (aN t):=by
 unfold fU.tyOf' at h
 repeat' split at h
 all_goals first|(cases h;assumption)|grind
theorem FP(hg:∀t:Ty,Gl X (Str.ofString (aN t))/\X.mg (Str.ofString (aN t))=none):∀{es:List Expr}{ts:List Ty},fU es=some ts->PA X es (λ_ H Q=>Q (ts.map λt=>V.ty (aN t)) H)
 |[],ts,h=>by cases h;exact bF
 |e::es,ts,h=>by
  cases e with
  |Name x p=>
   have h' :=h;obtain⟨t,h1,h2⟩:=obs h';cases h3:fU es with
   |none=>grind
   |some us=>rw[h3]at h2;cases h2;have hx:=AV h1;subst hx;have hty:PE X (.Name (Str.ofString (aN t)) p) (tC (.ty (aN t))):=vF (hg t).1 (hg t).2 (vj t) rfl (by cases t<;>decide +kernel) (by cases t<;>decide +kernel);have ih :=FP hg h3;exact aM hty ih rfl
  |_=>cases h
theorem qp:∀{ts:List Ty}{us:List Value},Vals (ts.map λt=>V.ty (aN t)) us->us=ts.map λt=>Value.type (aN t)
 |[],us,h=>by cases h;rfl
 |t::ts,us,h=>by
  cases h with
  |cons r rs=>have r' :=r;rw[r',qp rs];rfl
theorem qj{h:aa}{w:W}:∀{ts:List Ty}{bs:List Bool}{f:Ty->Bool},(∀t,bz h w t=some (f t))->ts.mapM (bz h w)=some bs->bs=ts.map f
 |[],bs,f,_,e=>by grind
 |t::ts,bs,f,hf,e=>by
  rw[List.mapM_cons,hf t]at e;cases e1:ts.mapM (bz h w) with
  |none=>simp_all
  |some cs=>rw[e1]at e;cases e;rw[qj hf e1];rfl
theorem Al{K:Fg0}{h:aa}{w:W}{ρ:List Addr}{H:Hp}{v:V}{u:Value}{pins:List (Addr×Obj)}{σ:L2.St}{s:Shared}(hK:X.K=K)(hr:a8 K ρ h H)(r:Rel K ρ H w v)(I:Inv X pins σ H s)(rv:RelV v u)(hs:∃t k,bz h w t=some k) :
  ∃f:Ty->Bool,(∀t,bz h w t=some (f t))/\∃Tx,(∀t,Answers (λs=>s.TypeIs u Tx) u (.type (aN t)) (f t))/\s.TypeIs u Tx:=by
 subst hK
 obtain⟨t0,k0,ek⟩:=hs
 cases w with
 |int i=>cases a7 r;obtain⟨t,rfl⟩:=rv;exact⟨_,λ_=>rfl,"int",λt=>E1 t,rfl⟩
 |bl i=>cases bW r;cases rv;exact⟨_,λ_=>rfl,"bool",λt=>BM t,rfl⟩
 |str i=>cases aG r;obtain⟨t,rfl⟩:=rv;exact⟨_,λ_=>rfl,"str",λt=>C6 t,rfl⟩
 |tup ws =>
  rw[Rel]at r
  obtain⟨p,xs,rfl,hq,_⟩:=r
  cases rv
  obtain⟨its,_,ht,_⟩:=I.tuple hq.sq
  exact⟨_,λ_=>rfl,"tuple",λt=>xk t,ht.typeIs⟩
 |lst ws =>
  rw[Rel]at r
  obtain⟨p,xs,rfl,_,hq,_⟩:=r
  cases rv
  obtain⟨its,_,ht,_⟩:=I.list (X:=X) (.inl (.inl hq))
  exact⟨_,λ_=>rfl,"list",λt=>mm t,ht.isList.typeIs⟩
 |scr ws =>
  rw[Rel]at r
  obtain⟨p,xs,rfl,hq,_⟩:=r
  cases rv
  obtain⟨its,_,ht,_⟩:=I.list hq.sq
  exact⟨_,λ_=>rfl,"list",λt=>mm t,ht.isList.typeIs⟩
 |ref n =>
  have ek':(match h[n]? with|some (.lst _)=>some (decide (t0=.list))|_=>none)=some k0:=ek
  split at ek'<;>try (cases ek';done)
  rename_i us e3
  have hsq:i7 h (.ref n)=some us:=by show(match h[n]? with|some (.lst ws)=>some ws|_=>none)=some us;rw[e3]
  obtain⟨p,xs,rfl,hq,_⟩:=ia hr hsq r
  cases rv
  obtain⟨its,_,ht,_⟩:=I.list hq
  exact⟨λt=>decide (t=.list),λt=>by show(match h[n]? with|some (.lst _)=>some (decide (t=Ty.list))|_=>none)=_;rw[e3],"list",λt=>mm t,ht.isList.typeIs⟩
 |_=>cases ek
theorem Il{ts:List Ty}{es:List Expr}{kk:Nat}{p p2:Pos}(hg:Gl X "isinstance")(hm:X.mg "isinstance"=none)(hgt:∀t:Ty,Gl X (Str.ofString (aN t))/\X.mg (Str.ofString (aN t))=none)
  (ha:PE X a (tI X.K EX (af cf a'))) (hs:az a=true) (ht:fU es=some ts) (hne:ts≠[]) (hlen:ts.length<=100) :
  PE X (.Call (.Name "isinstance" p) [a,.Tuple es kk p2] [] pos) (tI X.K EX (af cf (.isi a' ts))):=by
 intro pins s τ H Q I zq6
 obtain⟨ρ,σ,h,re,hr,q⟩:=zq6
 rw[af]at q
 refine ZZ (ef I hg hm zzX ?_ (by decide +kernel) (by decide +kernel))
 refine PyProof.Rows.callWith_builtin1 ?_ (au hs _ _) (by rfl)
 have hstar:starEach [a,.Tuple es kk p2] X.env=(false,eval a X.env)::(false,eval (.Tuple es kk p2) X.env)::[]:=by rw[au hs];rfl
 rw[hstar]
 show wpAny _ _ (spliced ((false,eval a X.env)::backTo pos [(false,eval (.Tuple es kk p2) X.env)])) _ _ s
 refine zzN (aW (ha pins s τ H (λx H1=>∃ρ1 h1 w1,a8 X.K ρ1 h1 H1/\Rel X.K ρ1 H1 w1 x/\RQ X.K EX ρ1 H1 (match ts.mapM (bz h1 w1) with
   |some bs=>fH (bs.any id) h1
   |none=>.stuck) λw _ ρ' H'=>∀v,Rel X.K ρ' H' w v->Q v H') I ⟨ρ,σ,h,re,hr,q.bnd.mono λw1 h1 ρ1 H1 x1 hr1 q1 v r=>⟨ρ1,h1,w1,hr1,r,q1⟩⟩) λu s1 zq=>?_)
 obtain⟨x,H1,I1,r1,ρ1,h1,w1,hr1,rw1,q1⟩:=zq
 refine aW (Q:=λus s2=>∃p,us=[Value.ref p]/\Inv X pins τ H1 s2/\s2.heap.get? p=some { cls:=.type "tuple",data:=.seq (ts.map λt=>Value.type (aN t)).toArray }) ?_ λus s2 ⟨p,e1,I2,hp⟩=>?_
 ·show wpAny _ _ (spliced ((false,eval (.Tuple es kk p2) X.env)::[])) _ _ s1
  refine zzN (wpAny_Tuple_spliced (aW (FP hgt ht p2 pins s1 τ H1 (λvs H'=>vs=ts.map (λt=>V.ty (aN t))/\H'=H1) I1 ⟨rfl,rfl⟩) λus s2 zq=>?_))
  obtain⟨xs,H2,I2,r2,e1,e2⟩:=zq
  subst e1 e2
  have e3:=qp r2
  subst e3
  refine⟨zf ?_ (zC sizeLine),?_⟩
  ·rw[zj]
   exact zf hlen zD
  ·refine zB ⟨s2.heap.objs.size,rfl,I2.kept (t':=s2.toks) λb o e=>hps0 _ e,zA _ rfl⟩
 ·subst e1
  cases em:ts.mapM (bz h1 w1) with
  |none=>rw[em]at q1;exact q1.elim
  |some bs =>
   rw[em]at q1
   have hs0:∃t k,bz h1 w1 t=some k:=by
    cases ts with
    |nil=>exact absurd rfl hne
    |cons t ts=>
     rw[List.mapM_cons]at em;cases ek:bz h1 w1 t with
     |none=>rw[ek]at em;cases em
     |some k=>exact⟨t,k,ek⟩
   obtain⟨f,hf,Tx,hans,hty⟩:=Al rfl hr1 rw1 I2 r1 hs0
   have eb:=qj hf em
   subst eb
   exact PySem.IsiPair.tupleOf (vW hans ts) hty hp λtk=>⟨.bl _,H1,I2.tok tk,rfl,RQ.here hr1 q1 _ bA⟩
end
section
variable {X:Cx}
variable {EX:cC}{cf:CF}{pos apos:Pos}{a e:Expr}{a' e':E}
end
inductive Gk where
 |fn (n np:Nat)|con (w:W)|cls (c:Nat)|mth (n np:Nat)|ctor (n np:Nat)|bas
structure Cc where
 N:List Str
 sc:Scope
 G:List (Str×Gk)
 mu:List Str
 top:Bool:=true
noncomputable def bltNames:List Str:=["isinstance","len","list","tuple","max","min","int","bool","str","range","sorted","dict","set","all","any","zip","enumerate","reversed","ValueError"]
noncomputable def lU(x:Str):Option Bl:=if x="len" then some .len else if x="list" then some .list else if x="tuple" then some .tuple else if x="max" then some .max else if x="min" then some .min else if x="int" then some .int else if x="sorted" then some .sorted else if x="dict" then some .dict else if x="all" then some .all else if x="any" then some .any else none
theorem AZ{x:Str}{b:Bl}(h:lU x=some b):x=lj b:=by
 unfold lU at h
 repeat' split at h
 all_goals first|(cases h;assumption)|cases h
noncomputable def Jr(x:Str):Option Ty:=if x="int" then some .int else if x="bool" then some .bool else if x="str" then some .str else if x="tuple" then some .tuple else if x="list" then some .list else none
theorem Cr{x:Str}{t:Ty}(h:Jr x=some t):x=Str.ofString (aN t):=by
 unfold Jr at h
 repeat' split at h
 all_goals first|(cases h;assumption)|simp_all
def KJ(N:List Str)(x:Str):Option Nat:=N.findIdx? λy=>decide (y=x)
theorem xZ{N:List Str}{x:Str}{i:Nat}(h:KJ N x=some i):N[i]?=some x:=by obtain⟨h1,h2,_⟩:=List.findIdx?_eq_some_iff_getElem.mp h;simp_all
def Cc.glo(C:Cc)(x:Str):Bool:=decide (C.sc.names.lookup x=some .globalImplicit)
def Cc.loc(C:Cc)(x:Str):Bool:=decide (C.sc.names.lookup x=some .local)
def Cc.vis(C:Cc)(x:Str):Bool:=decide (C.sc.names.lookup x=some .local)||decide (C.sc.names.lookup x=some .cell)
def Cc.sto(C:Cc)(x:Str):Bool:=decide (C.sc.names.lookup x=some .local)||(C.top&&decide (C.sc.names.lookup x=some .cell))
def bM(x:Str):Bool:=!(x==("__debug__":Str))&&!(x==("__classdict__":Str))
def Jx(e:Expr):List Str:=match e with
 |.Name x _=>[x]
 |_=>[]
def mJ(tg:Expr):List Str:=".0"::(match tg with
 |.Name x _=>[x]
 |.Tuple es _ _=>es.flatMap Jx
 |_=>[])
def ju(N own:List Str):List Str:=(own.drop 1).filter λx=>!N.contains x
def Cc.blk(C:Cc)(sc:Scope)(own:List Str):Cc:=⟨C.N++ju C.N own,i8 sc C.sc,C.G,[],false⟩
noncomputable def Bq(C:Cc)(sc:Scope)(own:List Str)(is:List Nat):Bool:=decide (sc.kind=.function)&&sc.names.all (λy=>decide (y.2≠.cell))&&sc.names.all (λy=>decide (y.2≠.free\/C.sc.names.lookup y.1=some .cell))
 && sc.names.all (λy=>decide (y.2≠.local\/(sc.names.lookup y.1=some .local/\y.1∈own)))&&decide (C.N++ju C.N own).Nodup&&own.all (λx=>match KJ C.N x with
  |some i=>is.contains i
  |none=>true)
noncomputable def BH(is:List Nat)(n:Nat)(src:It)(ifs':List E)(elt':E):E:=match src with
 |.seq a=>.compS is n a ifs' elt'
 |.rng es=>.compR is n es ifs' elt'
 |.rng2 _ _ _=>.dic0
noncomputable def yW(n:Str):Option (Nat×Nat):=if n="deed" then some (0,0) else if n="part_list" then some (0,1) else if n="follows" then some (0,2) else if n="dead" then some (0,3) else if n="names" then some (1,0) else if n="standings" then some (1,1) else none
theorem Bx{n:Str}{p:Nat×Nat}(h:yW n=some p):(aO p.1)[p.2]?=some n:=by
 unfold yW at h
 repeat' split at h
 all_goals first|(cases h;subst_vars;rfl)|cases h
def Cc.isCl(C:Cc)(c:Nat):Bool:=match C.G.lookup (eP c) with
 |some (.ctor _ _)=>true
 |_=>false
def Hx(K:Fg0)(mg:Str->Option Value)(base:Heap)(C:Addr)(bm:List Value)(z:Str):Prop:=∃J bj,mg z=some (.ref J)/\Eo base J bj/\(Value.ref C::bm).contains (.ref J)=true/\Dw K C bm
structure Ox (X Y:Cx):Prop where
 prog:Y.prog=X.prog
 w:Y.w=X.w
 K:Y.K=X.K
 mg:Y.mg=X.mg
 base:Y.base=X.base
 A:Y.A=X.A
structure eL (cl:Nat->Addr) (X:Cx) (EX:cC) (cf:CF) (C:Cc):Prop where
 N:X.N=C.N
 nd:C.N.Nodup
 sc:X.env.scope=C.sc
 kind:C.sc.kind=.function
 calm:X.calm=true
 room:X.A.units+64<cLine
 own:PassesOwn (model X.prog X.w) X.A X.env X.xe
 fn:C.top=true->∀x,X.fn x=true
 con:∀x w,C.G.lookup x=some (.con w)->∃u v,X.mg x=some u/\RelV v u/\∀ρ H,Rel X.K ρ H w v
 call:∀(Y:Cx) (EY:cC),Ox X Y->XL cl Y EY->∀x f np,C.G.lookup x=some (.fn f np)->Gl Y x->(x==("__debug__":Str))=false->∀(p pos:Pos) (e:Expr) (es:List Expr) (es':List E),(e::es).all az=true->(e::es).length=np->es'.length=np->PA Y (e::es) (mV Y.K EY (bL cf es')) ->
  PE Y (.Call (.Name x p) (e::es) [] pos) (tI Y.K EY (af cf (.call f es')))/\PE Y (.Call (.Name x p) (e::es) [] pos) (tI Y.K EY (af cf (.call (f+1000) es')))
 ctor:∀(Y:Cx) (EY:cC),Ox X Y->XL cl Y EY->∀x f np,C.G.lookup x=some (.ctor f np)->Gl Y x->(x==("__debug__":Str))=false->∀(p pos:Pos) (e:Expr) (es:List Expr) (es':List E),(e::es).all az=true->es'.length+1=np->PA Y (e::es) (mV Y.K EY (bL cf es')) ->
  PE Y (.Call (.Name x p) (e::es) [] pos) (tI Y.K EY (af cf (.call (f+2000) es')))
 mth:∀(Y:Cx) (EY:cC),Ox X Y->XL cl Y EY->∀m f np,C.G.lookup m=some (.mth f np)->∀(x:Str) (p ap pos:Pos) (a':E) (es:List Expr) (es':List E),ap.endLine=pos.line->es.length<30->es.all az=true->es'.length+1=np->PE Y (.Name x p) (tI Y.K EY (af cf a'))->es'.length=es.length->PA Y es (mV Y.K EY (bL cf es')) ->
  PE Y (.Call (.Attribute (.Name x p) m ap) es [] pos) (tI Y.K EY (af cf (.mth f a' es')))
 ocl:∀c f np,C.G.lookup (eP c)=some (.ctor f np)->∃Ca,mS X.K c Ca
 nob:∀x,x∈bltNames->C.G.lookup x=none->X.mg x=none
 xl:XL cl X EX
 cls:∀x c,C.G.lookup x=some (.cls c)->X.mg x=some (.ref (cl c))/\∃bm,Eo X.base (cl c) bm/\(∀y d,C.G.lookup y=some (.cls d)->(Value.ref (cl c)::bm).contains (.ref (cl d))=decide (c=d))/\∀z,C.G.lookup z=some .bas->Hx X.K X.mg X.base (cl c) bm z
section
variable {X:Cx}{EX:cC}{cf:CF}{C:Cc}{cl:Nat->Addr}
theorem eL.gl(H:eL cl X EX cf C){x:Str}(h:C.glo x=true):Gl X x:=by unfold Gl Env.kindOf;rw[H.sc];exact Zd h
theorem eL.ndX(H:eL cl X EX cf C):X.N.Nodup:=by rw[H.N];exact H.nd
theorem eL.ix(H:eL cl X EX cf C){i:Nat}{x:Str}(h:C.N[i]?=some x):X.N[i]?=some x:=by rw[H.N];lia
def Cc.bl(C:Cc)(x:Str):Bool:=C.glo x&&(C.G.lookup x).isNone&&decide (x∈bltNames)
theorem eL.bl(H:eL cl X EX cf C){x:Str}(h:C.bl x=true):Gl X x/\X.mg x=none:=by unfold Cc.bl at h;rw[zI,zI]at h;exact⟨H.gl h.1.1,H.nob _ (Zd h.2) (Option.isNone_iff_eq_none.mp h.1.2)⟩
theorem aX(H:eL cl X EX cf C){x:Str}(h:C.sto x=true):sR X.env.scope x/\(X.fn x=true\/X.env.scope.names.lookup x=some .local):=by unfold Cc.sto at h;rw[zzw,zI]at h;rw[H.sc];rcases h with h|h;exact⟨.inl (Zd h),.inr (Zd h)⟩;exact⟨.inr (Zd h.2),.inl (H.fn h.1 x)⟩
theorem gg(H:eL cl X EX cf C){x:Str}(h:C.vis x=true):uX X.env.scope x:=by unfold Cc.vis at h;rw[zzw]at h;rw[H.sc];rcases h with h|h;exact .inl (Zd h);exact .inr (.inl (Zd h))
theorem aD{x:Str}(h:bM x=true):(x==("__debug__"))=false/\(x==("__classdict__"))=false:=by unfold bM at h;simp_all
theorem eL.cla(H:eL cl X EX cf C){c:Nat}(h:C.isCl c=true):∃Ca,mS X.K c Ca:=by unfold Cc.isCl at h;split at h;rename_i f np e;exact H.ocl c f np e;simp_all
theorem HX(H:eL cl X EX cf C){sc:Scope}{own:List Str}{is:List Nat}(h:Bq C sc own is=true)(cs:List (Str×Addr))(L:Addr)(fp:List Addr)(s:Shared)(H0:Hp) :
  eL cl (blk X (C.N++ju C.N own) sc cs L fp s H0) FX cf (C.blk sc own):=by
 unfold Bq at h
 simp only[zI,Zm]at h
 refine⟨rfl,h.1.2,?_,h.1.1.1.1.1,H.calm,H.room,PassesOwn.never,(λz=>by cases z),H.con,?_,λY EY S hE=>H.ctor Y EY ⟨S.prog,S.w,S.K,S.mg,S.base,S.A⟩ hE,λY EY S hE=>H.mth Y EY ⟨S.prog,S.w,S.K,S.mg,S.base,S.A⟩ hE,H.ocl,H.nob,XL.no (λc h ρ H z=>z),H.cls⟩
 ·show i8 sc X.env.scope=i8 sc C.sc
  rw[H.sc]
 ·intro Y EY S hE
  exact H.call Y EY ⟨S.prog,S.w,S.K,S.mg,S.base,S.A⟩ hE
theorem J4(H:eL cl X EX cf C){sc:Scope}{own:List Str}{is:List Nat}(h0:own.head?=some ".0")(h:Bq C sc own is=true):lB X.env.scope X.N (C.N++ju C.N own) sc own /\
  (C.N++ju C.N own).length=X.N.length+(ju C.N own).length/\∀(i:Nat) (x:Str),X.N[i]?=some x->x∈own->i∈is:=by
 unfold Bq at h
 simp only[zI,Zm,zzn]at h
 obtain⟨⟨⟨⟨⟨h1,h2⟩,h3⟩,h4⟩,h5⟩,h6⟩:=h
 refine⟨⟨h1,h2,λy hy hf=>?_,λy hy hl=>?_,λx hx=>?_,⟨ju C.N own,by rw[H.N]⟩,λi x hi hl=>?_⟩,by rw[H.N,zM],λi x hi hx=>?_⟩
 ·rcases h3 y hy with z|z
  ·exact absurd hf z
  ·rw[H.sc];exact z
 ·rcases h4 y hy with z|z
  ·exact absurd hl z
  ·exact z.1
 ·rcases h4 _ (bU hx) with z|z
  ·exact absurd rfl z
  ·exact z.2
 ·rw[H.N]at hl
  rw[zE hl]at hi
  have hm:=zH hi
  exact List.mem_of_mem_drop (zzb.mp hm).1
 ·have q:=h6 x hx
  rw[H.N]at hi
  cases e:KJ C.N x with
  |none =>
   unfold KJ at e
   rw[List.findIdx?_eq_none_iff]at e
   have:=e x (zH hi)
   simp at this
  |some j =>
   rw[e]at q
   have hj:=xZ e
   have:j=i:=j4 H.nd hj hi
   subst this
   simpa using q
theorem Bb{c':E}(σ:ai)(h:aa):cg cf [c'] σ h=bJ cf c' σ h:=by
 show bnd (jb (af cf c' σ h)) _=jb (af cf c' σ h);cases jb (af cf c' σ h) with
 |ok b h1=>cases b<;>simp[bnd,cg]
 |exc c h1=>rfl
 |stuck=>rfl
theorem MO{c a b:Expr}{c' a' b':E}{pos:Pos}(hc:PT X c (fP X.K EX (bJ cf c')))(ha:PT X a (fP X.K EX (bJ cf a')))(hb:PT X b (fP X.K EX (bJ cf b'))):PT X (.IfExp c a b pos) (fP X.K EX (bJ cf (.ite c' a' b'))):=by
 intro pins s τ H Q I zq6;obtain⟨ρ,σ,h,re,hr,q⟩:=zq6;rw[CI]at q;refine isTrue_IfExp (aW (hc pins s τ H _ I ⟨ρ,σ,h,re,hr,q.bnd.mono λk h1 ρ1 H1 x1 hr1 q1=>(show(if k=true then fP X.K EX (bJ cf a') τ H1 Q else fP X.K EX (bJ cf b') τ H1 Q) from ?_)⟩) λk s1 ⟨H1,I1,q1⟩=>?_);cases k with
 |true=>exact pU ⟨ρ1,σ,h1,re.ext x1,hr1,by simp_all⟩
 |false=>exact qd ⟨ρ1,σ,h1,re.ext x1,hr1,by simpa using q1⟩
 cases k with
 |true=>exact ha pins s1 τ H1 Q I1 (by simpa using q1)
 |false=>exact hb pins s1 τ H1 Q I1 (by simpa using q1)
inductive Kq (X:Cx) (EX:cC) (cf:CF) (elt tg it:Expr) (ifs:List Expr) (sc:Scope) (ce:E):Prop
 |mk (wi:TI) (N' own:List Str) (is:List Nat) (n:Nat) (ifs':List E) (elt':E) (q1:PI X tg it wi) (q2:cR it=true) (q3:lB X.env.scope X.N N' sc own) (q4:N'.length=X.N.length+n) (q5:∀(i:Nat) (x:Str),X.N[i]?=some x->x∈own->i∈is)
  (q6:J3 X cf N' sc tg is ifs ifs' elt elt') (q7:∀τ H Q,tI X.K EX (af cf ce) τ H Q->wi τ H λJ H1=>∀D,H1 D=none->fu D J (kg X.K is) (fP X.K FX (cg cf ifs')) (tI X.K FX (af cf elt')) Q (iO is n τ) H1)
end
section
variable (C:Cc)
structure Ok (e:Expr) (e':E):Prop where
 a:∀{cl X EX cf},eL cl X EX cf C->PE X e (tI X.K EX (af cf e'))
 t:∀{cl X EX cf},eL cl X EX cf C->PT X e (fP X.K EX (bJ cf e'))
 w:∀{cl X EX cf},eL cl X EX cf C->∀op vs p,e=.BoolOp op vs p->PW X e (fP X.K EX (bJ cf e'))
structure Rv (es:List Expr) (es':List E):Prop where
 a:∀{cl X EX cf},eL cl X EX cf C->PA X es (mV X.K EX (bL cf es'))
 s:es.all az=true
 l:es'.length=es.length
def QI(o:Option Expr)(o':Option E):Prop:=∀{cl X EX cf},eL cl X EX cf C->PO X o (Ls X.K EX (um cf o'))
def Ro(e:Expr)(is:List Nat):Prop:=∀{cl X EX cf},eL cl X EX cf C->PG X e (kg X.K is)
def SK(tg it:Expr)(src:It):Prop:=∀{cl X EX cf},eL cl X EX cf C->∀is n ifs' elt',∃wi,PI X tg it wi/\cR it=true/\∀τ H Q,tI X.K EX (af cf (BH is n src ifs' elt')) τ H Q->wi τ H λJ H1=>∀D,H1 D=none->fu D J (kg X.K is) (fP X.K FX (cg cf ifs')) (tI X.K FX (af cf elt')) Q (iO is n τ) H1
def R4(elt tg it:Expr)(ifs:List Expr)(sc:Scope)(ce:E):Prop:=∀{cl X EX cf},eL cl X EX cf C->Kq X EX cf elt tg it ifs sc ce
abbrev CE(e:Expr):=Option {e':E // Ok C e e'}
end
section
variable {C:Cc}
noncomputable def pl{e:Expr}(e':E)(h:∀{cl X EX cf},eL cl X EX cf C->PE X e (tI X.K EX (af cf e')))(hp:t9 e=true:=by rfl):CE C e:=some ⟨e',h,λH=>DN (h H) hp,λH op vs p z=>by subst z;cases hp⟩
def ox{α:Type}:(o:Option α)->Option {a:α // o=some a}
 |some a=>some ⟨a,rfl⟩
 |none=>none
def ix(N:List Str)(x:Str):Option {i:Nat // N[i]?=some x}:=(ox (KJ N x)).bind λi=>some ⟨i.1,xZ i.2⟩
def lk(x:Str):Option {k:Gk // C.G.lookup x=some k}:=ox (C.G.lookup x)
variable (f:∀e,CE C e)
noncomputable def cL:(es:List Expr)->Option {es':List E // Rv C es es'}
 |[]=>some ⟨[],λ_=>nY,rfl,rfl⟩
 |e::es=>(f e).bind λa=>(cL es).bind λas=>if h:az e then some ⟨a.1::as.1,λH=>gG (a.2.a H) (as.2.a H) h,by rw[ZO,h,as.2.s];rfl,by simp[as.2.l]⟩ else none
noncomputable def y0:(es:List Expr)->Option {is:List Nat // (∀{cl X EX cf},eL cl X EX cf C->PGs X es (LM X.K is))/\es.all aP=true/\es.length=is.length}
 |[]=>some ⟨[],λ_=>Jn,rfl,rfl⟩
 |.Name x p::es=>(ix C.N x).bind λi=>(y0 es).bind λis=>if h:C.sto x then some ⟨i.1::is.1,λH=>DV H.ndX (H.ix i.2) (aX H h).1 (aX H h).2 (is.2.1 H),by rw[ZO,is.2.2.1];rfl,by simp[is.2.2.2]⟩ else none
 |_::_=>none
noncomputable def OG:(e:Expr)->Option {is:List Nat // Ro C e is}
 |.Name x p=>(ix C.N x).bind λi=>if h:C.sto x then some ⟨[i.1],λH=>Gr H.ndX (H.ix i.2) (aX H h).1 (aX H h).2⟩ else none
 |.Tuple es k p=>(y0 es).bind λis=>if h:is.1.length=1 then none else some ⟨is.1,λH=>Mo H.calm (is.2.1 H) is.2.2.1 is.2.2.2 h⟩
 |_=>none
noncomputable def cO:(o:Option Expr)->Option {o':Option E // QI C o o'}
 |none=>some ⟨none,λ_=>GQ⟩
 |some l=>(f l).bind λl'=>some ⟨some l'.1,λH=>G0 (l'.2.a H)⟩
noncomputable def Pp:(ifs:List Expr)->Option {ifs':List E // ∀{cl X EX cf},eL cl X EX cf C->Lj X ifs (fP X.K EX (cg cf ifs'))}
 |[]=>some ⟨[],λ_ pins s σ H Q I ⟨ρ,σ',h,re,hr,q⟩=>Fb pins s σ H Q I (by rw[cg]at q;exact RQ.here hr q)⟩
 |[c]=>(f c).bind λc'=>some ⟨[c'.1],λH pins s σ h Q I ⟨ρ,σ',h',re,hr,q⟩=>Ff (c'.2.t H) pins s σ h Q I ⟨ρ,σ',h',re,hr,by rw[Bb]at q;exact q⟩⟩
 |_=>none
noncomputable def ON(tg it:Expr):Option {src:It // SK C tg it src}:=match it with
 |.Call (.Name x p) [a] ks p2=>(f a).bind λa'=>if ha:az a then(match ks with
  |[]=>if h:x="range"/\C.bl "range" then some ⟨.rng [a'.1],λH is n ifs' elt'=>⟨_,by rw[h.1];exact nS (H.bl h.2).1 (H.bl h.2).2 (gG (a'.2.a H) nY ha) (au ha _ _),rfl,Jj⟩⟩
   else(f (.Call (.Name x p) [a] [] p2)).bind λc'=>some ⟨.seq c'.1,λH is n ifs' elt'=>⟨_,Ga (c'.2.a H),rfl,Fq⟩⟩
  |[⟨nm,.Constant (.int i) j kp,kp2⟩]=>(match tg with
   |.Tuple es k tp=>if h:x="enumerate"/\nm=some "start"/\i=1/\C.bl "enumerate" then some ⟨.seq (.enmE 1 a'.1),λH is n ifs' elt'=>⟨_,by rw[h.1,h.2.1,h.2.2.1];exact u6 (H.bl h.2.2.2).1 (H.bl h.2.2.2).2 (gG (a'.2.a H) nY ha) (au ha _ _),rfl,Nx⟩⟩ else none
   |_=>none)
  |_=>none) else none
 |.Call (.Name x p) [a,b] [] p2=>(f a).bind λa'=>(f b).bind λb'=>if hs:az a/\az b then(if h:x="range"/\C.bl "range" then some ⟨.rng [a'.1,b'.1],λH is n ifs' elt'=>⟨_,by rw[h.1];exact nM (H.bl h.2).1 (H.bl h.2).2 (gG (a'.2.a H) (gG (b'.2.a H) nY hs.2) hs.1) (by rw[au hs.1,au hs.2];rfl) (by rw[au hs.2];rfl),rfl,HN⟩⟩
  else match tg with
  |.Tuple es k tp=>if h:x="zip"/\C.bl "zip" then some ⟨.seq (.zipE a'.1 b'.1),λH is n ifs' elt'=>⟨_,by rw[h.1];exact IY (H.bl h.2).1 (H.bl h.2).2 (gG (a'.2.a H) (gG (b'.2.a H) nY hs.2) hs.1) (by rw[au hs.1,au hs.2];rfl) (by rw[au hs.2];rfl),rfl,MP⟩⟩ else none
  |_=>none) else none
 |it=>(f it).bind λa'=>if h:cR it then some ⟨.seq a'.1,λH is n ifs' elt'=>⟨_,Ga (a'.2.a H),h,Fq⟩⟩ else none
theorem BU(tg:Expr):(mJ tg).head?=some ".0":=rfl
noncomputable def KL(g:∀(C:Cc) (e:Expr),CE C e)(elt tg it:Expr)(ifs:List Expr)(sc:Scope):Option {ce:E // R4 C elt tg it ifs sc ce} :=
 (OG (C:=C.blk sc (mJ tg)) tg).bind λis=>(g (C.blk sc (mJ tg)) elt).bind λelt'=>(Pp (g (C.blk sc (mJ tg))) ifs).bind λifs'=>(ON (g C) tg it).bind λsrc =>
  if hb:Bq C sc (mJ tg) is.1 then some ⟨BH is.1 (ju C.N (mJ tg)).length src.1 ifs'.1 elt'.1,λH=>by
   obtain⟨wi,q1,q2,q3⟩:=src.2 H is.1 (ju C.N (mJ tg)).length ifs'.1 elt'.1
   obtain⟨b1,b2,b3⟩:=J4 H (BU tg) hb
   exact⟨wi,_,_,is.1,_,ifs'.1,elt'.1,q1,q2,b1,b2,b3,λcl L fp s H0=>have HB:=HX H hb cl L fp s H0;⟨is.2 HB,ifs'.2 HB,elt'.2.a HB⟩,q3⟩⟩ else none
noncomputable def PM(k:Const)(j:Nat)(p:Pos):CE C (.Constant k j p):=match k with
 |.int i=>pl (.con (.int i)) λ_=>wU
 |.bool b=>pl (.con (.bl b)) λ_=>As
 |.str s=>pl (.con (.str s)) λ_=>xH
 |.none=>pl (.con .non) λ_=>xx
 |_=>none
noncomputable def RW(x:Str)(p:Pos):CE C (.Name x p):=if ho:bM x then(match ix C.N x with
 |some i=>if h:C.vis x then pl (.var i.1) λH=>Lb (H.ix i.2) (gg H h) (aD ho).1 (aD ho).2 else none
 |none=>(lk x).bind λk=>match k with
  |⟨.con w,hw⟩=>if hg:C.glo x then pl (.con w) λH=>let ⟨_,_,h1,h2,h3⟩:=H.con x w hw;Jq (H.gl hg) h1 h2 h3 (aD ho).1 else none
  |_=>none) else none
noncomputable def SD(op:UnaryOp)(a:Expr)(p:Pos):CE C (.UnaryOp op a p):=(f a).bind λa'=>match op with
 |.Not=>some ⟨.not_ a'.1,λH=>KW (a'.2.a H),λH=>Nh (a'.2.t H),λ_ _ _ _ z=>by cases z⟩
 |.USub=>pl (.neg a'.1) λH=>Me (a'.2.a H)
 |_=>none
noncomputable def Pu(a:Expr)(ops:List CmpOp)(bs:List Expr)(p:Pos):CE C (.Compare a ops bs p):=match ops,bs with
 |[op],[b]=>(f a).bind λa'=>(f b).bind λb'=>if hp:kJ b then some ⟨.cmp op a'.1 b'.1,λH=>LH H.room (a'.2.a H) (b'.2.a H) hp,λH=>Mr H.room (a'.2.a H) (b'.2.a H) hp,λ_ _ _ _ z=>by cases z⟩ else none
 |[op,op'],[b,c]=>(f a).bind λa'=>(f b).bind λb'=>(f c).bind λc'=>if hp:lastMarks [op,op'] [b,c]=false then some ⟨.chn op op' a'.1 b'.1 c'.1,λH=>Nv H.room (a'.2.a H) (b'.2.a H) (c'.2.a H) hp,λH=>ME H.room (a'.2.a H) (b'.2.a H) (c'.2.a H) hp,λ_ _ _ _ z=>by cases z⟩ else none
 |_,_=>none
noncomputable def LI(op:BoolOp)(vs:List Expr)(p:Pos):CE C (.BoolOp op vs p):=match vs with
 |[]=>none
 |[a]=>(f a).bind λa'=>some ⟨a'.1,λH=>ID (a'.2.a H),λH=>(BG (a'.2.t H)).pt,λH _ _ _ z=>by cases z;exact BG (a'.2.t H)⟩
 |a::b::r=>(f a).bind λa'=>(f (.BoolOp op (b::r) p)).bind λb'=>match op,b' with
  |.And,b'=>some ⟨.and_ a'.1 b'.1,λH=>K6 (a'.2.a H) (b'.2.a H),λH=>(FY (a'.2.t H) (b'.2.w H _ _ _ rfl)).pt,λH _ _ _ z=>by cases z;exact FY (a'.2.t H) (b'.2.w H _ _ _ rfl)⟩
  |.Or,b'=>some ⟨.or_ a'.1 b'.1,λH=>P5 (a'.2.a H) (b'.2.a H),λH=>(MA (a'.2.t H) (b'.2.w H _ _ _ rfl)).pt,λH _ _ _ z=>by cases z;exact MA (a'.2.t H) (b'.2.w H _ _ _ rfl)⟩
noncomputable def OA(a b:Expr)(p:Pos):CE C (.Subscript a b p):=(f a).bind λa'=>match b with
 |.Slice lo hi none p2=>(cO f lo).bind λlo'=>(cO f hi).bind λhi'=>pl (.sl a'.1 lo'.1 hi'.1) λH=>Oa (a'.2.a H) (lo'.2 H) (hi'.2 H)
 |b=>(f b).bind λb'=>if hp:iz b then pl (.ix a'.1 b'.1) λH=>Oi H.room (a'.2.a H) (b'.2.a H) hp else none
noncomputable def OT(a:Expr)(n:Str)(p:Pos):CE C (.Attribute a n p):=match hq:yW n with
 |some q=>(f a).bind λa'=>if h:C.isCl q.1/\eO a then pl (.fld q.1 q.2 a'.1) λH=>let ⟨_,O⟩:=H.cla h.1;M7 O (Bx hq) (a'.2.a H) h.2 else none
 |none=>none
noncomputable def Ou(a t:Expr)(p1 p:Pos):CE C (.Call (.Name "isinstance" p1) [a,t] [] p):=(f a).bind λa'=>if h:az a/\C.bl "isinstance" then(match t with
 |.Name t p2=>(match ht:Jr t with
  |some ty=>if h2:C.bl t then pl (.isi a'.1 [ty]) λH=>by
   have ht:=Cr ht
   subst ht
   exact Mm (H.bl h.2).1 (H.bl h.2).2 (H.bl h2).1 (H.bl h2).2 (a'.2.a H) h.1 else none
  |none=>none)
 |.Tuple ts k p2=>(match ht:fU ts with
  |some tys=>if h2:tys≠[]/\tys.length<=100/\C.bl "int"/\C.bl "bool"/\C.bl "str"/\C.bl "tuple"/\C.bl "list" then pl (.isi a'.1 tys) λH=>Il (H.bl h.2).1 (H.bl h.2).2 (λt=>by obtain⟨_,_,b1,b2,b3,b4,b5⟩:=h2;cases t<;>first|exact H.bl b1|exact H.bl b2|exact H.bl b3|exact H.bl b4|exact H.bl b5) (a'.2.a H) h.1 ht h2.1 h2.2.1 else none
  |none=>none)
 |_=>none) else none
noncomputable def vL(x:Str)(p:Pos)(e:Expr)(es:List Expr)(pos:Pos):CE C (.Call (.Name x p) (e::es) [] pos):=match hb:lU x with
 |some b=>(cL f (e::es)).bind λes'=>if h:C.bl x then pl (.blt b es'.1) λH=>by have hx:=AZ hb;subst hx;exact Lv H.calm (H.bl h).1 (H.bl h).2 (es'.2.a H) es'.2.s else none
 |none=>none
noncomputable def pH(x:Str)(p:Pos)(e:Expr)(es:List Expr)(pos:Pos):CE C (.Call (.Name x p) (e::es) [] pos):=(lk x).bind λk=>(cL f (e::es)).bind λes'=>if h:C.glo x/\bM x then(match k with
 |⟨.fn g np,hg⟩=>if hl:(e::es).length=np then pl (.call g es'.1) λH=>(H.call _ _ ⟨rfl,rfl,rfl,rfl,rfl,rfl⟩ H.xl x g np hg (H.gl h.1) (aD h.2).1 _ _ _ _ _ es'.2.s hl (es'.2.l.trans hl) (es'.2.a H)).1 else none
 |⟨.ctor g np,hg⟩=>if hl:(e::es).length+1=np then pl (.call (g+2000) es'.1) λH=>H.ctor _ _ ⟨rfl,rfl,rfl,rfl,rfl,rfl⟩ H.xl x g np hg (H.gl h.1) (aD h.2).1 _ _ _ _ _ es'.2.s (by rw[es'.2.l];exact hl) (es'.2.a H) else none
 |_=>none) else none
noncomputable def Iq(x:Str)(p:Pos)(e:Expr)(es:List Expr)(pos:Pos):CE C (.Call (.Name x p) (e::es) [] pos):=match es,e with
 |[t],e=>if h:x="isinstance" then(Ou f e t p pos).bind λc=>some ⟨c.1,by rw[h];exact c.2⟩ else if(lU x).isSome then vL f x p e [t] pos else pH f x p e [t] pos
 |[],.Call (.Name y p1) [a] [] p2=>if x="" then none
  else if x="len"/\y="set" then(f a).bind λa'=>if h:x="len"/\y="set"/\C.bl "len"/\C.bl "set"/\az a then pl (.slen a'.1) λH=>by rw[h.1,h.2.1];exact Jy H.calm (H.bl h.2.2.1).1 (H.bl h.2.2.1).2 (H.bl h.2.2.2.1).1 (H.bl h.2.2.2.1).2 (a'.2.a H) h.2.2.2.2 else none
  else if x="list"/\y="reversed" then(f a).bind λa'=>if h:x="list"/\y="reversed"/\C.bl "list"/\C.bl "reversed"/\az a then pl (.lrev a'.1) λH=>by rw[h.1,h.2.1];exact Hh H.calm (H.bl h.2.2.1).1 (H.bl h.2.2.1).2 (H.bl h.2.2.2.1).1 (H.bl h.2.2.2.1).2 (a'.2.a H) h.2.2.2.2 else none
  else if(lU x).isSome then vL f x p (.Call (.Name y p1) [a] [] p2) [] pos else pH f x p (.Call (.Name y p1) [a] [] p2) [] pos
 |[],.Call (.Name y p1) [a,b] [] p2=>if x="list"/\y="range" then(f a).bind λa'=>(f b).bind λb'=>if h:x="list"/\y="range"/\C.bl "list"/\C.bl "range"/\az a/\az b then pl (.lrng a'.1 b'.1) λH=>by rw[h.1,h.2.1];exact Gy H.calm (H.bl h.2.2.1).1 (H.bl h.2.2.1).2 (H.bl h.2.2.2.1).1 (H.bl h.2.2.2.1).2 (a'.2.a H) (b'.2.a H) h.2.2.2.2.1 h.2.2.2.2.2 else none
  else if(lU x).isSome then vL f x p (.Call (.Name y p1) [a,b] [] p2) [] pos else pH f x p (.Call (.Name y p1) [a,b] [] p2) [] pos
 |es,e=>if(lU x).isSome then vL f x p e es pos else pH f x p e es pos
noncomputable def GX(x:Str)(p:Pos)(m:Str)(ap pos:Pos)(es:List Expr):CE C (.Call (.Attribute (.Name x p) m ap) es [] pos):=(lk m).bind λk=>match k with
 |⟨.mth g np,hg⟩=>(f (.Name x p)).bind λa'=>(cL f es).bind λes'=>if h:ap.endLine=pos.line/\es.length+1=np/\es.length<30 then pl (.mth g a'.1 es'.1) λH=>H.mth _ _ ⟨rfl,rfl,rfl,rfl,rfl,rfl⟩ H.xl m g np hg _ _ _ _ _ _ _ h.1 h.2.2 es'.2.s (by rw[es'.2.l];exact h.2.1) (a'.2.a H) es'.2.l (es'.2.a H) else none
 |_=>none
noncomputable def Fu(a:Expr)(m:Str)(ap pos:Pos)(es:List Expr):CE C (.Call (.Attribute a m ap) es [] pos):=(f a).bind λa'=>if h:ap.endLine=pos.line/\eO a then(match es with
 |[b]=>(f b).bind λb'=>if hb:az b then(
   if hm:m="append" then pl (.meth .append a'.1 [b'.1]) λH=>by rw[hm];exact yY (a'.2.a H) (b'.2.a H) hb h.2 h.1
   else if hm:m="extend" then pl (.meth .extend a'.1 [b'.1]) λH=>by rw[hm];exact ya (a'.2.a H) (b'.2.a H) hb h.2 h.1
   else if hm:m="get" then pl (.meth .get a'.1 [b'.1]) λH=>by rw[hm];exact Nq H.room (a'.2.a H) (b'.2.a H) hb h.2 h.1
   else none) else none
 |[]=>if m="" then none
  else if hm:m="pop" then pl (.meth .pop a'.1 []) λH=>by rw[hm];exact Lf (a'.2.a H) h.2 h.1
  else none
 |_=>none) else none
noncomputable def Mp(g:Expr)(es:List Expr)(pos:Pos):CE C (.Call g es [] pos):=match g with
 |.Name x p=>(match es with
  |e::es=>Iq f x p e es pos
  |[]=>none)
 |.Attribute (.Name x p) m ap=>if(C.G.lookup m).isSome then GX f x p m ap pos es else Fu f (.Name x p) m ap pos es
 |.Attribute a m ap=>Fu f a m ap pos es
 |_=>none
end
noncomputable def cE:Nat->(C:Cc)->(e:Expr)->CE C e
 |0,_,_=>none
 |n+1,C,e=>match e with
  |.Constant k j p=>PM k j p
  |.Dict [] [] p=>pl .dic0 λ_=>IM
  |.Name x p=>RW x p
  |.BinOp a op b p=>(cE n C a).bind λa'=>(cE n C b).bind λb'=>pl (.bin op a'.1 b'.1) λH=>Kx (Ip _) (a'.2.a H) (b'.2.a H)
  |.UnaryOp op a p=>SD (cE n C) op a p
  |.Compare a ops bs p=>Pu (cE n C) a ops bs p
  |.BoolOp op vs p=>LI (cE n C) op vs p
  |.IfExp c a b p=>(cE n C c).bind λc'=>(cE n C a).bind λa'=>(cE n C b).bind λb'=>some ⟨.ite c'.1 a'.1 b'.1,λH=>Mn (c'.2.t H) (a'.2.a H) (b'.2.a H),λH=>MO (c'.2.t H) (a'.2.t H) (b'.2.t H),λ_ _ _ _ z=>by cases z⟩
  |.Tuple es k p=>(cL (cE n C) es).bind λes'=>pl (.tup es'.1) λH=>K5 (es'.2.a H)
  |.List es p=>(cL (cE n C) es).bind λes'=>pl (.lst es'.1) λH=>LV (es'.2.a H)
  |.Subscript a b p=>OA (cE n C) a b p
  |.Attribute a x p=>OT (cE n C) a x p
  |.ListComp elt [⟨tg,it,ifs,0⟩] sc p=>(KL (cE n) elt tg it ifs sc).bind λce=>pl ce.1 λH=>let ⟨_,_,_,_,_,_,_,q1,q2,q3,q4,q5,q6,q7⟩:=ce.2 H;yt H.calm q1 q2 q3 q4 q5 q6 q7
  |.Call g es [] p=>Mp (cE n C) g es p
  |_=>none
def Qg(X:Cx):Prop:=X.stack=X.env::X.outer/\X.env.frame=some X.env.locals
section
variable (C:Cc)
def Q3(s:Stmt)(s':S):Prop:=∀{cl X EX cf fw},eL cl X EX cf C->XM cl X EX->Qg X->PS X s (dE X.K EX (aL cf fw s'))
def NA(ss:List Stmt)(ss':List S):Prop:=∀{cl X EX cf fw},eL cl X EX cf C->XM cl X EX->Qg X->PSs X ss (dE X.K EX (a9 cf fw ss'))
def Sf(e:Expr)(e':E):Prop:=∀{cl X EX cf},eL cl X EX cf C->PE X e (tI X.K EX (af cf e'))
def Sq(e:Expr)(e':E):Prop:=∀{cl X EX cf},eL cl X EX cf C->PE X e (CG X.K EX (nV cf e'))
abbrev CS(s:Stmt):=Option {s':S // Q3 C s s'}
end
theorem eL.loc{X:Cx}{EX:cC}{cf:CF}{C:Cc}{cl:Nat->Addr}(H:eL cl X EX cf C){x:Str}(h:C.loc x=true):X.env.scope.names.lookup x=some .local:=by rw[H.sc];exact Zd h
section
variable {C:Cc} (n:Nat)
noncomputable def cF(e:Expr):Option {e':E // Sq C e e'}:=match e with
 |.List es p=>(cL (cE n C) es).bind λes'=>some ⟨.lst es'.1,λH=>Ly (es'.2.a H)⟩
 |.BinOp a .Mult b p=>(cE n C a).bind λa'=>(cE n C b).bind λb'=>some ⟨.bin .Mult a'.1 b'.1,λH=>MM (a'.2.a H) (b'.2.a H)⟩
 |.BinOp a .Add b p=>(cE n C a).bind λa'=>(cE n C b).bind λb'=>some ⟨.bin .Add a'.1 b'.1,λH=>KC (a'.2.a H) (b'.2.a H)⟩
 |.Call (.Name x p) [a] [] p2=>(cE n C a).bind λa'=>if h:x="list"/\C.bl "list"/\az a then some ⟨.blt .list [a'.1],λH=>by rw[h.1];exact Gn (H.bl h.2.1).1 (H.bl h.2.1).2 (a'.2.a H) h.2.2⟩ else none
 |_=>none
noncomputable def xm(e:Expr):Bool:=match e with
 |.List ..=>true
 |.BinOp ..=>true
 |.Call (.Name x _) _ _ _=>decide (x="list")
 |.Subscript _ (.Slice none none (some _) _) _=>true
 |_=>false
def HR(n:Nat)(e:Expr):Option {e':E // Sf C e e'}:=match e with
 |_=>none
noncomputable def pK(C:Cc)(e:Expr):Bool:=match e with
 |.BinOp _ .Add (.List _ _) _=>true
 |.Call (.Name x _) _ _ _=>(match C.G.lookup x with
  |some (.fn _ _)=>true
  |_=>false)
 |_=>false
noncomputable def MU(n:Nat)(x f:Str)(e:Expr)(p3 p4 p5 q1:Pos)(s2:Stmt):Option {d:S // ∀sts ss',NA C sts ss'->NA C (.Assign [.Name x p3] (.Call (.Name f p4) [e] [] p5) q1::s2::sts) (d::ss')}:=match s2 with
 |.Assign [.Subscript (.Name y p6) (.Name k p7) p8] (.Name vn p9) q2=>(ix C.N x).bind λi=>(ix C.N k).bind λki=>(ix C.N vn).bind λv=>(cE n C e).bind λe' =>
  if h:x=y/\f="dict"/\C.mu.contains x=false/\C.sto x/\C.vis x/\bM x/\C.vis k/\bM k/\C.vis vn/\bM vn/\C.bl "dict"/\az e then some ⟨.dupd i.1 e'.1 ki.1 v.1,λsts ss' hss cl X EX cf fw H M K=>by
   obtain⟨rfl,rfl,_,c3,c4,c5,c6,c7,c8,c9,c10,c12⟩:=h
   exact Mv H.room H.ndX (H.ix i.2) (aX H c3).1 (aX H c3).2 (gg H c4) (aD c5) (H.ix ki.2) (gg H c6) (aD c7) (H.ix v.2) (gg H c8) (aD c9) (H.bl c10).1 (H.bl c10).2 (e'.2.a H) c12 (hss H M K)⟩ else none
 |_=>none
noncomputable def NZ(s1 s2:Stmt):Option {d:S // ∀sts ss',NA C sts ss'->NA C (s1::s2::sts) (d::ss')}:=match s1 with
 |.Assign [.Name x p3] (.Call (.Name f p4) [e] [] p5) q1=>MU n x f e p3 p4 p5 q1 s2
 |_=>none
variable (f:∀s,CS C s)
noncomputable def cB:(ss:List Stmt)->Option {ss':List S // NA C ss ss'}
 |[]=>some ⟨[],λ_ _ _=>Fw⟩
 |[s]=>(f s).bind λa=>some ⟨[a.1],λH M K=>BE (a.2 H M K) Fw⟩
 |s::s2::ss=>match NZ n (C:=C) s s2 with
  |some d=>(cB ss).bind λas=>some ⟨d.1::as.1,d.2 _ _ as.2⟩
  |none=>(f s).bind λa=>(cB (s2::ss)).bind λas=>some ⟨a.1::as.1,λH M K=>BE (a.2 H M K) (as.2 H M K)⟩
theorem Ii{X:Cx}{EX:cC}{cf:CF}{fw:Nat}{pos:Pos}:PS X (.Return none pos) (dE X.K EX (aL cf fw (.ret (.con .non)))):=DM.sub λD τ H zq=>by obtain⟨ρ,σ,h,re,hr,q⟩:=zq;exact RQ.here hr q _ l8
noncomputable def QZ(e:Expr):Option {p:Fp // ∀{cl X EX cf},eL cl X EX cf C->PF X e p}:=match e with
 |.FormattedValue (.Name x p1) cv none p2=>if hv:cv=-1 then(if h:C.vis x/\bM x then(ix C.N x).bind λi=>some ⟨.var i.1,λH=>by rw[hv];exact Io (H.ix i.2) (gg H h.1) (aD h.2).1 (aD h.2).2⟩
   else if h:C.glo x/\bM x then(lk (C:=C) x).bind λk=>match k with
    |⟨.con (.int n),hn⟩=>if hz:n.natAbs<10^100 then some ⟨.con,λH=>by
     obtain⟨u,v,hm,r,rr⟩:=H.con x _ hn
     cases a7 (rr [] nowh)
     obtain⟨t,rfl⟩:=r
     rw[hv]
     exact JW (H.gl h.1) hm (aD h.2).1 hz⟩ else none
    |_=>none
   else none)
  else if hv:cv=114/\C.vis x/\bM x then(ix C.N x).bind λi=>some ⟨.rep i.1,λH=>by rw[hv.1];exact IQ (H.ix i.2) (gg H hv.2.1) (aD hv.2.2).1 (aD hv.2.2).2⟩ else none
 |.Constant (.str z) j p=>if hl:z.length<=1000 then some ⟨.lit,λ_=>JJ hl⟩ else none
 |_=>none
noncomputable def Ml:(es:List Expr)->Option {ps:List Fp // ∀{cl X EX cf},eL cl X EX cf C->Kk X es ps}
 |[]=>some ⟨[],λ_=>.nil⟩
 |e::es=>(QZ e).bind λp=>(Ml es).bind λps=>some ⟨p.1::ps.1,λH=>.cons (p.2 H) (ps.2 H)⟩
noncomputable def Im(e:Expr):Option {s':S // ∀pos,Q3 C (.Raise (some e) none pos) s'}:=match e with
 |.Call (.Name x np) [a] [] cp=>(lk x).bind λk=>if h:C.glo x/\bM x/\az a then(match k,a with
  |⟨.cls c,hc⟩,.Constant (.str z) j p=>some ⟨.raise c [],λ_ _ _ _ _ _ H M _=>let ⟨hm,_,O,_⟩:=H.cls x c hc;v9 H.calm (H.gl h.1) hm (aD h.2.1).1 O M En h.2.2⟩
  |⟨.cls c,hc⟩,.JoinedStr (e1::e2::es) p=>(Ml (C:=C) (e1::e2::es)).bind λps=>if hl:(e1::e2::es).length<=20 then some ⟨.raise c ps.1,λ_ _ _ _ _ _ H M _=>let ⟨hm,_,O,_⟩:=H.cls x c hc;v9 H.calm (H.gl h.1) hm (aD h.2.1).1 O M (Ad (ps.2 H) hl) h.2.2⟩ else none
  |_,_=>none) else none
 |_=>none
noncomputable def RB(st:Stmt):Option {hd:Hd // ∀{cl X EX cf},eL cl X EX cf C->∀v E,PS (Cx.hnd X v E) st (Qu X.K hd)}:=match st with
 |.Return (some (.Constant (.str z) j p)) p2=>some ⟨.ret (.str z),λ{_ X _ _} H v E=>(uq (X:=Cx.hnd X v E) lQ).sub λD τ H ⟨c,ρ,h,σ,re,hr,q⟩=>q _ gA⟩
 |.Assign [.Name y p] (.Constant (.str z) j p2) p3=>(ix C.N y).bind λi=>if hc:C.sto y then some ⟨.asg i.1 (.str z),λ{_ X _ _} H v E=>by
  refine(fR (X:=Cx.hnd X v E) H.ndX (H.ix i.2) (aX H hc).1 lQ rfl (aX H hc).2).sub λD τ H' zq=>?_
  obtain⟨c,ρ,h,σ,re,hr,q⟩:=zq
  refine q _ (bE.set (re (σ.map λ_=>none) zS (λk w z=>?_)) i.1 gA)
  rw[Za]at z
  cases e:σ[k]? with
  |none=>rw[e]at z;cases z
  |some o=>rw[e]at z;cases z⟩ else none
 |_=>none
noncomputable def Q6:(hs:List ExceptHandler)->Option {hs':List (Nat×Hd) // (∀{cl X EX cf},eL cl X EX cf C->ny X cl hs hs')/\∀d∈hs'.map (·.1),∃x,C.G.lookup x=some (.cls d)}
 |[]=>some ⟨[],λ_=>.nil,zS⟩
 |hb::hs=>match hb with
  |.ExceptHandler (some (.Name x np)) none [st] pp=>(RB st).bind λhd=>(Q6 hs).bind λps=>(lk x).bind λk=>(match k with
   |⟨.cls d,hk⟩=>if hc:C.glo x/\bM x then some ⟨(d,hd.1)::ps.1,λH=>.cons ⟨x,np,st,pp,rfl,H.gl hc.1,(H.cls x d hk).1,(aD hc.2).1,hd.2 H⟩ (ps.2.1 H),λc hc'=>by
    rcases zV.mp hc' with rfl|hc'
    ·exact⟨x,hk⟩
    ·exact ps.2.2 c hc'⟩ else none
   |_=>none)
  |_=>none
theorem eL.aim{X:Cx}{EX:cC}{cf:CF}{C:Cc}{cl:Nat->Addr}(H:eL cl X EX cf C){pn:List (Addr×Obj)}{xe:Value->Shared->Prop}{EY:cC}(ho:PassesOwn (model X.prog X.w) X.A X.env xe)(hx:XL cl (Cx.aim X pn xe) EY):eL cl (Cx.aim X pn xe) EY cf C :=
 ⟨H.N,H.nd,H.sc,H.kind,H.calm,H.room,ho,H.fn,H.con,λY EY S=>H.call Y EY ⟨S.prog,S.w,S.K,S.mg,S.base,S.A⟩,λY EY S=>H.ctor Y EY ⟨S.prog,S.w,S.K,S.mg,S.base,S.A⟩,λY EY S=>H.mth Y EY ⟨S.prog,S.w,S.K,S.mg,S.base,S.A⟩,H.ocl,H.nob,hx,H.cls⟩
theorem eL.cs{X:Cx}{EX:cC}{cf:CF}{C:Cc}{cl:Nat->Addr}(H:eL cl X EX cf C){cs:List Nat}(q2:∀d∈cs,∃x,C.G.lookup x=some (.cls d)):∀c∈cs,∃bm,Eo X.base (cl c) bm/\∀d∈cs,(Value.ref (cl c)::bm).contains (.ref (cl d))=decide (c=d):=λc hc=>by obtain⟨x,hx⟩:=q2 c hc;obtain⟨_,bm,O,hb⟩:=H.cls x c hx;exact⟨bm,O,λd hd=>let ⟨y,hy⟩:=q2 d hd;hb.1 y d hy⟩
noncomputable def KD(x:Str)(p:Pos)(e:Expr)(pos:Pos):CS C (.Assign [.Name x p] e pos):=(ix C.N x).bind λi=>if hs:C.sto x then(
 if C.mu.contains x then(match e with
  |.Dict [] [] p2=>some ⟨.freshD i.1,λH _ _=>y6 H.ndX (H.ix i.2) (aX H hs).1 (aX H hs).2⟩
  |.Dict [some a] [b] p2=>(cE n C a).bind λa'=>(cE n C b).bind λb'=>some ⟨.freshD1 i.1 a'.1 b'.1,λH _ _=>wL H.ndX (H.ix i.2) (aX H hs).1 (aX H hs).2 (a'.2.a H) (b'.2.a H)⟩
  |e=>if h:cW e then(if xm e then(cF n e).bind λe'=>some ⟨.fresh i.1 e'.1,λH _ _=>EA H.ndX (H.ix i.2) (aX H hs).1 (aX H hs).2 (e'.2 H) h⟩
   else(cE n C e).bind λe'=>some ⟨.asg i.1 e'.1,λH _ _=>F8 H.ndX (H.ix i.2) (aX H hs).1 (aX H hs).2 (e'.2.a H) h⟩) else none)
 else match e with
  |.ListComp elt [⟨tg,it,ifs,0⟩] sc p=>(KL (cE (n-1)) elt tg it ifs sc).bind λce=>some ⟨.asg i.1 ce.1,λH _ _=>let ⟨_,_,_,_,_,_,_,q1,q2,q3,q4,q5,q6,q7⟩:=ce.2 H;Hl H.ndX (H.ix i.2) (aX H hs).1 (aX H hs).2 H.calm q1 q2 q3 q4 q5 q6 q7⟩
  |e=>if h:cW e then(cE n C e).bind λe'=>some ⟨.asg i.1 e'.1,λH _ _=>F8 H.ndX (H.ix i.2) (aX H hs).1 (aX H hs).2 (e'.2.a H) h⟩ else none) else none
noncomputable def OZ(tg e:Expr)(pos:Pos):CS C (.Assign [tg] e pos):=match tg,e with
 |.Name x p,e=>KD n x p e pos
 |.Tuple es k p,e=>(OG (.Tuple es k p)).bind λis=>(cE n C e).bind λe'=>if h:cW e/\AW e/\is.1.length≠1 then some ⟨.unp is.1 e'.1,λH _ _=>KG (is.2 H) h.2.2 (e'.2.a H) h.1 h.2.1⟩ else none
 |.Subscript a b p,e=>(cE n C a).bind λa'=>(cE n C b).bind λb'=>(cE n C e).bind λe'=>if h:cW e/\iz b then some ⟨.setix a'.1 b'.1 e'.1,λH _ _=>DL H.room (a'.2.a H) (b'.2.a H) (e'.2.a H) h.1 h.2⟩ else none
 |_,_=>none
noncomputable def Po(o:Option Expr)(pos:Pos):CS C (.Return o pos):=match o with
 |some e=>if C.mu.contains "return"&&pK C e then(HR n e).bind λe'=>some ⟨.ret e'.1,λH _ _=>yB (e'.2 H)⟩
  else(cE n C e).bind λe'=>some ⟨.ret e'.1,λH _ _=>yB (e'.2.a H)⟩
 |none=>some ⟨.ret (.con .non),λ_ _ _=>Ii⟩
noncomputable def OE(tg a:Expr)(b:List Stmt)(pos:Pos):CS C (.For tg a b [] pos):=(OG (C:=C) tg).bind λis=>(cB n f b).bind λb'=>match a with
 |.Call (.Name x p) [e1] ks p2=>(match ks with
  |[]=>(cE n C e1).bind λe1'=>if h:x="range"/\C.bl "range"/\az e1 then some ⟨.for_ is.1 (.rng [e1'.1]) b'.1,λH M K=>by rw[h.1];exact HZ H.own H.calm (H.bl h.2.1).1 (H.bl h.2.1).2 (e1'.2.a H) h.2.2 (is.2 H) (b'.2 H M K)⟩
   else(cE n C (.Call (.Name x p) [e1] [] p2)).bind λa'=>some ⟨.for_ is.1 (.seq a'.1) b'.1,λH M K=>Am H.own H.calm (a'.2.a H) (is.2 H) (b'.2 H M K) rfl⟩
  |[⟨nm,.Constant (.int i) j kp,kp2⟩]=>(cE n C e1).bind λe1'=>(match tg,is with
   |.Tuple es k tp,is=>if h:x="enumerate"/\nm=some "start"/\i=1/\C.bl "enumerate"/\az e1 then some ⟨.for_ is.1 (.seq (.enmE 1 e1'.1)) b'.1,λH M K=>by rw[h.1,h.2.1,h.2.2.1];exact Cz H.own H.calm (u6 (H.bl h.2.2.2.1).1 (H.bl h.2.2.2.1).2 (gG (e1'.2.a H) nY h.2.2.2.2) (au h.2.2.2.2 _ _)) (is.2 H) (b'.2 H M K) rfl⟩ else none
   |_,_=>none)
  |_=>none)
 |.Call (.Name x p) [e1,e2] [] p2=>(cE n C e1).bind λe1'=>(cE n C e2).bind λe2'=>if h:x="range"/\C.bl "range"/\az e1/\az e2 then some ⟨.for_ is.1 (.rng [e1'.1,e2'.1]) b'.1,λH M K=>by rw[h.1];exact J1 H.own H.calm (H.bl h.2.1).1 (H.bl h.2.1).2 (e1'.2.a H) (e2'.2.a H) h.2.2.1 h.2.2.2 (is.2 H) (b'.2 H M K)⟩
  else(cE n C (.Call (.Name x p) [e1,e2] [] p2)).bind λa'=>some ⟨.for_ is.1 (.seq a'.1) b'.1,λH M K=>Am H.own H.calm (a'.2.a H) (is.2 H) (b'.2 H M K) rfl⟩
 |.Call (.Name x p) [e1,e2,.Constant (.int st) j p3] [] p2=>(cE n C e1).bind λe1'=>(cE n C e2).bind λe2' =>
  if h:x="range"/\C.bl "range"/\az e1/\az e2/\(st=2\/st=3) then some ⟨.for_ is.1 (.rng2 (decide (st=3)) e1'.1 e2'.1) b'.1,λH M K=>by
   have e:st=g9 (decide (st=3)):=by rcases h.2.2.2.2 with e|e<;>subst e<;>rfl
   rw[h.1,show Expr.Constant (.int st) j p3=.Constant (.int (g9 (decide (st=3)))) j p3 by rw[<- e]]
   exact GW H.own H.calm (H.bl h.2.1).1 (H.bl h.2.1).2 (e1'.2.a H) (e2'.2.a H) h.2.2.1 h.2.2.2.1 (is.2 H) (b'.2 H M K)⟩ else none
 |a=>(cE n C a).bind λa'=>if h:cR a then some ⟨.for_ is.1 (.seq a'.1) b'.1,λH M K=>Am H.own H.calm (a'.2.a H) (is.2 H) (b'.2 H M K) h⟩ else none
def Cc.all(C:Cc):List Nat:=C.G.filterMap λp=>match C.G.lookup p.1 with
 |some (.cls c)=>some c
 |_=>none
theorem Cc.all_mem{C:Cc}{c:Nat}(h:c∈C.all):∃x,C.G.lookup x=some (.cls c):=by
 obtain⟨p,_,hp⟩:=zzM.mp h
 split at hp
 ·grind
 simp_all
structure OX (C:Cc) (cl:Nat->Addr) (X:Cx) (en:Str) (ie:Nat) (pn:List (Addr×Obj)) (ea:Addr) (oe:Obj) (c:Nat) (bm:List Value):Prop where
 hp:(ea,oe)∈pn
 hc:oe.cls=.ref (cl c)
 O:Eo X.base (cl c) bm
 OK:Dw X.K (cl c) bm
 sub:∀y d,C.G.lookup y=some (.cls d)->(Value.ref (cl c)::bm).contains (.ref (cl d))=decide (c=d)
 hg:Gl X "isinstance"/\X.mg "isinstance"=none
 hN:X.N[ie]?=some en
 hv:uX X.env.scope en
 hd:(en==("__debug__":Str))=false/\(en==("__classdict__":Str))=false
def DQ(c:Nat)(ks:List Nat):List Bool:=ks.map λk=>decide (c=k)||k==999
def Nk(C:Cc)(en:Str)(es:List Expr)(ks:List Nat):Prop:=∀{cl X EX cf ie pn ea oe c bm v E},eL cl X EX cf C->OX C cl X en ie pn ea oe c bm->PA (Cx.asx X v pn E) es (wC ie ea (DQ c ks))
noncomputable def HW(en:Str):(es:List Expr)->Option {ks:List Nat // Nk C en es ks}
 |[]=>some ⟨[],λ_ _=>G7⟩
 |e::es=>(HW en es).bind λks=>match e with
  |.Call (.Name f p1) [.Name x p2,.Name d p3] [] pos=>if hf:f="isinstance"/\x=en/\C.glo d then(match hk:C.G.lookup d with
   |some (.cls k)=>if h:bM d/\k<999 then some ⟨k::ks.1,λ{cl X EX cf ie pn ea oe c bm v E} H Y=>by
    obtain⟨m1,bd,OD,_⟩:=H.cls d k hk
    have z:=Na (X:=Cx.asx X v pn E) (pos:=pos) (p1:=p1) (p2:=p2) (p3:=p3) Y.hp Y.hc Y.O Y.OK OD Y.hg.1 Y.hg.2 Y.hN Y.hv Y.hd.1 Y.hd.2 (H.gl hf.2.2) m1 (aD h.1).1
    rw[Y.sub d k hk]at z
    unfold DQ
    rw[hf.1,hf.2.1,zR,show(k==999)=false by rw[zze];lia,Bool.or_false]
    exact Gp z (ks.2 H Y) rfl⟩ else none
   |_=>none) else none
  |_=>none
def K2(C:Cc)(en fn:Str)(ss:List Stmt)(ks:List Nat):Prop:=∀{cl X EX cf ie iF pn ea oe c bm v E},eL cl X EX cf C->OX C cl X en ie pn ea oe c bm->X.N[iF]?=some fn->C.sto fn=true->uX X.env.scope fn->(fn==("__debug__":Str))=false/\(fn==("__classdict__":Str))=false->PSs (Cx.asx X v pn E) ss (GG X.K ie iF ea (DQ c ks))
noncomputable def Qz(en fn:Str):(ss:List Stmt)->Option {ks:List Nat // K2 C en fn ss ks}
 |[]=>some ⟨[],λ_ _ _ _ _ _=>JS⟩
 |s::ss=>(Qz en fn ss).bind λb=>match s with
  |.Assign [.Name x p3] (.BinOp (.Name y p4) .Add (.List es p5) p6) q=>(HW (C:=C) en es).bind λa=>if h:x=fn/\y=fn then some ⟨a.1++b.1,λ{cl X EX cf ie iF pn ea oe c bm v E} H Y hF hs hvF hdF=>by
   obtain⟨rfl,rfl⟩:=h
   unfold DQ
   rw[zY]
   exact EF (Of (X:=Cx.asx X v pn E) H.ndX hF (aX H hs).1 (aX H hs).2 hvF hdF.1 hdF.2 (a.2 H Y)) (b.2 H Y hF hs hvF hdF)⟩ else none
  |_=>none
abbrev Lu(C:Cc)(jn en fn:Str)(ie iF:Nat)(ks:List Nat):Prop:=C.glo jn/\bM jn/\C.loc en/\bM en/\C.sto fn/\C.vis fn/\bM fn/\ie≠iF/\ks.length<=1000/\C.all≠[]/\C.bl "isinstance"
section
variable {X:Cx}{EX:cC}{cf:CF}{cl:Nat->Addr}{jn en fn:Str}{ie iF:Nat}{ka kb:List Nat}{es:List Expr}{ss:List Stmt}
theorem Fe{body:List Stmt}{sx sb:ai->aa->Res Fl}{p2 p3 p4 q hpos pos:Pos}(H:eL cl X EX cf C)(stk:Qg X)(hj:C.G.lookup jn=some .bas)(h:Lu C jn en fn ie iF (ka++kb))(hie:C.N[ie]?=some en)(hiF:C.N[iF]?=some fn)(a:Nk C en es ka)(b:K2 C en fn ss kb)
  (hx:∀σ h,sx σ h=.stuck\/sx σ h=qD (λc k=>decide (c=k)||k==999) iF (ka++kb) C.all sb σ h)
  (hb:∀pn xe EY,PassesOwn (model X.prog X.w) X.A X.env xe->XL cl (Cx.aim X pn xe) EY->PSs (Cx.aim X pn xe) body (dE X.K EY sb)) :
  PS X (.Try body [.ExceptHandler (some (.Name jn p2)) (some en) (.Assign [.Name fn p3] (.List es p4) q::ss) hpos] [] [] pos) (dE X.K EX sx):=by
 obtain⟨c1,c2,c3,c4,c5,c6,c7,c8,c9,c10,c11⟩:=h
 have hle:=H.loc c3
 obtain⟨c0,hc0⟩:=List.exists_mem_of_ne_nil _ c10
 obtain⟨x0,hx0⟩:=Cc.all_mem hc0
 obtain⟨_,bm0,O0,_,hz0⟩:=H.cls x0 c0 hx0
 obtain⟨J,bj,hmJ,OJ,_,_⟩:=hz0 jn hj
 have CT:K0 X cl C.all J:=λc hc=>by obtain⟨x,hx⟩:=Cc.all_mem hc;obtain⟨_,bm,O,hsub,hz⟩:=H.cls x c hx;obtain⟨J2,bj2,hmJ2,_,hJ,OK⟩:=hz jn hj;rw[hmJ]at hmJ2;cases hmJ2;exact⟨bm,O,OK,hJ,λd hd=>let ⟨y,hy⟩:=Cc.all_mem hd;hsub y d hy⟩
 refine GY stk CT OJ (H.gl c1) hmJ (aD c2).1 H.ndX (H.ix hie) hle (H.ix hiF) c8 c9 (λv pn E ea oe c hpn hoe hca=>?_) hx hb
 obtain⟨x,hx⟩:=Cc.all_mem hca
 obtain⟨_,bm,O,hsub,hz⟩:=H.cls x c hx
 obtain⟨_,_,_,_,_,OK⟩:=hz jn hj
 have Y:OX C cl X en ie pn ea oe c bm:=⟨hpn,hoe,O,OK,hsub,H.bl c11,H.ix hie,.inl hle,aD c4⟩
 rw[zY]
 exact Jp (Oh (X:=Cx.asx X v pn E) H.ndX (H.ix hiF) (aX H c5).1 (aX H c5).2 (a H Y)) (b H Y (H.ix hiF) c5 (gg H c6) (aD c7))
end
theorem D2{i:Nat}{cs all:List Nat}{sb:ai->aa->Res Fl}{σ:ai}{h:aa}(h9:(cs.all λk=>k<999)=true):qD (λc k=>decide (c=k)) i cs all sb σ h=qD (λc k=>decide (c=k)||k==999) i cs all sb σ h:=by
 unfold qD;cases sb σ h with
 |exc c h=>dsimp only;rw[zzh λk hk=>show W.bl (decide (c=k))=.bl (decide (c=k)||k==999) by rw[show(k==999)=false by grind,Bool.or_false]]
 |_=>rfl
noncomputable def F9(n:Nat)(sb:List Stmt)(hb:ExceptHandler)(pos:Pos):CS C (.Try sb [hb] [] [] pos):=match hb with
 |.ExceptHandler (some (.Name jn p2)) (some en) (.Assign [.Name fn p3] (.List es p4) q::ss) hpos=>(ix C.N en).bind λie=>(ix C.N fn).bind λiF=>(HW (C:=C) en es).bind λa=>(Qz (C:=C) en fn ss).bind λb=>(lk (C:=C) jn).bind λk =>
  if h:Lu C jn en fn ie.1 iF.1 (a.1++b.1) then(match k,sb with
   |⟨.bas,hj⟩,[.Return (some e) rp]=>if h9:(a.1++b.1).all λk=>k<999 then
    (if C.mu.contains "return"&&pK C e then HR (C:=C) n e else(cE n C e).bind λe'=>some ⟨e'.1,e'.2.a⟩).bind λe'=>some ⟨.tryF e'.1 iF.1 (a.1++b.1) C.all,λH _ stk=>Fe H stk hj h ie.2 iF.2 a.2 b.2 (λσ h=>.inr ((IU σ h).trans (D2 h9))) λpn xe EY ho hx=>tZ (yB (e'.2 (H.aim ho hx))) λD τ H q=>q⟩ else none
   |_,_=>none) else none
 |_=>none
noncomputable def Qi(n:Nat)(b:List Stmt)(hs:List ExceptHandler)(pos:Pos):CS C (.Try b hs [] [] pos):=match b,hs with
 |[.Return (some e) p],h0::hs=>match Q6 (C:=C) (h0::hs) with
  |some hs'=>(if C.mu.contains "return"&&pK C e then HR (C:=C) n e else(cE n C e).bind λe'=>some ⟨e'.1,e'.2.a⟩).bind λe'=>some ⟨.tryR e'.1 hs'.1,λH _ stk=>JI stk (hs'.2.1 H) (H.cs hs'.2.2) λpn xe EY ho hx=>e'.2 (H.aim ho hx)⟩
  |_=>(match hs with
   |[]=>F9 n [.Return (some e) p] h0 pos
   |_=>none)
 |b,[hb]=>F9 n b hb pos
 |_,_=>none
noncomputable def QR(s:Stmt):CS C s:=match s with
 |.Assign [tg] e p=>OZ n tg e p
 |.Expr e p=>match e with
  |.Constant (.str z) j p2=>some ⟨.pass_,λ_ _ _=>M6⟩
  |e=>(cE n C e).bind λe'=>if h:cW e then some ⟨.exp e'.1,λH _ _=>K1 (e'.2.a H) h⟩ else none
 |.Return o p=>Po n o p
 |.If c a b p=>(cE n C c).bind λc'=>(cB n f a).bind λa'=>(cB n f b).bind λb'=>some ⟨.if_ c'.1 a'.1 b'.1,λH M K=>OP (c'.2.t H) (a'.2 H M K) (b'.2 H M K)⟩
 |.While c b [] p=>(cE n C c).bind λc'=>(cB n f b).bind λb'=>some ⟨.while_ c'.1 b'.1,λH M K=>Dc H.own (c'.2.t H) (b'.2 H M K)⟩
 |.For tg a b [] p=>OE n f tg a b p
 |.Raise (some e) none p=>(Im e).bind λs'=>some ⟨s'.1,s'.2 p⟩
 |.Try b hs [] [] p=>Qi n b hs p
 |.Pass p=>some ⟨.pass_,λ_ _ _=>Gs⟩
 |.Break p=>some ⟨.brk,λ_ _ _=>Mh⟩
 |.Continue p=>some ⟨.cnt,λ_ _ _=>KP⟩
 |_=>none
theorem Ks{X:Cx}{EX:cC}{cf:CF}{fw:Nat}{s:Stmt}:PS X s (dE X.K EX (aL cf fw .bad)):=λpins st τ H D I zq=>by obtain⟨ρ,σ,h,re,hr,q⟩:=zq;exact q.elim
end
def cS(C:Cc):Nat->(s:Stmt)->CS C s
 |0,_=>none
 |n+1,s=>some ((QR n (cS C n) s).getD ⟨.bad,λ_ _ _=>Ks⟩)
def ML(C:Cc)(c d:Nat)(ss:List Stmt)(fl:List (Bool×E)):Prop:=d+fl.length=(aO c).length/\∀{cl X EX cf Ca},eL cl X EX cf C->mS X.K c Ca->PSs X ss (wx X.K EX cf c d fl)
noncomputable def K8(C:Cc)(c:Nat):(d:Nat)->(ss:List Stmt)->Option {fl:List (Bool×E) // ML C c d ss fl}
 |d,[]=>if hd:d=(aO c).length then some ⟨[],hd,λ_ _=>by rw[hd];exact Cv⟩ else none
 |d,s::ss=>(K8 C c (d+1) ss).bind λfl=>match s with
  |.Assign [.Attribute (.Name s p4) f p] e pp=>if h:(aO c)[d]?=some f/\C.N[0]?=some s/\C.vis s/\bM s/\cW e then(
   if C.mu.contains f then(cF 60 e).bind λe'=>some ⟨(true,e'.1)::fl.1,by have:=fl.2.1;rw[Zn];lia,λH O=>q8 (bb:=true) O h.1 (H.ix h.2.1) (gg H h.2.2.1) (aD h.2.2.2.1).1 (aD h.2.2.2.1).2 (e'.2 H) h.2.2.2.2 (fl.2.2 H O)⟩
   else(cE 60 C e).bind λe'=>some ⟨(false,e'.1)::fl.1,by have:=fl.2.1;rw[Zn];lia,λH O=>q8 (bb:=false) O h.1 (H.ix h.2.1) (gg H h.2.2.1) (aD h.2.2.2.1).1 (aD h.2.2.2.1).2 (e'.2.a H) h.2.2.2.2 (fl.2.2 H O)⟩) else none
  |_=>none
structure Df where
 x:Str
 st:Stmt
 N:List Str
 ps:List Str
 mu:List Str
 q:Str
 k:Nat
def Df.cc(d:Df)(G:List (Str×Gk)):Cc:=⟨d.N,ay d.st,G,d.mu,true⟩
noncomputable def Df.fn(d:Df)(G:List (Str×Gk)):Option Fn:=if d.k<=1 then(cB 60 (cS (d.cc G) 60) (aS d.st)).bind λb=>some ⟨d.ps.length,d.N.length,b.1,none⟩
 else(K8 (d.cc G) (d.k-2) 0 (aS d.st)).bind λfl=>if d.N=d.ps then some ⟨d.ps.length,d.N.length,[],some (d.k-2,fl.1)⟩ else none
structure Made (ds:List Df) (G:List (Str×Gk)) (tb:List Fn):Prop where
 fn:∀(i:Nat) (d:Df),ds[i]?=some d->∃g,tb[i]?=some g/\d.fn G=some g
 len:tb.length=ds.length/\tb.length<=1000
 gk:∀x f np,G.lookup x=some (.fn f np)->∃d,ds[f]?=some d/\d.k=0/\d.x=x/\d.ps.length=np
 gm:∀x f np,G.lookup x=some (.mth f np)->∃d,ds[f]?=some d/\d.k=1/\d.x=x/\d.ps.length=np
 gc:∀x f np,G.lookup x=some (.ctor f np)->∃d,ds[f]?=some d/\2<=d.k/\eP (d.k-2)=x/\d.ps.length=np
 sc:∀(i:Nat) (d:Df),ds[i]?=some d->fJ d.N d.ps (ay d.st)
def Hq(K:Fg0)(mg:Str->Option Value)(d:Df)(f:Addr):Prop :=
 (d.k=0->mg d.x=some (.ref f))/\(d.k=1->∃C,mS K 1 C/\Meth K C d.x f/\d.x∉aO 1)/\(2<=d.k->∃C,mS K (d.k-2) C/\Mk K C f/\mg (eP (d.k-2))=some (.ref C))
def lZ(K:Fg0)(mg:Str->Option Value)(d:Df):Prop:=∃f fd,HU K d.x d.q d.st f fd/\Hq K mg d f/\∀us:List Value,us.length=d.ps.length->bindArgs fd ⟨us,[]⟩=pure (d.ps.zip us)
structure Laid (K:Fg0) (mg:Str->Option Value) (cl:Nat->Addr) (ds:List Df) (G:List (Str×Gk)):Prop where
 df:∀(i:Nat) (d:Df),ds[i]?=some d->lZ K mg d
 con:∀x w,G.lookup x=some (.con w)->∃u v,mg x=some u/\RelV v u/\∀ρ H,Rel K ρ H w v
 nob:∀x,x∈bltNames->G.lookup x=none->mg x=none
 cls:∀x c,G.lookup x=some (.cls c)->mg x=some (.ref (cl c))/\∃bm,(∀h:Heap,K.In h->Eo h (cl c) bm)/\(∀y d,G.lookup y=some (.cls d)->(Value.ref (cl c)::bm).contains (.ref (cl d))=decide (c=d))/\∀z,G.lookup z=some .bas->∀h:Heap,K.In h->Hx K mg h (cl c) bm z
theorem tV{a b:Nat}(h:eP a=eP b):aO a=aO b:=by
 cases a with
 |zero=>cases b with
  |zero=>rfl
  |succ b=>exact absurd h (by show ¬ ("Standing":Str)=("Register");decide +kernel)
 |succ a=>cases b with
  |zero=>exact absurd h (by show ¬ ("Register":Str)=("Standing");decide +kernel)
  |succ b=>rfl
theorem mS.re{K:Fg0}{a b:Nat}{C:Addr}(O:mS K a C)(h:eP a=eP b):mS K b C:=⟨h▸O.ns,O.cls,tV h▸O.no⟩
def Kr(P:Program)(w:World)(K:Fg0)(mg:Str->Option Value)(base:Heap)(ds:List Df)(tb:List Fn)(fw:Nat)(cl:Nat->Addr)(k:Nat):Prop :=
 ∀(i o:Nat) (d:Df) (f:Addr) (fd:FuncData),(o=i\/o=i+1000)->ds[i]?=some d->d.k<=1->HU K d.x d.q d.st f fd->Binds K fd d.ps []->eF P w K mg base (mL P w) (2*k) f fd d.ps (FU K cl (ae fw tb k) o d.ps.length)
def LR(P:Program)(w:World)(K:Fg0)(mg:Str->Option Value)(base:Heap)(ds:List Df)(tb:List Fn)(fw:Nat)(cl:Nat->Addr)(k:Nat):Prop :=
 ∀(i:Nat) (d:Df) (f C:Addr) (fd:FuncData),ds[i]?=some d->2<=d.k->HU K d.x d.q d.st f fd->mS K (d.k-2) C->Binds K fd d.ps []->eF P w K mg base (mL P w) (2*k) f fd d.ps (OC K cl (ae fw tb k) (i+2000) d.ps.length (d.k-2))
section
variable {P:Program}{w:World}{K:Fg0}{mg:Str->Option Value}{base:Heap}{ds:List Df}{G:List (Str×Gk)}{tb:List Fn}{fw:Nat}{cl:Nat->Addr}
theorem AE(M:Made ds G tb)(L:Laid K mg cl ds G)(kb:K.In base){k:Nat}(hD:Kr P w K mg base ds tb fw cl k)(hI:LR P w K mg base ds tb fw cl k){i:Nat}{d:Df}(hi:ds[i]?=some d)(X:Cx)(EX:cC)
  (e1:X.prog=P) (e2:X.w=w) (e3:X.K=K) (e4:X.mg=mg) (e5:X.base=base) (e6:X.N=d.N) (e7:X.env.scope=ay d.st) (e8:X.calm=true) (e9:X.fn=λ_=>true) (e10:PassesOwn (model X.prog X.w) X.A X.env X.xe) (hX:XL cl X EX) (hr:bX (2*k+1) X.A) :
  eL cl X EX (ae fw tb k) (d.cc G):=by
 subst e1 e2 e3 e4 e5
 have hr0:bX (2*k) X.A:=hr.mono (ZS _)
 refine⟨e6,(M.sc i d hi).nd,e7,(M.sc i d hi).kind,e8,hr.units,e10,λ_ x=>by rw[e9],L.con,?_,?_,?_,?_,L.nob,hX,λx c hx=>?_⟩
 ·rintro Y EY ⟨z1,z2,z3,z4,z5,z6⟩ hE x fn np hx hgl hdb p pos e es es' hs hl hl' ha
  obtain⟨P',w',K',mg',base',A',N',s0',H0',env',outer',stack',ex',fn',calm',pn',xe'⟩:=Y
  dsimp only at z1 z2 z3 z4 z5 z6
  subst z1 z2 z3 z4 z5 z6
  obtain⟨d2,hd2,hk,rfl,rfl⟩:=M.gk x fn np hx
  obtain⟨f2,fd2,F2,hm2,hb2⟩:=L.df fn d2 hd2
  have hk1:d2.k<=1:=by simp_all
  exact⟨yN (hD fn fn d2 f2 fd2 (.inl rfl) hd2 hk1 F2 (.all hb2)) hr0 hgl (hm2.1 hk) F2.kp (.all hb2) hE hdb hs hl hl' ha λσ h ws h' e=>by rw[fO e,hl'],
   yN (hD fn (fn+1000) d2 f2 fd2 (.inr rfl) hd2 hk1 F2 (.all hb2)) hr0 hgl (hm2.1 hk) F2.kp (.all hb2) hE hdb hs hl hl' ha λσ h ws h' e=>by rw[fO e,hl']⟩
 ·rintro Y EY ⟨z1,z2,z3,z4,z5,z6⟩ hE x fn np hx hgl hdb p pos e es es' hs hl' ha
  obtain⟨P',w',K',mg',base',A',N',s0',H0',env',outer',stack',ex',fn',calm',pn',xe'⟩:=Y
  dsimp only at z1 z2 z3 z4 z5 z6
  subst z1 z2 z3 z4 z5 z6
  obtain⟨d2,hd2,hk,rfl,rfl⟩:=M.gc x fn np hx
  obtain⟨f2,fd2,F2,hm2,hb2⟩:=L.df fn d2 hd2
  obtain⟨C2,O2,M2,g2⟩:=hm2.2.2 hk
  exact MZ M2 O2.ns (hI fn d2 f2 C2 fd2 hd2 hk F2 O2 (.all hb2)) hr hgl g2 (.all hb2) hE hdb hs hl' ha
 ·rintro Y EY ⟨z1,z2,z3,z4,z5,z6⟩ hE m fn np hx x p ap pos a' es es' hln hn hs hl' ho hl ha
  obtain⟨P',w',K',mg',base',A',N',s0',H0',env',outer',stack',ex',fn',calm',pn',xe'⟩:=Y
  dsimp only at z1 z2 z3 z4 z5 z6
  subst z1 z2 z3 z4 z5 z6
  obtain⟨d2,hd2,hk,rfl,rfl⟩:=M.gm m fn np hx
  obtain⟨f2,fd2,F2,hm2,hb2⟩:=L.df fn d2 hd2
  obtain⟨C2,O2,M2,g2⟩:=hm2.2.1 hk
  have hk1:d2.k<=1:=zL
  cases es with
  |nil =>
   have e0:es'=[]:=List.eq_nil_of_length_eq_zero hl
   subst e0
   exact Kc O2 g2 hl' hln ho M2 (hD fn fn d2 f2 fd2 (.inl rfl) hd2 hk1 F2 (.all hb2)) hr0 (.all hb2) hE
  |cons e es=>exact Li O2 g2 hl' hln hn ho M2 (hD fn fn d2 f2 fd2 (.inl rfl) hd2 hk1 F2 (.all hb2)) hr0 (.all hb2) hE ha hs
 ·intro c f np hx
  obtain⟨d2,hd2,hk,hc,_⟩:=M.gc _ f np hx
  obtain⟨f2,fd2,F2,hm2,hb2⟩:=L.df f d2 hd2
  obtain⟨C2,O2,M2,g2⟩:=hm2.2.2 hk
  exact⟨C2,O2.re hc⟩
 ·obtain⟨h1,bm,h2,h3,h4⟩:=L.cls x c hx
  exact⟨h1,bm,h2 _ kb,h3,λz hz=>h4 z hz _ kb⟩
theorem DJ(M:Made ds G tb)(L:Laid K mg cl ds G)(kb:K.In base):∀k:Nat,Kr P w K mg base ds tb fw cl k/\LR P w K mg base ds tb fw cl k:=by
 intro k;induction k with
 |zero=>refine⟨λi o d f fd ho hi hk F hb=>?_,λi d f C fd hi hk F O hb=>?_⟩;refine⟨λvs H Q E h=>h.1,λA outer s H args us vs Q E hr e0 hbi hv zq=>?_⟩;obtain⟨_,ρ,h,ws,_,_,q⟩:=zq;exact(show False from q).elim;refine⟨λvs H Q E h=>h.1,λA outer s H args us vs Q E hr e0 hbi hv zq=>?_⟩;obtain⟨_,x,us,dx,C,H1,ρ,h,ws,_,_,_,_,_,_,_,_,q⟩:=zq;exact(show False from q).elim
 |succ k ih=>
  refine⟨λi o d f fd ho hi hk F hb=>?_,λi d f C fd hi hk F O hb=>?_⟩;obtain⟨g,hg,hd⟩:=M.fn i d hi;unfold Df.fn at hd;rw[zF hk]at hd;obtain⟨bd,hbd,hd⟩:=obs hd;cases hd;have run:∀(X:Cx) (EX:cC),X.prog=P->X.w=w->X.K=K->X.mg=mg->X.base=base->X.N=d.N->X.env.scope=ay d.st->X.calm=true->(X.fn=λ_=>true)->PassesOwn (model X.prog X.w) X.A X.env X.xe->(X.stack=X.env::X.outer/\X.env.frame=some X.env.locals)->XL cl X EX->XM cl X EX->bX (2*k+1) X.A->PSs X (aS d.st) (dE K EX (a9 (ae fw tb k) fw bd.1)):=by intro X EX e1 e2 e3 e4 e5 e6 e7 e8 e9 e10 e11 hX hM hr;have H:=AE M L kb ih.1 ih.2 hi X EX e1 e2 e3 e4 e5 e6 e7 e8 e9 e10 hX hr;subst e3;exact bd.2 H hM e11
  rcases ho with rfl|rfl;exact L6 F (M.sc _ d hi) hg rfl rfl run;exact HS F (M.sc i d hi) hg rfl rfl M.len.2 run;obtain⟨g,hg,hd⟩:=M.fn i d hi;unfold Df.fn at hd;rw[zP (Nat.not_le.mpr ‹_›)]at hd;obtain⟨fl,hfl,hd⟩:=obs hd;split at hd;rename_i hN;cases hd;have S:=M.sc i d hi;rw[hN]at S;refine HM (d:=k) F S hg rfl rfl M.len.2 (by have:=fl.2.1;simp_all) λX EX e1 e2 e3 e4 e5 e6 e7 e8 e9 e10 e11 hX hM hr=>?_;have H:=AE M L kb ih.1 ih.2 hi X EX e1 e2 e3 e4 e5 (e6.trans hN.symm) e7 e8 e9 e10 hX hr;subst e3;exact fl.2.2 H O;cases hd
end
def FR(K:Fg0):Sp:=λvs H Q _=>∃(a:Addr) (ns:List Int),vs=[.ref a]/\iT K H a (ns.map V.int)/\ns.length<=63/\∀H',Q (.bl true) H'
theorem mj{K:Fg0}{ρ:List Addr}{H:Hp}:∀ns:List Int,ao K ρ H (ns.map W.int) (ns.map V.int)
 |[]=>.nil
 |n::ns=>.cons bf (mj ns)
theorem GL{P:Program}{w:World}{K:Fg0}{mg:Str->Option Value}{base:Heap}{tb:List Fn}{fw k k2 i:Nat}{f:Addr}{fd:FuncData}{ps:List Str}{cl:Nat->Addr}
  (F:eF P w K mg base (mL P w) k2 f fd ps (FU K cl (ae fw tb k) i 1)) (run:∀ns:List Int,ns.length<=63->ae fw tb k i [.scr (ns.map W.int)] []=.ok (.bl true) []):eF P w K mg base (mL P w) k2 f fd ps (FR K):=by
 refine F.imp λvs H Q E zq=>?_
 obtain⟨a,ns,e,hq,hl,q⟩:=zq
 subst e
 refine⟨rfl,[],[],[.scr (ns.map W.int)],⟨rfl,List.nodup_nil,λn a o e=>by simp at e⟩,.cons ?_ .nil,?_⟩
 ·refine⟨a,ns.map V.int,rfl,?_,mj ns⟩
  rcases hq with hq|hq
  ·exact .inl ⟨zS,hq⟩
  ·exact .inr (.inr hq)
 ·rw[run ns hl]
  intro ρ' H' x hr v r
  cases bW r
  exact q H'
theorem walk{l:PySem.W.OpenLaw}{q:Program}{loose:List Str}{XP:(Str->Option Value)->Heap->Prop}{YP:World->Heap->Prop}{d:DefRec}{K:Params->Fg0}{ds:List Df}{G:List (Str×Gk)}{tb:List Fn}{fw i:Nat}{df:Df}{x:Str}
  (hn:l.most=some 63) (hdf:d.params.defaults=[]) (hY:∀(w:World) (h:Heap),YP w h->(K w.params).In h)
  (M:Made ds G tb) (hi:ds[i]?=some df) (hx:df.x=d.name) (hk:df.k=0) (hp:df.ps=[x])
  (L:∀(w:World) (mg:Str->Option Value) (fa:Addr) (h:Heap),(K w.params).In h->h.Ns mainGlobals mg->mg d.name=some (.ref fa)->∃cl,Laid (K w.params) mg cl ds G)
  (run:∀ns:List Int,ns.length<=63->ae fw tb 40 i [.scr (ns.map W.int)] []=.ok (.bl true) []) :
  PySem.W.WalkO q loose XP YP l.row.toRowW d [] (λf vs=>PySem.call f vs) :=
 L2.walk_of (n:=63) (k:=80) (x:=x)  (sp:=λw=>FR (K w.params)) hn zD hdf ⟨rfl,zD,zD⟩ hY
  (λw mg fa h KX G hm=>by
   obtain⟨cl,LL⟩:=L w mg fa h KX G hm
   obtain⟨f,fd,F,hm3,hb⟩:=LL.df i df hi
   have hm2:=hm3.1 hk
   rw[hx,hm]at hm2
   cases hm2
   refine⟨fd,λs u=>?_,λbase kb nb=>?_⟩
   ·have z:=hb [u] (by rw[hp];rfl)
    rw[hp]at z
    exact .of_eq z
   ·have:=(DJ (P:=l.prog) (w:=w) (base:=base) (fw:=fw) M LL kb 40).1 i i df fa fd (.inl rfl) hi (by simp_all) F (.all hb)
    rw[hp]at this
    exact GL this run)
  (λ_ _ a ns hl _ hS=>⟨a,ns,rfl,hS,hl,λ_=>rfl⟩) λ_ _ _ _ _ z=>by obtain⟨_,_,_,_,_,_,_,_,_,_,z⟩:=z;exact z
theorem KH{α:Type}{us:List α}(h:us.length=1):∃a0,us=[a0]:=List.length_eq_one_iff.mp h
theorem MS{α:Type}{us:List α}(h:us.length=2):∃a0 a1,us=[a0,a1]:=by
 obtain⟨a0,r,rfl⟩:=Zj h
 obtain⟨a1,rfl⟩:=KH  (by simpa using h)
 grind
theorem L1{α:Type}{us:List α}(h:us.length=3):∃a0 a1 a2,us=[a0,a1,a2]:=by
 obtain⟨a0,r,rfl⟩:=Zj h
 obtain⟨a1,a2,rfl⟩:=MS  (by simpa using h)
 grind
theorem KN{α:Type}{us:List α}(h:us.length=4):∃a0 a1 a2 a3,us=[a0,a1,a2,a3]:=by
 obtain⟨a0,r,rfl⟩:=Zj h
 obtain⟨a1,a2,a3,rfl⟩:=L1  (by simpa using h)
 grind
theorem MK{α:Type}{us:List α}(h:us.length=5):∃a0 a1 a2 a3 a4,us=[a0,a1,a2,a3,a4]:=by
 obtain⟨a0,r,rfl⟩:=Zj h
 obtain⟨a1,a2,a3,a4,rfl⟩:=KN  (by simpa using h)
 grind
theorem LJ{α:Type}{us:List α}(h:us.length=6):∃a0 a1 a2 a3 a4 a5,us=[a0,a1,a2,a3,a4,a5]:=by
 obtain⟨a0,r,rfl⟩:=Zj h
 obtain⟨a1,a2,a3,a4,a5,rfl⟩:=MK  (by simpa using h)
 grind
theorem O6{α:Type}{us:List α}(h:us.length=7):∃a0 a1 a2 a3 a4 a5 a6,us=[a0,a1,a2,a3,a4,a5,a6]:=by
 obtain⟨a0,r,rfl⟩:=Zj h
 obtain⟨a1,a2,a3,a4,a5,a6,rfl⟩:=LJ  (by simpa using h)
 grind
noncomputable def Gh(d:Df):Bool:=decide ((ay d.st).kind=.function)&&!(ay d.st).isCoroutine&&!(ay d.st).isGenerator&&decide d.N.Nodup&&decide (d.N.take d.ps.length=d.ps)
 && d.ps.all (λx=>decide ((ay d.st).names.lookup x=some .local\/(ay d.st).names.lookup x=some .cell))&&(ay d.st).names.all λy=>decide (y.2≠.free)
theorem Fj{d:Df}(h:Gh d=true):fJ d.N d.ps (ay d.st):=by unfold Gh at h;simp only[zI,Zm,Bool.not_eq_true',zzn]at h;obtain⟨⟨⟨⟨⟨⟨h1,h2⟩,h3⟩,h4⟩,h5⟩,h6⟩,h7⟩:=h;exact⟨h1,h2,h3,h4,h5,λx hx=>h6 x hx,h7⟩
def xK(ds:List Df)(G:List (Str×Gk)):List Fn:=ds.map λd=>(d.fn G).getD ⟨0,0,[],none⟩
noncomputable def Dq(ds:List Df)(p:Str×Gk):Bool:=match p.2 with
 |.fn f np=>match ds[f]? with
  |some d=>decide (d.k=0)&&decide (d.x=p.1)&&decide (d.ps.length=np)
  |none=>false
 |.mth f np=>match ds[f]? with
  |some d=>decide (d.k=1)&&decide (d.x=p.1)&&decide (d.ps.length=np)
  |none=>false
 |.ctor f np=>match ds[f]? with
  |some d=>decide (2<=d.k)&&decide (eP (d.k-2)=p.1)&&decide (d.ps.length=np)
  |none=>false
 |.con _=>true
 |.cls _=>true
 |.bas=>true
def tf(ds:List Df)(G:List (Str×Gk)):Bool:=ds.all (λd=>(d.fn G).isSome&&Gh d)&&G.all (Dq ds)&&decide (ds.length<=1000)
theorem bQ{β:Type}{x:Str}{b:β}:∀{l:List (Str×β)},l.lookup x=some b->(x,b)∈l
 |[],h=>by simp_all
 |(y,c)::l,h=>by rw[ZJ]at h;split at h;simp_all;exact zo _ (bQ h)
theorem made_ok{ds:List Df}{G:List (Str×Gk)}(h:tf ds G=true):Made ds G (xK ds G):=by unfold tf at h;simp only[zI,zzn,Zm]at h;obtain⟨h,hz⟩:=h;refine⟨λi d hi=>?_,⟨by simp[xK],by simpa [xK] using hz⟩,λx f np hx=>?_,λx f np hx=>?_,λx f np hx=>?_,λi d hi=>Fj (h.1 d (zH hi)).2⟩;obtain⟨g,hg⟩:=ZV.mp (h.1 d (zH hi)).1;exact⟨g,by unfold xK;rw[Za,hi];simp[hg],hg⟩;have q:=h.2 _ (bQ hx);unfold Dq at q;dsimp only at q;split at q;simp_all;cases q;have q:=h.2 _ (bQ hx);unfold Dq at q;dsimp only at q;split at q;rename_i d hd;simp only[zI,Zm]at q;exact⟨d,hd,q.1.1,q.1.2,q.2⟩;cases q;have q:=h.2 _ (bQ hx);unfold Dq at q;dsimp only at q;split at q;simp_all;cases q
section
variable {K:Fg0}{mg:Str->Option Value}{h:Heap}{d:Df}{f C:Addr}{oc:Value}{od an:Option Addr}{sl:Array (Option Value)}{kV doc pm cd ct:Value}
def eY(d:Df):Prop:=∀(kV doc pm:Value) (an:Option Addr) (cdv ct:Value) (us:List Value),us.length=d.ps.length->bindArgs (PySem.W.fnOf d.x d.q (bI d.st) (aS d.st) (ay d.st) .none kV doc pm an cdv ct) ⟨us,[]⟩=pure (d.ps.zip us)
theorem bo1(hp:d.ps.length=1)(h:∀(kV doc pm:Value) (an:Option Addr) (cdv ct a0:Value),bindArgs (PySem.W.fnOf d.x d.q (bI d.st) (aS d.st) (ay d.st) .none kV doc pm an cdv ct) ⟨[a0],[]⟩=pure (d.ps.zip [a0])):eY d:=λ_ _ _ _ _ _ us hl=>by obtain⟨a0,rfl⟩:=KH (hl.trans hp);simp_all
theorem bo2(hp:d.ps.length=2)(h:∀(kV doc pm:Value) (an:Option Addr) (cdv ct a0 a1:Value),bindArgs (PySem.W.fnOf d.x d.q (bI d.st) (aS d.st) (ay d.st) .none kV doc pm an cdv ct) ⟨[a0,a1],[]⟩=pure (d.ps.zip [a0,a1])):eY d:=λ_ _ _ _ _ _ us hl=>by obtain⟨a0,a1,rfl⟩:=MS (hl.trans hp);simp_all
theorem bo3(hp:d.ps.length=3)(h:∀(kV doc pm:Value) (an:Option Addr) (cdv ct a0 a1 a2:Value),bindArgs (PySem.W.fnOf d.x d.q (bI d.st) (aS d.st) (ay d.st) .none kV doc pm an cdv ct) ⟨[a0,a1,a2],[]⟩=pure (d.ps.zip [a0,a1,a2])):eY d:=λ_ _ _ _ _ _ us hl=>by obtain⟨a0,a1,a2,rfl⟩:=L1 (hl.trans hp);simp_all
theorem bo4(hp:d.ps.length=4)(h:∀(kV doc pm:Value) (an:Option Addr) (cdv ct a0 a1 a2 a3:Value),bindArgs (PySem.W.fnOf d.x d.q (bI d.st) (aS d.st) (ay d.st) .none kV doc pm an cdv ct) ⟨[a0,a1,a2,a3],[]⟩=pure (d.ps.zip [a0,a1,a2,a3])):eY d:=λ_ _ _ _ _ _ us hl=>by obtain⟨a0,a1,a2,a3,rfl⟩:=KN (hl.trans hp);simp_all
theorem bo5(hp:d.ps.length=5)(h:∀(kV doc pm:Value) (an:Option Addr) (cdv ct a0 a1 a2 a3 a4:Value),bindArgs (PySem.W.fnOf d.x d.q (bI d.st) (aS d.st) (ay d.st) .none kV doc pm an cdv ct) ⟨[a0,a1,a2,a3,a4],[]⟩=pure (d.ps.zip [a0,a1,a2,a3,a4])):eY d:=λ_ _ _ _ _ _ us hl=>by obtain⟨a0,a1,a2,a3,a4,rfl⟩:=MK (hl.trans hp);simp_all
theorem bo6(hp:d.ps.length=6)(h:∀(kV doc pm:Value) (an:Option Addr) (cdv ct a0 a1 a2 a3 a4 a5:Value),bindArgs (PySem.W.fnOf d.x d.q (bI d.st) (aS d.st) (ay d.st) .none kV doc pm an cdv ct) ⟨[a0,a1,a2,a3,a4,a5],[]⟩=pure (d.ps.zip [a0,a1,a2,a3,a4,a5])):eY d:=λ_ _ _ _ _ _ us hl=>by obtain⟨a0,a1,a2,a3,a4,a5,rfl⟩:=LJ (hl.trans hp);simp_all
theorem bo7(hp:d.ps.length=7)(h:∀(kV doc pm:Value) (an:Option Addr) (cdv ct a0 a1 a2 a3 a4 a5 a6:Value),bindArgs (PySem.W.fnOf d.x d.q (bI d.st) (aS d.st) (ay d.st) .none kV doc pm an cdv ct) ⟨[a0,a1,a2,a3,a4,a5,a6],[]⟩=pure (d.ps.zip [a0,a1,a2,a3,a4,a5,a6])):eY d:=λ_ _ _ _ _ _ us hl=>by obtain⟨a0,a1,a2,a3,a4,a5,a6,rfl⟩:=O6 (hl.trans hp);simp_all
theorem laid_mk(X:K.In h)(G:h.Ns mainGlobals mg)(hk:d.k=0)(hb:eY d)
  (a:PySem.W.nsIn K mainGlobals d.x=some (some (.ref f))) (l:K.lookup f=some ⟨oc,od,.func (PySem.W.fnOf d.x d.q (bI d.st) (aS d.st) (ay d.st) .none kV doc pm an cd ct),sl⟩)
  (c:PySem.W.codeIn K cd d.q=true) (k:PySem.W.keepIn K (.ref f)=true):lZ K mg d :=
 ⟨f,_,sF l c k,⟨λ_=>zzF X G a,λz=>by simp_all,λz=>by simp_all⟩,λus hl=>hb _ _ _ _ _ _ us hl⟩
theorem laid_mth(O:mS K 1 C)(hk:d.k=1)(hn:d.x∉aO 1)(hb:eY d)
  (a:PySem.W.findIn K (.ref C) d.x=some (some (.ref f))) (l:K.lookup f=some ⟨oc,od,.func (PySem.W.fnOf d.x d.q (bI d.st) (aS d.st) (ay d.st) .none kV doc pm an cd ct),sl⟩)
  (c:PySem.W.codeIn K cd d.q=true) (k:PySem.W.keepIn K (.ref f)=true) (t:PySem.W.isFn K (.ref f)=true):lZ K mg d :=
 ⟨f,_,sF l c k,⟨λz=>by simp_all,λ_=>⟨C,O,⟨a,t,k⟩,hn⟩,λz=>by simp_all⟩,λus hl=>hb _ _ _ _ _ _ us hl⟩
theorem laid_ini(X:K.In h)(G:h.Ns mainGlobals mg)(O:mS K (d.k-2) C)(hk:2<=d.k)(mk:PySem.W.makesIn K C=true)(kc:PySem.W.keepIn K (.ref C)=true)(hb:eY d)
  (a:PySem.W.findIn K (.ref C) "__init__"=some (some (.ref f))) (l:K.lookup f=some ⟨oc,od,.func (PySem.W.fnOf d.x d.q (bI d.st) (aS d.st) (ay d.st) .none kV doc pm an cd ct),sl⟩)
  (c:PySem.W.codeIn K cd d.q=true) (k:PySem.W.keepIn K (.ref f)=true) (t:PySem.W.isFn K (.ref f)=true):lZ K mg d :=
 ⟨f,_,sF l c k,⟨λz=>by simp_all,λz=>by simp_all,λ_=>⟨C,O,⟨mk,a,t,kc⟩,zzF X G O.ns⟩⟩,λus hl=>hb _ _ _ _ _ _ us hl⟩
theorem ocl0(o:PySem.W.nsIn K mainGlobals "Standing"=some (some (.ref C)))(g:PySem.W.plainGet K C Str.empty=true)(hd:PySem.W.hasDictIn K C=true)(po:PySem.W.plainOver K C=true)(sa:PySem.W.findIn K (.ref C) "__setattr__"=some (some (.builtin "object.__setattr__")))
  (n0:PySem.W.findIn K (.ref C) "deed"=some none) (n1:PySem.W.findIn K (.ref C) "part_list"=some none) (n2:PySem.W.findIn K (.ref C) "follows"=some none) (n3:PySem.W.findIn K (.ref C) "dead"=some none):mS K 0 C :=
 ⟨o,⟨g,hd,po,sa⟩,λf hf=>by
  simp only[aO,zV,Zy,zz7]at hf
  rcases hf with rfl|rfl|rfl|rfl<;>assumption⟩
theorem ocl1(o:PySem.W.nsIn K mainGlobals "Register"=some (some (.ref C)))(g:PySem.W.plainGet K C Str.empty=true)(hd:PySem.W.hasDictIn K C=true)(po:PySem.W.plainOver K C=true)(sa:PySem.W.findIn K (.ref C) "__setattr__"=some (some (.builtin "object.__setattr__")))
  (n0:PySem.W.findIn K (.ref C) "names"=some none) (n1:PySem.W.findIn K (.ref C) "standings"=some none):mS K 1 C :=
 ⟨o,⟨g,hd,po,sa⟩,λf hf=>by
  simp only[aO,zV,Zy,zz7]at hf
  rcases hf with rfl|rfl<;>assumption⟩
end
theorem con_int{K:Fg0}{mg:Str->Option Value}{x:Str}{i:Int}{t:Tok}(h:mg x=some (.int i t)):∃u v,mg x=some u/\RelV v u/\∀ρ H,Rel K ρ H (.int i) v:=⟨_,.int i,h,⟨t,rfl⟩,λ_ _=>bf⟩
theorem con_str{K:Fg0}{mg:Str->Option Value}{x i:Str}{t:Tok}(h:mg x=some (.str i t)):∃u v,mg x=some u/\RelV v u/\∀ρ H,Rel K ρ H (.str i) v:=⟨_,.str i,h,⟨t,rfl⟩,λ_ _=>gA⟩
theorem con_tup{K:Fg0}{mg:Str->Option Value}{x:Str}{a:Addr}{od:Option Addr}{us:Array Value}{n:Nat}{sl:Array (Option Value)}{is:List Int}(h:mg x=some (.ref a))(l:K.lookup a=some ⟨.type "tuple",od,.seq us n,sl⟩)(hv:Vals (is.map V.int) us.toList)(hz:us.size<=1000:=by rfl) :
  ∃u v,mg x=some u/\RelV v u/\∀ρ H,Rel K ρ H (.tup (is.map W.int)) v :=
 ⟨_,.ref a,h,rfl,λρ H=>⟨a,is.map V.int,rfl,.inr (.inr ⟨_,us,n,l,rfl,rfl,zf hz zD,hv⟩),mj is⟩⟩
theorem all_mem{α:Type}{P:α->Prop}{l:List α}(h:∀d∈l,P d)(i:Nat)(d:α)(e:l[i]?=some d):P d:=h d (zH e)
theorem F6{K:Fg0}{h:Heap}{C:Addr}{bm:List Value}{oc:Value}{od:Option Addr}{cd:ClassData}{sl:Array (Option Value)}(X:K.In h)(q:PySem.W.excIn K C xR newV=true)(l:K.lookup C=some ⟨oc,od,.cls cd,sl⟩)(m:cd.mro=.ref C::bm):Eo h C bm:=by unfold PySem.W.excIn at q;split at q;rename_i d2 cd2 sl2 ho;have l2:=ho.symm.trans l;cases l2;split at q;rename_i C2 bm2 u0 u1 u2 u3 n u5 hm hs;rw[m]at hm;cases hm;simp only[zI,beq_iff_eq,Bool.not_eq_true']at q;obtain⟨⟨⟨⟨⟨_,rfl⟩,g1⟩,g2⟩,g3⟩,g4⟩:=q;obtain⟨nm,bs,mro,nsA,qn,hd,sn,sub,ab,col,del⟩:=cd;subst m g1;obtain⟨ll⟩:=sl;have hs' :=hs;subst hs';exact⟨nsA,nm,qn,bs,hd,sn,sub,ab,col,od,u0,u1,u2,u3,u5,_,X _ _ ho,Heap.Ns.of_isNs (PySem.W.isNs_of_in X g3),PySem.W.nsMap_none_of_in X g3 g4,PySem.W.tail_of_in X g2⟩;simp_all;simp_all
theorem Gx{a J:Addr}{C d:Addr}(h1:C≠d)(h2:J≠d):(Value.ref C::.ref J::xR).contains (.ref d)=false:=by grind
theorem qo{C:Addr}{bm:List Value}:(Value.ref C::bm).contains (.ref C)=true:=zS
def FE(K:Fg0)(C:Addr)(x:Str)(o:Option Value):Prop:=PySem.W.findIn K (.ref C) x=some o
structure FG (K:Fg0) (mg:Str->Option Value) (x:Str) (C J:Addr):Prop where
 m:mg x=some (.ref C)
 e:∀h:Heap,K.In h->Eo h C (.ref J::xR)
structure FC (K:Fg0) (mg:Str->Option Value) (x:Str) (J:Addr):Prop where
 m:mg x=some (.ref J)
 e:∀h:Heap,K.In h->Eo h J xR
section
variable {K:Fg0}{mg:Str->Option Value}{h:Heap}{x:Str}{C J:Addr}{ec:Value}{ed:Option Addr}{ek:ClassData}{es:Array (Option Value)}
theorem err_mk(X:K.In h)(G:h.Ns mainGlobals mg)(n:PySem.W.nsIn K mainGlobals x=some (some (.ref C)))(y:K.lookup C=some ⟨ec,ed,.cls ek,es⟩)(v:PySem.W.excIn K C xR newV=true)(w:ek.mro=.ref C::.ref J::xR):FG K mg x C J:=⟨zzF X G n,λ_ z=>F6 z v y w⟩
theorem bas_mk(X:K.In h)(G:h.Ns mainGlobals mg)(n:PySem.W.nsIn K mainGlobals x=some (some (.ref J)))(y:K.lookup J=some ⟨ec,ed,.cls ek,es⟩)(v:PySem.W.excIn K J xR newV=true)(w:ek.mro=.ref J::xR):FC K mg x J:=⟨zzF X G n,λ_ z=>F6 z v y w⟩
end
abbrev Qo(K:Fg0)(C:Addr):Prop:=FE K C "__getattribute__" (some (.builtin "BaseException.__getattribute__"))/\FE K C "__getattr__" none/\FE K C "__class__" (some (.builtin "object.__class__"))
theorem Dz{K:Fg0}{mg:Str->Option Value}{G:List (Str×Gk)}{Cs:List Addr}{J:Addr}(hn:(J::Cs).Nodup)
  (hx:∀x c,G.lookup x=some (.cls c)->c<Cs.length/\mg x=some (.ref (Cs.getD c 0))/\∀h:Heap,K.In h->Eo h (Cs.getD c 0) (.ref J::xR))
  (hb:∀z,G.lookup z=some .bas->mg z=some (.ref J)/\(∀h:Heap,K.In h->Eo h J xR)/\∀x c,G.lookup x=some (.cls c)->Qo K (Cs.getD c 0)) :
  ∀x c,G.lookup x=some (.cls c)->mg x=some (.ref (Cs.getD c 0))/\∃bm,(∀h:Heap,K.In h->Eo h (Cs.getD c 0) bm)/\(∀y d,G.lookup y=some (.cls d)->(Value.ref (Cs.getD c 0)::bm).contains (.ref (Cs.getD d 0))=decide (c=d))/\∀z,G.lookup z=some .bas->∀h:Heap,K.In h->Hx K mg h (Cs.getD c 0) bm z:=by
 intro x c h
 obtain⟨h0,h1,h2⟩:=hx x c h
 refine⟨h1,_,h2,λy d hy=>?_,λz hz h' hi=>?_⟩
 ·obtain⟨g0,_,_⟩:=hx y d hy
  rw[Z3]at hn
  have hc:Cs.getD c 0=Cs[c]:=by simp[List.getD,zK h0]
  have hd:Cs.getD d 0=Cs[d]:=by simp[List.getD,zK g0]
  by_cases e:c=d
  ·subst e
   rw[qo,z0 rfl]
  ·rw[zX e]
   refine Gx (a:=0) (λz=>?_) λz=>?_
   ·rw[hc,hd]at z
    exact e ((List.getElem_inj hn.2).mp z)
   simp_all
 ·obtain⟨b1,b2,b3⟩:=hb z hz
  obtain⟨e1,e2,e3⟩:=b3 x c h
  refine⟨J,xR,b1,b2 h' hi,?_,?_,e1,e2,e3⟩
  ·rw[List.contains_cons,qo,Bool.or_true]
  rfl
def GlAt(K:Fg0)(mg:Str->Option Value)(Cs:List Addr)(J:Addr)(p:Str×Gk):Prop:=match p.2 with
 |.con w=>∃u v,mg p.1=some u/\RelV v u/\∀ρ H,Rel K ρ H w v
 |.cls c=>c<Cs.length/\FG K mg p.1 (Cs.getD c 0) J/\Qo K (Cs.getD c 0)
 |.bas=>FC K mg p.1 J
 |_=>True
def AllP{α:Type}(P:α->Prop):List α->Prop
 |[]=>True
 |a::l=>P a/\AllP P l
theorem AllP.mem{α:Type}{P:α->Prop}:∀{l:List α},AllP P l->∀x∈l,P x
 |_::_,h,_,m=>by rcases zV.mp m with rfl|m;exact h.1;exact AllP.mem h.2 _ m
theorem laid_all{K:Fg0}{mg:Str->Option Value}{h:Heap}{G:List (Str×Gk)}{Cs:List Addr}{J:Addr}(X:K.In h)(N:h.Ns mainGlobals mg)(D:AllP (lZ K mg) ds)(Z:AllP (λx=>PySem.W.nsIn K mainGlobals x=some none) bltNames)(g:AllP (GlAt K mg Cs J) G)(u:(J::Cs).Nodup):∃cl,Laid K mg cl ds G :=
 ⟨λc=>Cs.getD c 0,all_mem  D.mem,λx w e=>g.mem (x,.con w) (bQ e),λx hx _=>PySem.W.mg_none_of X N (Z.mem x hx),Dz u (λx c e=>have q:=g.mem (x,.cls c) (bQ e);⟨q.1,q.2.1.m,q.2.1.e⟩) λz hz=>have q:=g.mem (z,.bas) (bQ hz);⟨q.m,q.e,λx c e=>(g.mem (x,.cls c) (bQ e)).2.2⟩⟩
theorem with_ocl{K:Fg0}{h:Heap}{Q:Prop}{c:Nat}{C:Addr}(_:K.In h)(o:mS K c C)(q:mS K c C->Q):Q:=q o
theorem ah{fw:Nat}{tb:List Fn}{d f:Nat}{g:Fn}{ws:List W}{h:aa}(hg:tb[f]?=some g)(hl:ws.length=g.np) :
  ae fw tb (d+1) f ws h=fin h.length (a9 (ae fw tb d) fw g.body (ws.map some++List.replicate (g.ns-g.np) none) h):=by
 show(match tb[f]? with|some g=>_|none=>_)=_
 simp_all
@[simp] theorem ag {α β:Type} (a:α) (h:aa) (f:α->aa->Res β):bnd (.ok a h) f=f a h:=rfl
@[simp] theorem Kf {α β:Type} (f:α->aa->Res β):bnd (.stuck) f=.stuck:=rfl
@[simp] theorem Di {α β:Type} (c:Nat) (h:aa) (f:α->aa->Res β):bnd (.exc c h) f=.exc c h:=rfl
theorem yq{x y:Int}{m n:Nat}(hx:x.natAbs<2^m)(hy:y.natAbs<2^n)(h:m+n<=134217728):fB x y=true:=by
 rw[gP];unfold sZ
 rw[zzw]
 refine .inr (z0 ?_)
 have a:=PySem.intBits_le_iff.mpr hx
 have b:=PySem.intBits_le_iff.mpr hy
 lia
theorem B3(h:-(2^64)<y/\y<2^64):fB x y=true:=by rw[gP];unfold sZ;simp_all
theorem kH(xs:List α)(k:Nat):atI xs (k)=xs[k]?:=by unfold atI ixN;by_cases h:(k)<xs.length;simp_all;simp_all
theorem BP(h)(m:fB i j=true):dQ .Mult (.int i) (.int j) h=.ok (.int (i*j)) h:=by unfold dQ ml jB;simp_all
theorem tm(i j)(h):dQ .Add (.int i) (.int j) h=.ok (.int (i+j)) h:=rfl
theorem Au(i j)(h):dQ .Sub (.int i) (.int j) h=.ok (.int (i-j)) h:=rfl
theorem jV(h)(m:j≠0):dQ .Mod (.int i) (.int j) h=.ok (.int (i.fmod j)) h:=by unfold dQ ml jB;simp_all
theorem yj(h)(m:j≠0)(l:j.natAbs.log2<9000):dQ .FloorDiv (.int i) (.int j) h=.ok (.int (i.fdiv j)) h:=by unfold dQ ml jB;simp_all
theorem o3(i j)(h):bD .Lt (.int i) (.int j) h=.ok (.bl (decide (i<j))) h:=rfl
theorem DZ(i j)(h):bD .LtE (.int i) (.int j) h=.ok (.bl (decide (i<=j))) h:=rfl
theorem ui(i j)(h):bD .Gt (.int i) (.int j) h=.ok (.bl (decide (j<i))) h:=rfl
theorem DP(i j)(h):bD .GtE (.int i) (.int j) h=.ok (.bl (decide (j<=i))) h:=rfl
theorem HA(i j)(h):bD .Eq (.int i) (.int j) h=.ok (.bl (decide (i=j))) h:=rfl
theorem yp(i j)(h):bD .NotEq (.int i) (.int j) h=.ok (.bl (!decide (i=j))) h:=rfl
theorem cI(ea:af cf a σ h=.ok x h1)(eb:af cf b σ h1=.ok y h2)(o:dQ op x y h2=r):af cf (.bin op a b) σ h=r:=by rw[af,ea,ag,eb,ag,o]
theorem eW(ea:af cf a σ h=.ok x h1)(eb:af cf b σ h1=.ok y h2)(o:bD op x y h2=r):af cf (.cmp op a b) σ h=r:=by rw[af,ea,ag,eb,ag,o]
theorem ax{cf:CF}{w:W}{σ:ai}{h:aa}:af cf (.con w) σ h=.ok w h:=rfl
theorem av{cf:CF}{i:Nat}{w:W}{σ:ai}{h:aa}(e:σ[i]?=some (some w)):af cf (.var i) σ h=.ok w h:=by rw[af,e]
theorem U0{σ:ai}(e:σ[0]?=some (some w)):af c (.var 0) σ h=.ok w h:=av e
theorem U1{σ:ai}(e:σ[1]?=some (some w)):af c (.var 1) σ h=.ok w h:=av e
theorem U2{σ:ai}(e:σ[2]?=some (some w)):af c (.var 2) σ h=.ok w h:=av e
theorem U3{σ:ai}(e:σ[3]?=some (some w)):af c (.var 3) σ h=.ok w h:=av e
theorem U4{σ:ai}(e:σ[4]?=some (some w)):af c (.var 4) σ h=.ok w h:=av e
theorem U5{σ:ai}(e:σ[5]?=some (some w)):af c (.var 5) σ h=.ok w h:=av e
theorem U7{σ:ai}(e:σ[7]?=some (some w)):af c (.var 7) σ h=.ok w h:=av e
theorem ak{cf:CF}{fw:Nat}{s:S}{ss:List S}{σ σ':ai}{h h':aa}(e:aL cf fw s σ h=.ok (.nx σ') h'):a9 cf fw (s::ss) σ h=a9 cf fw ss σ' h':=by rw[a9,e,ag]
theorem aH(e:aL cf fw s σ h=.ok (.ret w) h'):a9 cf fw (s::ss) σ h=.ok (.ret w) h':=by rw[a9,e,ag]
theorem dk(e:bJ cf c σ h=.ok false h1):aL cf fw (.if_ c a []) σ h=.ok (.nx σ) h1:=by show bnd (bJ cf c σ h) _=_;rw[e,ag,zP zS,a9]
theorem Ql(e:bJ cf c σ h=.ok false h1):aL cf fw (.if_ c a b) σ h=a9 cf fw b σ h1:=by rw[aL];simp_all
theorem pE(e:bJ cf c σ h=.ok true h1):aL cf fw (.if_ c a b) σ h=a9 cf fw a σ h1:=by rw[aL];simp_all
theorem bY{cf:CF}{c:E}{σ:ai}{h h1:aa}{b:Bool}(e:af cf c σ h=.ok (.bl b) h1):bJ cf c σ h=.ok b h1:=by show jb (af cf c σ h)=_;rw[e];rfl
theorem bZ{cf:CF}{a b:E}{σ:ai}{h h1:aa}{r:Res Bool}(e:bJ cf a σ h=.ok false h1)(e2:bJ cf b σ h1=r):bJ cf (.or_ a b) σ h=r:=by rw[sX,e,ag,zP zS,e2]
theorem A4(e:bJ cf a σ h=.ok true h1):bJ cf (.or_ a b) σ h=.ok true h1:=by rw[sX,e,ag,zF rfl]
theorem cb{cf:CF}{a:E}{σ:ai}{h h1:aa}{b:Bool}(e:bJ cf a σ h=.ok b h1):bJ cf (.not_ a) σ h=.ok (!b) h1:=by show jb (bnd (bJ cf a σ h) _)=_;rw[e];rfl
theorem uT{test:ai->aa->Res Bool}{body:ai->aa->Res Fl}{n:Nat}{σ σ':ai}{h h1 h2:aa}(ht:test σ h=.ok true h1)(hb:body σ h1=.ok (.nx σ') h2):wh test body (n+1) σ h=wh test body n σ' h2:=by rw[wh,ht,ag,zF rfl,hb,ag]
theorem vB{test:ai->aa->Res Bool}{body:ai->aa->Res Fl}{n:Nat}{σ:ai}{h h1:aa}(ht:test σ h=.ok false h1):wh test body (n+1) σ h=.ok (.nx σ) h1:=by rw[wh,ht,ag,zP zS]
theorem fZ{is:List Nat}{body:ai->aa->Res Fl}{w:W}{ws:List W}{σ σ1 σ':ai}{h h2:aa}(hb:aV is w σ=some σ1)(e:body σ1 h=.ok (.nx σ') h2):fo is body (w::ws) σ h=fo is body ws σ' h2:=by rw[fo];simp_all
mutual
theorem eI:∀w,ar w=true->iE h n0 w=some w
 |.non,_=>by simp[iE]
 |.bl _,_=>by simp[iE]
 |.int _,_=>by simp[iE]
 |.str _,_=>by simp[iE]
 |.tup ws,q=>by rw[ar]at q;rw[iE,cX ws q];rfl
 |.lst ws,q=>by rw[ar]at q;rw[iE,cX ws q];rfl
 |.scr ws,q=>by rw[ar]at q;rw[iE,cX ws q];rfl
 |.ins c ws,q=>by rw[ar]at q;rw[iE,cX ws q];rfl
 |.dic ks ws,q=>by rw[ar]at q;rw[iE,cX ws q];rfl
 |.ref n,q=>by rw[ar]at q;cases q
theorem cX:∀ws,aj ws=true->fQ h n0 ws=some ws
 |[],_=>by rw[fQ]
 |w::ws,q=>by rw[aj,zI]at q;rw[fQ,eI w q.1,cX ws q.2]
end
theorem uS(e:seqA h x=some us):Fg h x=some us:=by
 cases x with
 |str z=>cases e
 |_=>exact e
def cell(ns:List Int)(k:Nat):Int:=ns.getD k 0
theorem BJ(ns:List Int)(k)(h:k<ns.length):atI (ns.map W.int) (k)=some (.int (cell ns k)):=by rw[kH,Za];unfold cell;simp_all
theorem Bm(h:¬ (k<ns.length)):cell ns k=0:=by unfold cell;simp_all
abbrev NF:List S:=[.if_ (.cmp .Lt V1 (.blt .len [V0])) [.ret (.ix V0 V1)] [],.ret N0]
theorem yC{fw:Nat}{tb:List Fn}{f:Nat}(hg:tb[f]?=some ⟨2,2,NF,none⟩)(d:Nat)(ns:List Int)(k:Nat)(h:aa) :
  ae fw tb (d+1) f [.scr (ns.map W.int),.int (k)] h=.ok (.int (cell ns k)) h:=by
 rw[ah hg rfl]
 by_cases hk:k<ns.length
 ·have hk' :=zO
  simp[NF,a9,aL,af,bL,bK,qQ,Nt,mW,vt,pv,vY,IF,uR,seqA,hZ,i7,jB,bD,fH,jb,qU,hk',cU,BJ ns k hk,fin,iE,fQ,ar]
 ·have hk' :=zO
  simp[NF,a9,aL,af,bL,bK,qQ,Nt,mW,vt,pv,vY,IF,uR,seqA,hZ,i7,jB,bD,fH,jb,qU,hk',cU,fin,iE,fQ,ar,Bm hk]
abbrev aw(m:Nat):W:=.int (m:Int)
abbrev sh(p q:Nat):W:=.tup [aw p,aw q]
theorem fk(m n:Nat):Int.fmod (m) (n)=((m%n:Nat)):=by grind
theorem jc(m n:Nat):Int.fdiv (m) (n)=((m/n:Nat)):=by rw[Int.fdiv_eq_ediv_of_nonneg _ (Int.natCast_nonneg n)];rfl
theorem DH(m n:Nat):(m)+(n)=((m+n:Nat):Int):=(Int.natCast_add m n).symm
theorem uQ(h:n<2^k)(hk:0<k):n.log2<k:=by by_cases z:n=0;simp_all;exact(Nat.log2_lt z).mpr h
theorem nJ{m n:Nat}(hm:m<2^100000)(hn:n<2^100000):fB (m) (n:Int)=true :=
 yq   (by simpa using hm) (by simpa using hn) zD
abbrev pF:List S:=[.while_ (.cmp .Gt V1 N0) [.asg 2 (.bin .Mod V0 V1),.asg 0 V1,.asg 1 Y2],.ret V0]
abbrev P7(cf:CF):ai->aa->Res Bool:=λσ h=>jb (af cf (.cmp .Gt V1 N0) σ h)
abbrev vU:List S:=[.asg 2 (.bin .Mod V0 V1),.asg 0 V1,.asg 1 Y2]
theorem qy(cf:CF)(fw)(h):∀n a b r,b<n ->
  ∃r',wh (P7 cf) (a9 cf fw vU) n [some (aw a),some (aw b),r] h=.ok (.nx [some (aw (Nat.gcd a b)),some (aw 0),r']) h
 |0,a,b,r,hb=>absurd hb (Nat.not_lt_zero b)
 |n+1,a,b,r,hb=>by
  by_cases z:b=0;subst z;rw[vB  (rfl)];simp;obtain⟨r',e⟩:=qy cf fw h n b (a%b) (some (aw (a%b))) (zG (zzc a (Nat.pos_of_ne_zero z)) (Nat.le_of_lt_succ hb));refine⟨r',?_⟩;have g:Nat.gcd a b=Nat.gcd b (a%b):=by rw[Nat.gcd_comm a b,Nat.gcd_rec b a,Nat.gcd_comm]
  rw[uT (h1:=h) (h2:=h) (σ':=[some (aw b),some (aw (a%b)),some (aw (a%b))]) (by simp[P7,af,bD,fH,jb,qU,Nat.pos_of_ne_zero z]) (by simp[vU,a9,aL,af,dQ,ml,z,jB,fk]),e,g]
theorem CQ{fw:Nat}{tb:List Fn}{f:Nat}(hg:tb[f]?=some ⟨2,3,pF,none⟩)(d a b:Nat)(h:aa)(hb:b<fw):ae fw tb (d+1) f [aw a,aw b] h=.ok (aw (Nat.gcd a b)) h:=by
 rw[ah hg rfl];obtain⟨r',e⟩:=qy (ae fw tb d) fw h fw a b none hb;have e':a9 (ae fw tb d) fw pF ([aw a,aw b].map some++List.replicate (3-2) none) h=.ok (.ret (aw (Nat.gcd a b))) h:=by show a9 (ae fw tb d) fw pF [some (aw a),some (aw b),none] h=_;rw[a9,aL,e];rfl
 rw[e'];simp[fin,iE,fQ,ar]
abbrev xo(g:Nat):List S:=[.asg 2 (.call g [V0,V1]),.ret (.tup [(.bin .FloorDiv V0 Y2),(.bin .FloorDiv V1 Y2)])]
def gy(a b:Nat):Nat×Nat:=(a/Nat.gcd a b,b/Nat.gcd a b)
abbrev mO(s:Nat×Nat):W:=sh s.1 s.2
theorem CO{fw:Nat}{tb:List Fn}{f g:Nat}(hf:tb[f]?=some ⟨2,3,xo g,none⟩)(hg:tb[g]?=some ⟨2,3,pF,none⟩)(d a b:Nat)(h:aa)(hb:b<fw)(h0:0<b)(hz:b<2^9000) :
  ae fw tb (d+2) f [aw a,aw b] h=.ok (mO (gy a b)) h:=by
 rw[ah  hf rfl]
 have e:=CQ hg d a b h hb
 have gp :=Nat.gcd_pos_of_pos_right a h0
 have gl :=Nat.gcd_le_right a h0
 have hl :=uQ (Zf gl hz) zD
 clear hz
 have hne:¬ (Nat.gcd a b:Int)=0:=zL
 have hc:((Nat.gcd a b:Int)≠0/\((Nat.gcd a b:Int)).natAbs.log2<9000):=⟨hne,by simpa using hl⟩
 simp only[zR,zzl,List.replicate,Z4,zzV,a9,aL,af,bL,ag,List.getElem?_cons_zero,List.getElem?_cons_succ,e,List.set_cons_succ,List.set_cons_zero,dQ,ml,zF hc,jB,jc,ag]
 simp[sizeLine,fin,iE,fQ,ar,aj,gy]
theorem A2(a b)(hb:0<b):0<(gy a b).2/\Nat.gcd (gy a b).1 (gy a b).2=1/\(gy a b).1*b=a*(gy a b).2/\(gy a b).2<=b/\(gy a b).1<=a:=by
 have gp:0<Nat.gcd a b:=Nat.gcd_pos_of_pos_right a hb
 obtain⟨p,hp⟩:=Nat.gcd_dvd_left a b
 obtain⟨q,hq⟩:=Nat.gcd_dvd_right a b
 have ep:a/Nat.gcd a b=p:=Nat.div_eq_of_eq_mul_right gp hp
 have eq :=Nat.div_eq_of_eq_mul_right gp hq
 have hc :=Nat.coprime_div_gcd_div_gcd gp
 unfold gy
 refine⟨Nat.div_gcd_pos_of_pos_right a hb,hc,?_,Nat.div_le_self _ _,Nat.div_le_self _ _⟩
 grind
@[irreducible] def FW:Nat:=2^9000
theorem D8(x B:Int)(h0:0<B):∃m:Nat,x.fmod B=(m)/\(m)<B:=by have a:=Int.fmod_nonneg_of_pos x h0;have b:=Int.fmod_lt_of_pos x h0;exact⟨(x.fmod B).toNat,zL,zL⟩
theorem jl(ea:af cf a σ h=.ok x h1)(o:cf f [x] h1=r):af cf (.call f [a]) σ h=r:=by rw[af,dJ,ea,ag,ag,o]
theorem jh{cf:CF}{f:Nat}{a b:E}{σ:ai}{h h1 h2:aa}{x y:W}{r:Res W}(ea:af cf a σ h=.ok x h1)(eb:af cf b σ h1=.ok y h2)(o:cf f [x,y] h2=r):af cf (.call f [a,b]) σ h=r:=by rw[af,uW,ea,ag,eb,ag,ag,o]
theorem aq(ea:af cf a σ h=.ok x h1)(eb:bL cf as σ h1=.ok xs h2):bL cf (a::as) σ h=.ok (x::xs) h2:=by rw[bL,ea,ag,eb,ag]
theorem aA:bL cf [] σ h=.ok [] h:=rfl
theorem j5(ea:bL cf as σ h=.ok xs h1)(o:cf f xs h1=r):af cf (.call f as) σ h=r:=by rw[af,ea,ag,o]
theorem bV{cf:CF}{fw i:Nat}{e:E}{σ:ai}{h h1:aa}{w:W}(ee:af cf e σ h=.ok w h1):aL cf fw (.asg i e) σ h=.ok (.nx (σ.set i (some w))) h1:=by rw[aL,ee,ag]
theorem aU(ee:af cf e σ h=.ok w h1):aL cf fw (.ret e) σ h=.ok (.ret w) h1:=by rw[aL,ee,ag]
theorem i0(a b:W):L2.atI [a,b] 0=some a:=rfl
theorem i1(a b:W):L2.atI [a,b] 1=some b:=rfl
theorem Mw{ws:List W}{i:Int}{w:W}{h:aa}(e:L2.atI ws i=some w):cU (.tup ws) (.int i) h=.ok w h:=by unfold cU seqA hZ;simp only[Option.or,e]
theorem GI(e:L2.atI ws i=some w):cU (.lst ws) (.int i) h=.ok w h:=by unfold cU seqA hZ i7;simp_all
theorem du{cf:CF}{a b:E}{σ:ai}{h h1 h2:aa}{x y:W}{r:Res W}(ea:af cf a σ h=.ok x h1)(eb:af cf b σ h1=.ok y h2)(o:cU x y h2=r):af cf (.ix a b) σ h=r:=by rw[af,ea,ag,eb,ag,o]
theorem JD{cf:CF}{i:Nat}{p q:Nat}{σ:ai}{h:aa}(e:σ[i]?=some (some (sh p q))):af cf (.ix (.var i) N0) σ h=.ok (aw p) h:=du (av e) ax (Mw (i0 _ _))
theorem JE{cf:CF}{i:Nat}{p q:Nat}{σ:ai}{h:aa}(e:σ[i]?=some (some (sh p q))):af cf (.ix (.var i) N1) σ h=.ok (aw q) h:=du (av e) ax (Mw (i1 _ _))
theorem oN{cf:CF}{a b:E}{m n:Nat}{σ:ai}{h:aa}(ea:af cf a σ h=.ok (aw m) h)(eb:af cf b σ h=.ok (aw n) h)(hm:fB (m) (n)=true):af cf (.bin .Mult a b) σ h=.ok (aw (m*n)) h :=
 (cI ea eb (BP _ hm)).trans (rfl)
theorem kO{cf:CF}{a b:E}{m n:Nat}{σ:ai}{h:aa}(ea:af cf a σ h=.ok (aw m) h)(eb:af cf b σ h=.ok (aw n) h):af cf (.bin .Add a b) σ h=.ok (aw (m+n)) h :=
 (cI ea eb (tm _ _ _)).trans (rfl)
theorem jv{cf:CF}{a b:E}{m n:Nat}{σ:ai}{h:aa}(ea:af cf a σ h=.ok (aw m) h)(eb:af cf b σ h=.ok (aw n) h)(h0:0<n)(hz:n<2^9000):af cf (.bin .FloorDiv a b) σ h=.ok (aw (m/n)) h :=
 (cI ea eb (yj _ (Int.natCast_ne_zero.mpr (ZX h0)) (by simpa using uQ hz zS))).trans (by rw[jc])
theorem dN{cf:CF}{a b:E}{m n:Nat}{σ:ai}{h:aa}(ea:af cf a σ h=.ok (aw m) h)(eb:af cf b σ h=.ok (aw n) h)(h0:0<n):af cf (.bin .Mod a b) σ h=.ok (aw (m%n)) h :=
 (cI ea eb (jV _ (Int.natCast_ne_zero.mpr (ZX h0)))).trans (by rw[fk])
theorem kd(ea:bL cf as σ h=.ok xs h1)(hl:xs.length<=1000):af cf (.tup as) σ h=.ok (.tup xs) h1:=by rw[af,ea,ag,zF (zf hl zD)]
theorem iG{cf:CF}{as:List E}{σ:ai}{h h1:aa}{xs:List W}(ea:bL cf as σ h=.ok xs h1)(hl:xs.length<=1000):af cf (.lst as) σ h=.ok (.lst xs) h1:=by rw[af,ea,ag,zF (zf hl zD)]
theorem BO{cf:CF}{a b:E}{σ:ai}{h:aa}{x y:W}(ea:af cf a σ h=.ok x h)(eb:af cf b σ h=.ok y h):bL cf [a,b] σ h=.ok [x,y] h:=aq ea (aq eb aA)
theorem eM(hp:ar w=true)(hw:∀n,w≠.ref n)(hl:h.length=n0):J.fin n0 (.ok (.ret w) h)=.ok w h:=by
 unfold J.fin
 dsimp only
 rw[eI w hp]
 grind
theorem fW{ws:List W}{h:aa}(hp:aj ws=true):J.fin h.length (.ok (.ret (.tup ws)) h)=.ok (.tup ws) h:=eM (hp) (λn z=>nomatch z) rfl
theorem pj:J.fin h.length (.ok (.ret (.int i)) h)=.ok (.int i) h:=eM rfl (λn z=>nomatch z) rfl
theorem aF{b:Bool}{h:aa}:J.fin h.length (.ok (.ret (.bl b)) h)=.ok (.bl b) h:=eM rfl (λn z=>nomatch z) rfl
theorem CA(p q):aj [aw p,aw q]=true:=rfl
abbrev jS(l:Nat):List S:=[.ret (.call l [(.bin .Mult (.ix V0 N0) V1),(.bin .Mult (.ix V0 N1) Y2)])]
theorem nL{fw:Nat}{tb:List Fn}{f l g:Nat}(hf:tb[f]?=some ⟨3,3,jS l,none⟩)(hl:tb[l]?=some ⟨2,3,xo g,none⟩)(hg:tb[g]?=some ⟨2,3,pF,none⟩)(d p q m o:Nat)(h:aa)
  (m1:fB (p:Int) (m:Int)=true) (m2:fB (q:Int) (o:Int)=true) (q0:0<q) (o0:0<o) (hz:q*o<2^9000) (hw:q*o<fw) :
  ae fw tb (d+3) f [sh p q,aw m,aw o] h=.ok (mO (gy (p*m) (q*o))) h:=by
 rw[ah (d:=d+2) hf rfl]
 have e:=CO hl hg d (p*m) (q*o) h hw (Z9 q0 o0) hz
 generalize ae fw tb (d+2)=cf at *
 show J.fin h.length (a9 cf fw (jS l) [some (sh p q),some (aw m),some (aw o)] h)=_
 rw[aH (aU (jh (oN (JD (i:=0) rfl) (U1 rfl) m1) (oN (JE (i:=0) rfl) (U2 rfl) m2) e))]
 exact fW (CA _ _)
theorem aQ(x:Int){C:Nat}(h0:0<C):∃m:Nat,x.fmod (C)=(m)/\m<C:=by obtain⟨m,e,h⟩:=D8 x (C) zL;exact⟨m,e,zL⟩
theorem CV{cf:CF}{a b:E}{x:Int}{C m:Nat}{σ:ai}{h:aa}(ea:af cf a σ h=.ok (.int x) h)(eb:af cf b σ h=.ok (aw C) h)(h0:0<C)(e:x.fmod (C)=(m)):af cf (.bin .Mod a b) σ h=.ok (aw m) h :=
 (cI ea eb (jV _ (Int.natCast_ne_zero.mpr (ZX h0)))).trans (by rw[e])
theorem aT{cf:CF}{n:Nat}{σ:ai}{h:aa}:af cf (.con (aw n)) σ h=.ok (aw n) h:=ax
theorem Js{cf:CF}{fw i:Nat}{e:E}{σ:ai}{h:aa}{w:W}(ee:af cf e σ h=.ok w h):a9 cf fw [.asg i e] σ h=.ok (.nx (σ.set i (some w))) h:=by rw[ak (bV ee),a9]
theorem sJ(h:-(2^64)<x/\x<2^64):fB x y=true:=by rw[gP];unfold sZ;simp_all
theorem n6{cf:CF}{i n:Nat}{e:E}{σ:ai}{h:aa}{us:List W}{w:W}(hs:σ[i]?=some (some (.ref n)))(hn:h[n]?=some (.lst us))(ee:af cf e σ h=.ok w h)(hp:ar w=true)(hz:us.length<=1000000) :
  af cf (.meth .append (.var i) [e]) σ h=.ok .non (h.set n (.lst (us++[w]))):=by
 have z:bN h (.ref n)=some us:=by show(match h[n]? with|some (.lst ws)=>some ws|_=>none)=some us;rw[hn]
 rw[af,av hs,ag,zF (show eT .append h (.ref n)=true by show(bN h (.ref n)).isSome=true;rw[z];rfl),dJ,ee]
 show(match h[n]? with|some (.lst us)=>if ar w=true/\us.length<sizeLine then Res.ok W.non (h.set n (.lst (us++[w]))) else .stuck|_=>.stuck)=_
 rw[hn]
 dsimp only
 rw[zF ⟨hp,Zf hz zD⟩]
theorem tY{cf:CF}{fw:Nat}{e:E}{σ:ai}{h h1:aa}{w:W}(ee:af cf e σ h=.ok w h1):aL cf fw (.exp e) σ h=.ok (.nx σ) h1:=by rw[aL,ee,ag]
theorem tX{cf:CF}{fw:Nat}{is:List Nat}{e:E}{b:List S}{σ:ai}{h:aa}{n:Nat}(ee:af cf e σ h=.ok (aw n) h)(hz:n<2^62):aL cf fw (.for_ is (.rng [e]) b) σ h=fo is (a9 cf fw b) ((List.range n).map λ(k:Nat)=>W.int (0+(k:Int))) σ h:=by
 rw[aL,dJ,ee,ag,ag];have c:-(2^62)<=(n:Int)/\(n:Int)<2^62:=zL;have z:kG [aw n]=some ((List.range n).map λ(k:Nat)=>W.int (0+(k:Int))):=by rw[cQ];unfold jR;dsimp only;rw[zF c,ZT]
 rw[z]
theorem jF(i)(w)(σ):aV [i] w σ=some (σ.set i (some w)):=rfl
mutual
noncomputable def jZ:W->Bool
 |.int _=>true
 |.str _=>true
 |.tup ws=>dr ws&&decide (ws.length<=100000)
 |.lst ws=>dr ws&&decide (ws.length<=100000)
 |_=>false
noncomputable def dr:List W->Bool
 |[]=>true
 |w::ws=>jZ w&&dr ws
end
mutual
noncomputable def jM:W->Nat
 |.tup ws=>dz ws+1
 |.lst ws=>dz ws+1
 |_=>0
noncomputable def dz:List W->Nat
 |[]=>0
 |w::ws=>Nat.max (jM w) (dz ws)
end
theorem qg:∀{ws:List W}{w:W},dr ws=true->w∈ws->jZ w=true
 |[],_,_,h=>nomatch h
 |u::ws,w,h,m=>by rw[dr,zI]at h;rcases zV.mp m with e|m;simp_all;exact qg h.2 m
theorem qm:∀{ws:List W}{w:W},w∈ws->jM w<=dz ws
 |[],_,h=>nomatch h
 |u::ws,w,m=>by rw[dz];rcases zV.mp m with e|m;subst e;exact Nat.le_max_left _ _;exact zf (qm m) (Nat.le_max_right _ _)
abbrev Fv(f:Nat):List S:=[.if_ (.not_ (.call f [(.ix V0 Y3),(.ix V1 Y3)])) [.ret (.con (.bl false))] []]
noncomputable abbrev AF(f : Nat) : List S := [.if_ (.isi V1 [.list, .tuple]) [.asg 2 (.ite (.isi V1 [.list]) (.isi V0 [.list]) (.isi V0 [.tuple])),
 .if_ (.or_ (.not_ Y2) (.cmp .NotEq (.blt .len [V0]) (.blt .len [V1]))) [.ret (.con (.bl false))] [],
 .for_ [3] (.rng [(.blt .len [V1])]) (Fv f),
 .ret (.con (.bl true))] [],
 .if_ (.isi V1 [.str]) [.ret (.and_ (.isi V0 [.str]) (.cmp .Eq V0 V1))] [],
 .ret (.and_ (.isi V0 [.int]) (.and_ (.not_ (.isi V0 [.bool])) (.cmp .Eq V0 V1)))]
theorem JT{cf:CF}{a:E}{ts:List Ty}{σ:ai}{h h1:aa}{x:W}{bs:List Bool}(ea:af cf a σ h=.ok x h1)(e:ts.mapM (bz h1 x)=some bs):af cf (.isi a ts) σ h=.ok (.bl (bs.any id)) h1:=by rw[af,ea,ag,e];rfl
theorem cM{cf:CF}{a:E}{σ:ai}{h h1:aa}{x:W}{us:List W}(ea:af cf a σ h=.ok x h1)(e:seqA h1 x=some us):af cf (.blt .len [a]) σ h=.ok (aw us.length) h1:=by rw[af,aq ea aA];show mW x h1=_;unfold mW;rw[e];rfl
theorem nq{cf:CF}{fw f:Nat}{x:W}{ws:List W}{h:aa}(hx:∀k:Nat,k<ws.length->∃w,cU x (aw k) h=.ok w h/\cf f [w,w] h=.ok (.bl true) h):∀(ks:List Nat) (r:Option W),(∀k∈ks,k<ws.length) ->
  ∃r',fo [3] (a9 cf fw (Fv f)) (ks.map λ(k:Nat)=>W.int (0+(k))) [some x,some x,some (.bl true),r] h=.ok (.nx [some x,some x,some (.bl true),r']) h
 |[],r,_=>⟨r,rfl⟩
 |k::ks,r,hk=>by obtain⟨r',e⟩:=nq   hx ks (some (aw k)) λj hj=>hk j (zo _ hj);obtain⟨w,e1,e2⟩:=hx k (hk k zQ);refine⟨r',?_⟩;rw[zR,Int.zero_add _];refine(fZ (jF _ _ _)   ((ak (dk (cb  (bY (jh (du (av  rfl) (av  rfl) e1) (du (av  rfl) (av  rfl) e1) e2))))).trans ?_)).trans e;rfl
abbrev xQ:Str:="abcdefghijklmnopqrstuvwxyz"
def rH(n:Nat):Str:=⟨#[xQ.cps.toList.getD n 0]⟩
theorem oS(h:n<26)(c):cU (.str xQ) (aw n) c=.ok (.str (rH n)) c:=by show NP xQ ((n)) c=_;unfold NP;have hl:xQ.cps.toList.length=26:=rfl;rw[zF zD,kH];unfold rH;simp_all
theorem bG(n):(rH n).length=1:=rfl
def dF(how shift:Nat):Str:=Txt.mul (rH (shift/26%26)) ((how/3%11:Nat):Int)
noncomputable def aR(how shift k:Nat):Str:=if how%3<2 then
  Txt.slice (dF how shift) none (some ((how/33%11:Nat):Int))++rH ((5*k+shift)%26)++rH ((k/26+shift)%26)++Txt.slice (dF how shift) (some ((how/33%11:Nat):Int)) none
 else Txt.mul (rH ((k/12+shift)%26)) ((1+k%12:Nat):Int)
theorem oK{x:Str}{n m:Nat}(hx:x.length=1)(hn:n<=m):(Txt.mul x (n)).length<=m:=by have:=len_mul_leN (x:=x) (n:=(n)) (L:=1) (N:=m) (by simp_all) (by simp_all);simp_all
theorem rh(how shift):(dF how shift).length<=11:=oK (bG _) zL
theorem bq(a b:Str):(a++b).length=a.length+b.length:=by show(a.cps++b.cps).size=_;rw[Array.size_append];rfl
theorem Aw(how shift k:Nat):(aR how shift k).length<=24:=by
 unfold aR
 split
 ·rw[bq,bq,bq,bG,bG]
  have h1:=Txt.slice_le (dF how shift) none (some ((how/33%11:Nat)))
  have h2:=Txt.slice_le (dF how shift) (some ((how/33%11:Nat):Int)) none
  have h3:=rh how shift
  lia
 ·exact zf (oK (m:=12) (bG _) zL) zD
theorem kQ{x:Str}{n:Nat}(h:aa)(hx:x.length<=1000)(hn:n<=1000):dQ .Mult (.str x) (aw n) h=.ok (.str (Txt.mul x (n))) h:=by
 show(if x.length<=1000/\-1000<=((n):Int)/\((n):Int)<=1000 then Res.ok (W.str (Txt.mul x n)) h else .stuck)=_
 grind
theorem oA(h)(hx:x.length<=1000)(hy:y.length<=1000):dQ .Add (.str x) (.str y) h=.ok (.str (x++y)) h:=by show(if x.length+y.length<=sizeLine then Res.ok (W.str (x++y)) h else .stuck)=_;rw[zF (by rw[Zq];lia)]
theorem Ae{lo hi:Option E}(ea:af cf a σ h=.ok (.str x) h)(el:um cf lo σ h=.ok l h)(eu:um cf hi σ h=.ok u h)(hx:x.length<=1000):af cf (.sl a lo hi) σ h=.ok (.str (Txt.slice x l u)) h:=by rw[af,ea,ag,el,ag,eu];show(if x.length<=1000 then Res.ok (W.str (Txt.slice x l u)) h else .stuck)=_;simp_all
theorem yw:um cf none σ h=.ok none h:=rfl
theorem Bz{cf:CF}{a:E}{i:Int}{σ:ai}{h:aa}(ea:af cf a σ h=.ok (.int i) h):um cf (some a) σ h=.ok (some i) h:=by rw[um,ea,ag]
noncomputable abbrev uE : List S := [.asg 8 (.ix Y3 (.bin .Mod (.bin .Add (.bin .Mult N5 V7) Y2) Kl)),
 .asg 9 (.ix Y3 (.bin .Mod (.bin .Add (.bin .FloorDiv V7 Kl) Y2) Kl)),
 .if_ (.cmp .Lt (.bin .Mod V1 N3) N2) [.exp (.meth .append v6 [(.bin .Add (.bin .Add (.bin .Add (.sl v4 none (some V5)) V8) V9) (.sl v4 (some V5) none))])] [.exp (.meth .append v6 [(.bin .Mult (.ix Y3 (.bin .Mod (.bin .Add (.bin .FloorDiv V7 BZ) Y2) Kl)) (.bin .Add N1 (.bin .Mod V7 BZ)))])]]
noncomputable abbrev lh : List S := [.asg 3 (.con (.str "abcdefghijklmnopqrstuvwxyz")),
 .asg 4 (.bin .Mult (.ix Y3 (.bin .Mod (.bin .FloorDiv Y2 Kl) Kl)) (.bin .Mod (.bin .FloorDiv V1 N3) (.con (.int 11)))),
 .asg 5 (.bin .Mod (.bin .FloorDiv V1 (.con (.int 33))) (.con (.int 11))),
 .fresh 6 (.lst []),
 .for_ [7] (.rng [V0]) uE,
 .ret v6]
theorem oy{cf:CF}{a b:E}{m n:Nat}{σ:ai}{h:aa}(ea:af cf a σ h=.ok (aw m) h)(eb:af cf b σ h=.ok (aw n) h):bJ cf (.cmp .Lt a b) σ h=.ok (decide (m<n)) h:=by refine bY ((eW ea eb (o3 _ _ _)).trans ?_);simp_all
theorem Ni(h:n<2^10):n<2^9000:=zG h (ZA zS zS)
theorem kr(cf:CF)(fw)(m how shift)(h:aa):∀(ks:List Nat) (us:List Str) (r8 r9 r7:Option W),us.length+ks.length<=100000->(∀k∈ks,k<100000)->shift<100000->∃r7' r8' r9',
  fo [7] (a9 cf fw uE) (ks.map λ(k:Nat)=>W.int (0+(k:Int))) [some (aw m),some (aw how),some (aw shift),some (.str xQ),some (.str (dF how shift)),some (aw (how/33%11)),some (.ref h.length),r7,r8,r9] (h++[.lst (us.map W.str)])
   = .ok (.nx [some (aw m),some (aw how),some (aw shift),some (.str xQ),some (.str (dF how shift)),some (aw (how/33%11)),some (.ref h.length),r7',r8',r9']) (h++[.lst ((us++ks.map (aR how shift)).map W.str)])
 |[],us,r8,r9,r7,_,_,_=>⟨r7,r8,r9,by rw[zzl,fo];simp⟩
 |k::ks,us,r8,r9,r7,hn,hk,hs=>by
  rw[Zn]at hn;obtain⟨r7',r8',r9',e⟩:=kr cf fw m how shift h ks (us++[aR how shift k]) (some (.str (rH ((5*k+shift)%26)))) (some (.str (rH ((k/26+shift)%26)))) (some (aw k)) (by rw[zM,Zu];lia) (λj hj=>hk j (zo _ hj)) hs;refine⟨r7',r8',r9',?_⟩;have hkk:=hk k zQ;rw[zR,show(0+(k:Int))=(k:Int) from Int.zero_add _];have el:us++List.map (aR how shift) (k::ks)=(us++[aR how shift k])++List.map (aR how shift) ks:=zS;rw[el];refine(fZ (jF _ _ _)  (h2:=h++[.lst ((us++[aR how shift k]).map W.str)]) ?_).trans e;have hcell:(h++[Ob.lst (us.map W.str)])[h.length]?=some (.lst (us.map W.str)):=by rw[zE (zC _),Nat.sub_self];rfl
  have hset:(h++[Ob.lst (us.map W.str)]).set h.length (.lst (us.map W.str++[W.str (aR how shift k)]))=h++[.lst ((us++[aR how shift k]).map W.str)]:=zS;refine(ak (bV (du (U3 rfl) (dN (n:=26) (kO (oN (m:=5) aT (U7 rfl) (sJ zD)) (U2 rfl)) aT zD) (oS (zzc _ zD) _)))).trans ?_;refine(ak (bV (du (U3 rfl) (dN (n:=26) (kO (jv (n:=26) (U7 rfl) aT zD (Ni zD)) (U2 rfl)) aT zD) (oS (zzc _ zD) _)))).trans ?_;have hul:(us.map W.str).length<=1000000:=by rw[zj];lia
  by_cases hw:how%3<2;have en:aR how shift k=Txt.slice (dF how shift) none (some ((how/33%11:Nat):Int))++rH ((5*k+shift)%26)++rH ((k/26+shift)%26)++Txt.slice (dF how shift) (some ((how/33%11:Nat):Int)) none:=by unfold aR;rw[zF hw]
  have h3:=rh how shift;have h1:=Txt.slice_le (dF how shift) none (some ((how/33%11:Nat):Int));have h2:=Txt.slice_le (dF how shift) (some ((how/33%11:Nat):Int)) none;refine(ak ((pE ((oy (m:=how%3) (n:=2) (dN (n:=3) (U1 rfl) aT zD) aT).trans (by rw[z0 hw]))).trans ((ak (tY (n6 (i:=6) (n:=h.length) (us:=us.map W.str) (w:=.str (aR how shift k)) rfl hcell ?_ rfl hul))).trans (by rw[a9])))).trans ?_;rw[en]
  exact cI (cI (cI (Ae (U4 rfl) yw (Bz (U5 rfl)) zL) (av (i:=8) rfl) (oA _ zL (by rw[bG];decide))) (av (i:=9) rfl) (oA _ (by rw[bq,bG];lia) (by rw[bG];decide)))
   (Ae (U4 rfl) (Bz (U5 rfl)) yw zL) (oA _ (by rw[bq,bq,bG,bG];lia) zL)
  rw[a9,hset];rfl;have en:aR how shift k=Txt.mul (rH ((k/12+shift)%26)) ((1+k%12:Nat):Int):=by unfold aR;rw[zP hw]
  refine(ak ((Ql ((oy (m:=how%3) (n:=2) (dN (n:=3) (U1 rfl) aT zD) aT).trans (by rw[zX hw]))).trans ((ak (tY (n6 (i:=6) (n:=h.length) (us:=us.map W.str) (w:=.str (aR how shift k)) rfl hcell ?_ rfl hul))).trans (by rw[a9])))).trans ?_;rw[en]
  exact cI (du (U3 rfl) (dN (n:=26) (kO (jv (n:=12) (U7 rfl) aT zD (Ni zD)) (U2 rfl)) aT zD) (oS (zzc _ zD) _))
   (kO (m:=1) aT (dN (n:=12) (U7 rfl) aT zD)) (kQ _ (by rw[bG];decide) zL)
  rw[a9,hset];rfl
theorem aC:∀ss:List Str,aj (ss.map W.str)=true
 |[]=>rfl
 |s::ss=>by rw[zR,aj,aC ss];rfl
theorem rJ(m how shift)(h)(hm:m<=1000)(hs:shift<100000):a9 cf fw lh [some (aw m),some (aw how),some (aw shift),none,none,none,none,none,none,none] h=.ok (.ret (.ref h.length)) (h++[.lst (((List.range m).map (aR how shift)).map W.str)]):=by obtain⟨r7,r8,r9,lp⟩:=kr cf fw m how shift h (List.range m) [] none none none (by simp;lia) (λk hk=>by have:=ZE.mp hk;lia) hs;refine(ak (bV (cI (du (U3 rfl) (dN (n:=26) (jv (n:=26) (U2 rfl) aT zD (Ni zD)) aT zD) (oS (zzc _ zD) _)) (dN (n:=11) (jv (n:=3) (U1 rfl) aT zD (Ni zD)) aT zD) (kQ _ (by rw[bG];decide) zL)))).trans ?_;refine(ak (bV (dN (n:=11) (jv (n:=33) (U1 rfl) aT zD (Ni zD)) aT zD))).trans ?_;refine(ak (σ':=[some (aw m),some (aw how),some (aw shift),some (.str xQ),some (.str (dF how shift)),some (aw (how/33%11)),some (.ref h.length),none,none,none]) (h':=h++[.lst []]) ?_).trans ?_;rfl;refine(ak ((tX (U0 rfl) zL).trans lp)).trans ?_;exact aH (aU (av (i:=6) rfl))
theorem tJ{fw:Nat}{tb:List Fn}{f:Nat}(hg:tb[f]?=some ⟨3,10,lh,none⟩)(d m how shift:Nat)(h:aa)(hm:m<=1000)(hs:shift<100000):ae fw tb (d+1) f [aw m,aw how,aw shift] h=.ok (.lst (((List.range m).map (aR how shift)).map W.str)) h:=by rw[ah hg rfl];show J.fin h.length (a9 (ae fw tb d) fw lh [some (aw m),some (aw how),some (aw shift),none,none,none,none,none,none,none] h)=_;rw[rJ m how shift h hm hs];unfold J.fin;dsimp only;rw[iE];simp_all
theorem mi{n:Nat}{src:Option Nat}{f:W->aa->Res (Option W)}{F:W->W}{h:aa}(hn:h.length=n)(hs:∀k,src=some k->k<n):∀(ws us:List W),(∀w∈ws,∀us,f w (h++[.lst us])=.ok (some (F w)) (h++[.lst us])/\ar (F w)=true)->us.length+ws.length<=100000 ->
  lc n src f ws (h++[.lst us])=.ok () (h++[.lst (us++ws.map F)])
 |[],us,_,_=>by rw[lc];simp
 |w::ws,us,hf,hl=>by
  rw[Zn]at hl;obtain⟨e,hp⟩:=hf w zQ us;rw[lc,e,ag,zF (λk _=>rfl)];dsimp only;have hcell:(h++[Ob.lst us])[n]?=some (.lst us):=by simp_all
  rw[hcell];dsimp only;rw[zF ⟨hp,by rw[Zq];lia⟩];have hset:(h++[Ob.lst us]).set n (.lst (us++[F w]))=h++[.lst (us++[F w])]:=by simp_all
  rw[hset,mi hn hs ws (us++[F w]) (λw' hw'=>hf w' (zo _ hw')) (by rw[zM,Zu];lia)];simp
theorem fq(hn:h.length=n):jP n (.ok () (h++[.lst us]))=.ok (.lst us) h:=by unfold jP;simp_all
theorem iL:∀ss,cY (ss.map W.str)=some ss
 |[]=>rfl
 |s::ss=>by show(cY (ss.map W.str)).map (s::·)=_;rw[iL ss];rfl
theorem mw{cf:CF}{a:E}{σ:ai}{h:aa}{x:W}{ss:List Str}(ea:af cf a σ h=.ok x h)(hx:seqA h x=some (ss.map W.str))(hl:ss.length<64):af cf (.blt .sorted [a]) σ h=.ok (.lst ((mU i9 ss).map W.str)) h:=by rw[af,aq ea aA];show v7 x h=_;unfold v7;rw[hx];show(match cY (ss.map W.str) with|some ss=>if ss.length<64 then Res.ok (W.lst ((mU i9 ss).map W.str)) h else .stuck|none=>.stuck)=_;rw[iL];simp_all
theorem wd(ea:af cf a σ h=.ok (.lst (ss.map W.str)) h)(hl:ss.length<64):af cf (.blt .sorted [a]) σ h=.ok (.lst ((mU i9 ss).map W.str)) h:=mw ea rfl hl
theorem ic{cf:CF}{a:E}{σ:ai}{h:aa}{us:List W}(ea:af cf a σ h=.ok (.lst us) h):af cf (.blt .tuple [a]) σ h=.ok (.tup us) h:=by rw[af,aq ea aA];rfl
theorem rA{cf:CF}{is:List Nat}{n m:Nat}{a elt:E}{σ:ai}{h:aa}{F:Nat->W}(ea:af cf a σ h=.ok (aw m) h)(hm:m<=1000)
  (hF:∀k,k<m->ar (F k)=true/\∀hh,cK (aV is (aw k) (kE is σ++List.replicate n none)) (cg cf []) (af cf elt) hh=.ok (some (F k)) hh):af cf (.compR is n [a] [] elt) σ h=.ok (.lst ((List.range m).map F)) h:=by
 rw[af,aq ea aA,ag]
 have hr:kG [aw m]=some ((List.range m).map λ(k:Nat)=>W.int (0+(k:Int))):=by have cc:-(2^62)<=((m:Nat):Int)/\((m:Nat):Int)<2^62:=zL;rw[cQ];unfold jR;dsimp only;rw[zF cc,ZT]
 rw[hr]
 dsimp only
 rw[mi (F:=λw=>match w with|.int i=>F i.toNat|_=>.non) rfl (λk e=>by cases e) _ [] ?_ (by simp;lia),fq rfl]
 ·simp
 simp_all
theorem jA{cf:CF}{bd:Option ai}{σ:ai}{elt:E}{h:aa}{w:W}(e:bd=some σ)(ee:af cf elt σ h=.ok w h):cK bd (cg cf []) (af cf elt) h=.ok (some w) h:=by subst e;unfold cK;dsimp only;rw[cg,ag,zF rfl,ee,ag]
theorem dX:∀ss:List Str,dr (ss.map W.str)=true
 |[]=>rfl
 |s::ss=>by rw[zR,dr,dX ss];rfl
theorem dZ:∀ss:List Str,dz (ss.map W.str)=0
 |[]=>rfl
 |s::ss=>by rw[zR,dz,dZ ss];rfl
theorem mn{is:List Nat}{body:ai->aa->Res Fl}{Iv:Nat->ai->aa->Prop}:∀(ws:List W) (i:Nat) (σ:ai) (h:aa),
  (∀j w σ h,ws[j]?=some w->Iv (i+j) σ h->∃σ1 σ2 h2,aV is w σ=some σ1/\body σ1 h=.ok (.nx σ2) h2/\Iv (i+j+1) σ2 h2)->Iv i σ h->∃σ2 h2,fo is body ws σ h=.ok (.nx σ2) h2/\Iv (i+ws.length) σ2 h2
 |[],i,σ,h,_,q=>⟨σ,h,by rw[fo],q⟩
 |w::ws,i,σ,h,st,q=>by
  obtain⟨σ1,σ2,h2,e1,e2,q2⟩:=st 0 w σ h rfl q;obtain⟨σ3,h3,e3,q3⟩:=mn ws (i+1) σ2 h2 (λj w σ h e q=>by
   have:=st (j+1) w σ h (by simpa using e) (by grind)
   rw[show i+(j+1)+1=i+1+j+1 by lia]at this
   exact this) q2
  exact⟨σ3,h3,(fZ e1 e2).trans e3,by grind⟩
theorem sP{i n:Nat}{body:ai->aa->Res Fl}{Iv:Nat->ai->aa->Prop}{σ:ai}{h:aa}(st:∀k σ h,k<n->Iv k σ h->∃σ2 h2,body (σ.set i (some (aw k))) h=.ok (.nx σ2) h2/\Iv (k+1) σ2 h2)(q:Iv 0 σ h) :
  ∃σ2 h2,fo [i] body ((List.range n).map λ(k:Nat)=>W.int (0+(k:Int))) σ h=.ok (.nx σ2) h2/\Iv n σ2 h2:=by
 have:=mn (is:=[i]) (body:=body) (Iv:=Iv) ((List.range n).map λ(k:Nat)=>W.int (0+(k:Int))) 0 σ h (λj w σ h e q=>by
  have hj:j<n:=by
   have:=(ze.mp e).1
   simpa using this
  have ew:w=aw j:=by simp_all
  subst ew
  rw[zzT]at q ⊢
  obtain⟨σ2,h2,e2,q2⟩:=st j σ h hj q
  exact⟨_,σ2,h2,rfl,e2,q2⟩) q
 simpa using this
theorem ik{i:Nat}{body:ai->aa->Res Fl}{σ:ai}{h:aa}:∀(ws:List W) (r:Option W),(∀w∈ws,body (σ.set i (some w)) h=.ok (.nx (σ.set i (some w))) h)->∃r',fo [i] body ws (σ.set i r) h=.ok (.nx (σ.set i r')) h
 |[],r,_=>⟨r,rfl⟩
 |w::ws,r,st=>by obtain⟨r',e⟩:=ik ws (some w) (λw' h'=>st w' (zo _ h'));refine⟨r',(fZ  ?_ (st w zQ)).trans e⟩;show some ((σ.set i r).set i (some w))=_;simp_all
def sC:List Str->List Str->Str->Option Str
 |k::ks,v::vs,x=>if k=x then some v else sC ks vs x
 |_,_,_=>none
theorem lJ:∀ks vs x,eU ks (vs.map W.str) x=(sC ks vs x).map W.str
 |[],_,_=>rfl
 |_::_,[],_=>rfl
 |k::ks,v::vs,x=>by rw[zR];unfold eU sC;by_cases h:k=x;simp_all;rw[zP h,zP h];exact lJ ks vs x
theorem kK:∀{ks vs:List Str}{x y:Str},sC ks vs x=some y->y∈vs
 |[],_,_,_,h=>by cases h
 |_::_,[],_,_,h=>by cases h
 |k::ks,v::vs,x,y,h=>by unfold sC at h;split at h;simp_all;exact zo _ (kK h)
theorem mr:∀{ks:List Str}{ws:List W}{x:Str},ks.length=ws.length->((eU ks ws x).isSome=true↔x∈ks)
 |[],_,_,_=>by unfold eU;simp
 |_::_,[],_,h=>by cases h
 |k::ks,w::ws,x,h=>by
  unfold eU
  by_cases e:k=x
  ·simp_all
  ·rw[zP e,mr (by simp_all)]
   grind
theorem qS:∀(ks vs:List Str) (x v:Str),∃us:List Str,o7 ks (vs.map W.str) x (.str v)=us.map W.str/\us.length=vs.length/\∀u∈us,u=v\/u∈vs
 |[],vs,_,_=>⟨vs,rfl,rfl,λu h=>.inr h⟩
 |_::_,[],_,_=>⟨[],rfl,rfl,λu h=>.inr h⟩
 |k::ks,w::vs,x,v=>by
  obtain⟨us,e1,e2,e3⟩:=qS ks vs x v
  refine⟨(if k=x then v else w)::us,?_,by simp_all,λu hu=>?_⟩
  ·rw[zR]
   unfold o7
   grind
  grind
theorem pV(ks vs:List Str)(x v)(hl:ks.length=vs.length):∃ks' us:List Str,dY ks (vs.map W.str) x (.str v)=(ks',us.map W.str)/\ks'.length=us.length/\ks'.length<=ks.length+1/\(∀u∈us,u=v\/u∈vs)/\(∀k∈ks',k=x\/k∈ks):=by
 unfold dY
 split
 ·obtain⟨us,e1,e2,e3⟩:=qS ks vs x v
  grind
 ·refine⟨ks++[x],vs++[v],by rw[zY];rfl,by simp[hl],zS,λu hu=>?_,λk hk=>?_⟩
  ·grind
  grind
theorem AG{cf:CF}{a b:E}{σ:ai}{h:aa}{x:Str}{y:W}{ks:List Str}{ws:List W}(ea:af cf a σ h=.ok (.str x) h)(eb:af cf b σ h=.ok y h)(ed:bH h y=some (ks,ws)):bJ cf (.cmp .In a b) σ h=.ok (eU ks ws x).isSome h:=by refine bY (eW ea eb ?_);show xO false (.str x) y h=_;unfold xO;rw[ed];rfl
def aK(x:Str)(ss:List Str):Bool:=Ke (uv (.str x)) ((ss.map W.str).map uv)
theorem dP:∀ss:List Str,(ss.map W.str).all eE=true
 |[]=>rfl
 |s::ss=>by rw[zR,ZO,dP ss];rfl
theorem pO{cf:CF}{a b:E}{σ:ai}{h:aa}{x:Str}{y:W}{ss:List Str}(ea:af cf a σ h=.ok (.str x) h)(eb:af cf b σ h=.ok y h)(ed:bH h y=none)(el:seqA h y=some (ss.map W.str)):bJ cf (.cmp .NotIn a b) σ h=.ok (!aK x ss) h:=by refine bY (eW ea eb ?_);show xO true (.str x) y h=_;unfold xO;rw[ed,el];dsimp only;rw[zF (by rw[dP];rfl)];rfl
theorem IZ{cf:CF}{a b:E}{σ:ai}{h:aa}{x:Str}{y w:W}{ks:List Str}{ws:List W}(ea:af cf a σ h=.ok y h)(eb:af cf b σ h=.ok (.str x) h)(ed:bH h y=some (ks,ws))(eg:eU ks ws x=some w):af cf (.ix a b) σ h=.ok w h:=by refine du ea eb ?_;unfold cU;simp_all
theorem Be{cf:CF}{a b:E}{m n:Nat}{σ:ai}{h:aa}(ea:af cf a σ h=.ok (aw m) h)(eb:af cf b σ h=.ok (aw n) h):bJ cf (.cmp .NotEq a b) σ h=.ok (!decide (m=n)) h:=by
 refine bY ((eW ea eb (yp _ _ _)).trans ?_)
 congr 3
 grind
theorem EJ{cf:CF}{fw i n:Nat}{k e:E}{σ:ai}{h:aa}{ks:List Str}{ws:List W}{x:Str}{w:W}(hs:σ[i]?=some (some (.ref n)))(hn:h[n]?=some (.dic ks ws))(ek:af cf k σ h=.ok (.str x) h)(ee:af cf e σ h=.ok w h)(hp:ar w=true)(hz:ks.length<=1000000) :
  aL cf fw (.setix (.var i) k e) σ h=.ok (.nx σ) (h.set n (.dic (dY ks ws x w).1 (dY ks ws x w).2)):=by
 rw[aL,ee,ag,av hs,ag,ek,ag]
 dsimp only
 rw[hn]
 dsimp only
 rw[zF ⟨hp,Zf hz zD⟩]
theorem aZ{h:aa}{o:Ob}:(h++[o])[h.length]?=some o:=zS
theorem fC{h:aa}{o o':Ob}:(h++[o]).set h.length o'=h++[o']:=zS
theorem v8:J.fin h.length (.ok (.ret (.ref h.length)) (h++[.lst ws]))=.ok (.lst ws) h:=by unfold J.fin;dsimp only;rw[iE,aZ];simp
theorem E0{h:aa}{o:aa}{s:Str}:J.fin h.length (.ok (.ret (.str s)) (h++o))=.ok (.str s) h:=by unfold J.fin;dsimp only;rw[eI (.str s) rfl];simp
abbrev bc:Str:="CROWN"
noncomputable def l7(nx:Str->Option Str)(dead:Str->Bool):Nat->List Str->Str->Str
 |0,_,_=>bc
 |n+1,qs,x=>match nx x with
  |none=>bc
  |some y=>if y∈qs then bc else if dead y=false then y else l7 nx dead n (qs++[y]) y
noncomputable def fM(nx:Str->Option Str)(dead:Str->Bool)(name:Str):Nat->Str->Str
 |0,_=>bc
 |n+1,x=>match nx x with
  |none=>bc
  |some y=>if y≠name/\dead y=false then y else fM nx dead name n y
theorem me{nx:Str->Option Str}{dead:Str->Bool}{name:Str}{qs:List Str}(hn:∀q∈qs,∃y,nx q=some y/\y∈qs)(hd:∀q∈qs,q=name\/dead q=true):∀(n:Nat) (x:Str),x∈qs->fM nx dead name n x=bc
 |0,_,_=>rfl
 |n+1,x,hx=>by
  obtain⟨y,e,hy⟩:=hn x hx
  unfold fM
  rw[e]
  dsimp only
  rw[zP]
  ·exact me hn hd n y hy
  grind
theorem dC:∀{qs P:List Str},qs.Nodup->(∀q∈qs,q∈P)->qs.length<=P.length
 |[],_,_,_=>ZD _
 |q::qs,P,nd,hs=>by
  rw[Z3]at nd
  have h2:=dC (P:=P.erase q) nd.2 (λr hr=>(List.mem_erase_of_ne (by grind)).mpr (hs r (zo _ hr)))
  grind
theorem vJ{nx:Str->Option Str}{dead:Str->Bool}{name:Str}{P:List Str}{m:Nat}(hP:P.length<=m)(hv:∀x y,nx x=some y->y∈P):∀(n k:Nat) (qs:List Str) (x:Str),qs.Nodup->(∀q∈qs,q∈P)->x∈qs->name∈qs->(∀q∈qs,q=name\/dead q=true)->(∀q∈qs,q≠x->∃y,nx q=some y/\y∈qs)->m+1<=n+qs.length->m+1<=k+qs.length->l7 nx dead n qs x=fM nx dead name k x
 |0,k,qs,x,nd,hs,hx,hnm,hd,hc,hn,hk=>by
  have:=dC nd hs
  lia
 |n+1,0,qs,x,nd,hs,hx,hnm,hd,hc,hn,hk=>by
  have:=dC nd hs
  lia
 |n+1,k+1,qs,x,nd,hs,hx,hnm,hd,hc,hn,hk=>by
  unfold l7
  cases e:nx x with
  |none=>unfold fM;rw[e]
  |some y =>
   dsimp only
   by_cases hy:y∈qs
   ·rw[zF hy]
    refine(me (qs:=qs) (λq hq=>?_) hd (k+1) x hx).symm
    by_cases hq2:q=x
    ·subst hq2;exact⟨y,e,hy⟩
    ·exact hc q hq hq2
   ·rw[zP hy]
    unfold fM
    rw[e]
    dsimp only
    have yn:y≠name:=by rintro rfl;exact hy hnm
    by_cases dy:dead y=false
    ·rw[zF dy,zF ⟨yn,dy⟩]
    ·rw[zP dy,zP (λz=>dy z.2)]
     have dy':dead y=true:=by cases h:dead y<;>simp_all
     refine vJ hP hv n k (qs++[y]) y ?_ ?_ zS (by simp[hnm]) ?_ ?_ (by simp;lia) (by simp;lia)
     ·rw[ZK]
      exact⟨nd,zS,λa ha b hb=>by rw[zT.mp hb];rintro rfl;exact hy ha⟩
     ·intro q hq
      rcases Ze.mp hq with hq|hq
      ·exact hs q hq
      ·rw[zT.mp hq];exact hv x y e
     ·grind
     ·intro q hq hq2
      rcases Ze.mp hq with hq|hq
      ·by_cases h3:q=x
       ·subst h3;exact⟨y,e,zS⟩
       ·obtain⟨z,z1,z2⟩:=hc q hq h3
        exact⟨z,z1,Zl _ z2⟩
      ·exact absurd (zT.mp hq) hq2
noncomputable abbrev ug : List S := [.asg 4 (.ix V1 v4),
 .if_ (.cmp .In v4 Y3) [.ret (.con (.str "CROWN"))] [],
 .if_ (.cmp .NotIn v4 Y2) [.ret v4] [],
 .setix Y3 v4 (.con (.bl true))]
abbrev iR : List S := [.freshD1 3 V0 (.con (.bl true)),
 .asg 4 V0,
 .while_ (.cmp .In v4 V1) ug,
 .ret (.con (.str "CROWN"))]
noncomputable abbrev Kd : List S := [.if_ (.cmp .NotIn Y3 V1) [.ret (.con (.str "CROWN"))] [],
 .asg 3 (.ix V1 Y3),
 .if_ (.and_ (.cmp .NotEq Y3 V0) (.cmp .NotIn Y3 Y2)) [.ret Y3] []]
abbrev Gg : List S := [.asg 3 V0,
 .for_ [4] (.rng [(.con (.int 31))]) Kd,
 .ret (.con (.str "CROWN"))]
theorem JA{is:List Nat}{body:ai->aa->Res Fl}{w:W}{ws:List W}{σ σ1:ai}{h h2:aa}{u:W}(hb:aV is w σ=some σ1)(e:body σ1 h=.ok (.ret u) h2):fo is body (w::ws) σ h=.ok (.ret u) h2:=by rw[fo,hb];dsimp only;rw[e];rfl
theorem A8(ht:test σ h=.ok true h1)(hb:body σ h1=.ok (.ret u) h2):wh test body (n+1) σ h=.ok (.ret u) h2:=by rw[wh,ht,ag,hb];rfl
theorem Az:∀{qs:List Str}{ws:List W}{x:Str}{w:W},x∉qs->dY qs ws x w=(qs++[x],ws++[w]):=by unfold dY;simp_all
theorem qi{dW:W}{cf:CF}{fw:Nat}{name:Str}{ks vs dead P:List Str}{m:Nat}{h:aa}(Ki:∀o,bH (h++[o]) dW=none/\seqA (h++[o]) dW=some (dead.map W.str))(hP:P.length<=m)(hv:∀y∈vs,y∈P)(hl:ks.length=vs.length):∀(n:Nat) (qs:List Str) (bs:List W) (x:Str),qs.Nodup->(∀q∈qs,q∈P)->qs.length=bs.length->m+1<=n+qs.length->qs.length<=1000->m<=1000->∃fl c,
  wh (bJ cf (.cmp .In v4 V1)) (a9 cf fw ug) n [some (.str name),some (.dic ks (vs.map W.str)),some dW,some (.ref h.length),some (.str x)] (h++[.dic qs bs])=.ok fl (h++[c])
   /\ (fl=.ret (.str (l7 (sC ks vs) (λy=>aK y dead) n qs x))\/((∃σ',fl=.nx σ')/\l7 (sC ks vs) (λy=>aK y dead) n qs x=bc))
 |0,qs,bs,x,nd,hs,hb,hn,hz,hm=>by
  have:=dC nd hs
  lia
 |n+1,qs,bs,x,nd,hs,hb,hn,hz,hm=>by
  let σ1:ai:=[some (.str name),some (.dic ks (vs.map W.str)),some dW,some (.ref h.length),some (.str x)];let h1:aa:=h++[.dic qs bs];have t0:=AG (cf:=cf) (σ:=σ1) (h:=h1) (a:=.var 4) (b:=.var 1) (x:=x) (ks:=ks) (ws:=vs.map W.str) (av rfl) (av rfl) rfl;rw[lJ]at t0;unfold l7;cases e:sC ks vs x with
  |none=>rw[e]at t0;exact⟨_,_,vB t0,.inr ⟨⟨_,rfl⟩,rfl⟩⟩
  |some y=>
   rw[e]at t0;have yP:y∈P:=hv y (kK e);let σ2:ai:=[some (.str name),some (.dic ks (vs.map W.str)),some dW,some (.ref h.length),some (.str y)];have d1:eU ks (vs.map W.str) x=some (.str y):=by rw[lJ,e];rfl
   have dc:bH h1 (.ref h.length)=some (qs,bs):=by show(match h1[h.length]? with|some (.dic ks ws)=>some (ks,ws)|_=>none)=_;rw[show h1[h.length]?=some (.dic qs bs) from aZ]
   have a0:aL cf fw (.asg 4 (.ix V1 v4)) σ1 h1=.ok (.nx σ2) h1:=bV (IZ (U1 rfl) (U4 rfl) rfl d1);have t1:=AG (cf:=cf) (σ:=σ2) (h:=h1) (a:=.var 4) (b:=.var 3) (x:=y) (av rfl) (av rfl) dc;have t2:=pO (cf:=cf) (σ:=σ2) (h:=h1) (a:=.var 4) (b:=.var 2) (x:=y) (ss:=dead) (av rfl) (av rfl) (Ki _).1 (Ki _).2;dsimp only;by_cases hy:y∈qs;rw[zF hy];rw[(mr hb).mpr hy]at t1;exact⟨_,_,A8 t0 ((ak a0).trans (aH ((pE t1).trans (aH (aU ax))))),.inl rfl⟩;rw[zP hy];have d2:(eU qs bs y).isSome=false:=by cases q:(eU qs bs y).isSome;rfl;exact absurd ((mr hb).mp q) hy
   rw[d2]at t1;by_cases dy:aK y dead=false;rw[zF dy];rw[dy]at t2;exact⟨_,_,A8 t0 ((ak a0).trans ((ak (dk t1)).trans (aH ((pE t2).trans (aH (aU (U4 rfl))))))),.inl rfl⟩;rw[zP dy];have dy':aK y dead=true:=by cases q:aK y dead<;>simp_all
   rw[dy']at t2;have nd':(qs++[y]).Nodup:=by rw[ZK];exact⟨nd,zS,λa ha b hb=>by rw[zT.mp hb];rintro rfl;exact hy ha⟩
   have hs':∀q∈qs++[y],q∈P:=λq hq=>by rcases Ze.mp hq with hq|hq;exact hs q hq;rw[zT.mp hq];exact yP
   have lq:=dC nd' hs';rw[zM,Zu]at lq;obtain⟨fl,c,e3,q3⟩:=qi (cf:=cf) (fw:=fw) (name:=name) (dead:=dead) (h:=h) Ki hP hv hl n (qs++[y]) (bs++[.bl true]) y nd' hs' (by simp[hb]) (by simp;lia) (by simp;lia) hm;refine⟨fl,c,(uT t0 ((ak a0).trans ((ak (dk t1)).trans ((ak (dk t2)).trans ((ak (EJ (i:=3) (n:=h.length) rfl aZ (U4 rfl) ax rfl zL)).trans ?_))))).trans e3,q3⟩;rw[a9,Az hy,fC]
theorem yr{fw:Nat}{tb:List Fn}{f:Nat}(hg:tb[f]?=some ⟨3,5,iR,none⟩)(d:Nat)(name:Str)(ks vs dead P:List Str)(h:aa)(dW:W)(Ki:∀o,bH (h++[o]) dW=none/\seqA (h++[o]) dW=some (dead.map W.str))(hP:P.length<=30)(hn:name∈P)(hv:∀y∈vs,y∈P)(hl:ks.length=vs.length)(hw:31<=fw) :
  ae fw tb (d+1) f [.str name,.dic ks (vs.map W.str),dW] h=.ok (.str (fM (sC ks vs) (λy=>aK y dead) name 31 name)) h:=by
 rw[ah hg rfl]
 have nd:([name]:List Str).Nodup:=zS
 obtain⟨fl,c,e,q⟩:=qi  (fw:=fw) (name:=name) (ks:=ks) (vs:=vs) (dead:=dead) (P:=P) (m:=30) (h:=h) Ki hP hv hl fw [name] [.bl true] name nd (by simp[hn]) rfl (by simp;lia) zS (Nat.le_add_left ..)
 have hq:l7 (sC ks vs) (λy=>aK y dead) fw [name] name=fM (sC ks vs) (λy=>aK y dead) name 31 name :=
  vJ hP (λx y e=>hv y (kK e)) fw 31 [name] name nd (by simp[hn]) zS zS zS (λq hq hq2=>absurd (zT.mp hq) hq2) (by simp;lia) zS
 rw[hq]at q
 show J.fin h.length (a9 (ae fw tb d) fw iR [some (.str name),some (.dic ks (vs.map W.str)),some dW,none,none] h)=_
 have s1:a9 (ae fw tb d) fw iR [some (.str name),some (.dic ks (vs.map W.str)),some dW,none,none] h=.ok (.ret (.str (fM (sC ks vs) (λy=>aK y dead) name 31 name))) (h++[c]):=by
  refine(ak (σ':=[some (.str name),some (.dic ks (vs.map W.str)),some dW,some (.ref h.length),none]) (h':=h++[.dic [name] [.bl true]]) ?_).trans ?_;rw[aL,av (i:=0) (w:=.str name) rfl,ag,ax,ag];rw[aZ];dsimp only;rw[fC];rfl;refine(ak (bV (U0 rfl))).trans ?_;have lp:aL (ae fw tb d) fw (.while_ (.cmp .In v4 V1) ug) [some (.str name),some (.dic ks (vs.map W.str)),some dW,some (.ref h.length),some (.str name)] (h++[.dic [name] [.bl true]])=.ok fl (h++[c]):=by rw[aL];exact e
  rcases q with rfl|⟨⟨σ',rfl⟩,q⟩;exact aH lp;refine(ak lp).trans (aH (aU ?_));rw[q];exact ax
 rw[s1]
 exact E0
theorem D4(e:bJ cf a σ h=.ok x h)(e2:bJ cf b σ h=.ok y h):bJ cf (.or_ a b) σ h=.ok (x||y) h:=by
 cases x with
 |true=>exact A4 e
 |false=>exact bZ e e2
theorem sD{cf:CF}{a b:E}{m n:Nat}{σ:ai}{h:aa}(ea:af cf a σ h=.ok (aw m) h)(eb:af cf b σ h=.ok (aw n) h):bJ cf (.cmp .Gt a b) σ h=.ok (decide (n<m)) h:=by refine bY ((eW ea eb (ui _ _ _)).trans ?_);simp_all
theorem uA{cf:CF}{a:E}{σ:ai}{h:aa}{us:List W}(ea:af cf a σ h=.ok (.lst us) h):af cf (.blt .list [a]) σ h=.ok (.lst us) h:=by rw[af,aq ea aA];rfl
theorem jX{n:Nat}{src:Option Nat}{f:W->aa->Res (Option W)}{p:Str->Bool}{h:aa}(hn:h.length=n):∀(ss us:List Str),(∀s∈ss,∀us,f (.str s) (h++[.lst us])=.ok (if p s then some (.str s) else none) (h++[.lst us]))->us.length+ss.length<=100000 ->
  lc n src f (ss.map W.str) (h++[.lst (us.map W.str)])=.ok () (h++[.lst ((us++ss.filter p).map W.str)])
 |[],us,_,_=>by rw[zzl,lc];simp
 |s::ss,us,hf,hl=>by
  rw[Zn]at hl
  have e:=hf s zQ (us.map W.str)
  rw[zR,lc,e,ag,zF (λk _=>rfl)]
  cases hp:p s with
  |false =>
   rw[zP zD]
   dsimp only
   rw[jX hn ss us (λw' hw'=>hf w' (zo _ hw')) zL,List.filter_cons_of_neg (by rw[hp];decide)]
  |true =>
   rw[zF rfl]
   dsimp only
   rw[<- hn,aZ]
   dsimp only
   rw[zF ⟨rfl,by rw[Zq,zj];lia⟩,fC]
   have:=jX (src:=src) rfl ss (us++[s]) (λw' hw'=>hf w' (zo _ hw')) (by rw[zM,Zu];lia)
   grind
theorem D9{fw:Nat}{tb:List Fn}{f:Nat}(hg:tb[f]?=some ⟨3,5,iR,none⟩)(d:Nat)(name:Str)(ks vs dead P:List Str)(h:aa)(hP:P.length<=30)(hn:name∈P)(hv:∀y∈vs,y∈P)(hl:ks.length=vs.length)(hw:31<=fw) :
  ae fw tb (d+1) f [.str name,.dic ks (vs.map W.str),.lst (dead.map W.str)] h=.ok (.str (fM (sC ks vs) (λy=>aK y dead) name 31 name)) h :=
 yr hg d name ks vs dead P h _ (λo=>⟨rfl,rfl⟩) hP hn hv hl hw
def vi(s:Str):Prop:=∀c∈s.cps.toList,c<1000
theorem o9(ha:vi a)(hb:vi b):vi (a++b):=λc hc=>by
 have e:(a++b).cps.toList=a.cps.toList++b.cps.toList:=by show(a.cps++b.cps).toList=_;simp
 rw[e]at hc;exact(Ze.mp hc).elim (ha c) (hb c)
theorem nC(ha:vi a):vi (Txt.slice a l u):=λc hc=>by unfold Txt.slice at hc;split at hc;exact ha c hc;obtain⟨i,_,e⟩:=zzM.mp hc;exact ha c (zz6.mpr (Array.mem_of_getElem? e))
theorem oI(ha:vi a):vi (Txt.mul a n):=λc hc=>by
 unfold Txt.mul at hc;split at hc;cases hc;split at hc;exact ha c hc;have:∀(l:List (Array Nat)) (acc:Array Nat),(∀x∈l,x=a.cps)->(∀c∈acc.toList,c<1000)->∀c∈(l.foldl (λx1 x2=>x1++x2) acc).toList,c<1000:=by
  intro l;induction l with
  |nil=>simp
  |cons x l ih=>intro acc hx h;refine ih (acc++x) (λy hy=>hx y (zo _ hy)) λc hc=>?_;rw[Array.toList_append]at hc;rcases Ze.mp hc with hc|hc;exact h c hc;rw[hx x zQ]at hc;exact ha c hc
 exact this _ #[] (λx hx=>(List.mem_replicate.mp hx).2) zS c hc
theorem js(n):vi (rH n):=λc hc=>by
 have e:c=xQ.cps.toList.getD n 0:=by simpa [rH] using hc
 rw[e,List.getD];cases h:xQ.cps.toList[n]? with
 |none=>simp
 |some x=>have:∀y∈xQ.cps.toList,y<1000:=zD;exact this x (zH h)
theorem BN(how shift k):vi (aR how shift k):=by unfold aR;split;exact o9 (o9 (o9 (nC (oI (js _))) (js _)) (js _)) (nC (oI (js _)));exact oI (js _)
def aE(s:Str):Prop:=s.length<=100/\vi s
theorem E5(how shift k):aE (aR how shift k):=⟨zf (Aw how shift k) zS,BN how shift k⟩
theorem gR:aE bc:=⟨zD,by unfold vi;decide⟩
theorem GD{σ:ai}{i:Nat}{s:Str}(e:σ[i]?=some (some (.str s)))(h:aE s):uC σ (.rep i)=true:=by unfold uC;dsimp only;rw[e,zI];exact⟨z0 (zf h.1 zS),zzn.mpr λc hc=>z0 (h.2 c hc)⟩
theorem Jz{σ:ai}{i:Nat}{z:Int}(e:σ[i]?=some (some (.int z)))(h:z.natAbs<10^100):uC σ (.var i)=true:=by unfold uC;simp_all
theorem cD{t:W}{ws:List W}{h:aa}{k:Nat}{w:W}(hs:seqA h t=some ws)(e:ws[k]?=some w):cU t (aw k) h=.ok w h:=by
 have z:∀(t:W),seqA h t=some ws->(match seqA h t with|some ws=>(match L2.atI ws ((k)) with|some w=>Res.ok w h|none=>.stuck)|none=>.stuck)=.ok w h:=λt ht=>by rw[ht];dsimp only;rw[kH,e]
 cases t with
 |str x=>cases hs
 |_=>exact z _ hs
theorem oO(h:k<n):L2.ixN n (k)=some k:=by unfold L2.ixN;simp_all
theorem qI{cf:CF}{a:E}{n:Nat}{σ:ai}{h h1:aa}(ea:af cf a σ h=.ok (aw n) h1)(hn:1<=n):af cf (.bin .Sub a N1) σ h=.ok (aw (n-1)) h1:=by
 refine(cI ea ax (Au _ _ _)).trans ?_
 grind
theorem cN(e:aL cf fw s σ h=.exc c h'):a9 cf fw (s::ss) σ h=.exc c h':=by rw[a9,e];rfl
theorem gY(hp:ps.all (uC σ)=true):aL cf fw (.raise c ps) σ h=.exc c h:=by rw[aL,zF hp]
theorem xW(ea:af cf a σ h=.ok (.int x) h)(eb:af cf b σ h=.ok (.int y) h):bJ cf (.cmp .Gt a b) σ h=.ok (decide (y<x)) h:=bY (eW ea eb (ui _ _ _))
theorem Ji(ea:af cf a σ h=.ok (.int x) h)(eb:af cf b σ h=.ok (.int y) h):bJ cf (.cmp .Lt a b) σ h=.ok (decide (x<y)) h:=bY (eW ea eb (o3 _ _ _))
theorem jf{cf:CF}{i n:Nat}{a c:E}{σ:ai}{h:aa}{x:W}{ss:List Str}{p:Str->Bool}(ea:af cf a σ h=.ok x h)(hs:seqA h x=some (ss.map W.str))(hm:ss.length<=1000)
  (hF:∀s∈ss,∀hh,bJ cf c ((kE [i] σ++List.replicate n none).set i (some (.str s))) hh=.ok (p s) hh) (hi:i<σ.length+n):af cf (.compS [i] n a [c] (.var i)) σ h=.ok (.lst ((ss.filter p).map W.str)) h:=by
 rw[af,ea,ag,uS hs]
 dsimp only
 have:=jX  (src:=lz x) (f:=λw h=>cK (aV [i] w (kE [i] σ++List.replicate n none)) (cg cf [c]) (af cf (.var i)) h) (p:=p) (h:=h) rfl ss [] (λs hs us=>by
  have t:=hF s hs (h++[.lst us])
  show bnd (cg cf [c] _ _) _=_
  rw[cg]
  have t':jb (af cf c ((kE [i] σ++List.replicate n none).set i (some (.str s))) (h++[.lst us]))=.ok (p s) (h++[.lst us]):=t
  rw[t',ag]
  cases hp:p s with
  |false=>rfl
  |true =>
   rw[zF rfl,cg,ag,zF rfl,zF rfl,av (w:=.str s),ag]
   rw[Zb]
   simp[kE]
   lia) (by simp;exact zf ‹_› zD)
 rw[zzl]at this
 rw[this,fq rfl,zzV]
structure Pt where
 p:Nat
 q:Nat
 hs:List Str
 tr:List W
noncomputable def iI(tr:List W)(dd nn:Nat)(s:Nat×Nat)(hs:List Str):W:=.tup [mO s,.tup (hs.map W.str),.tup (tr++[.tup [aw dd,aw nn,mO s,.tup (hs.map W.str)]])]
def aJ(x:Pt):W:=.tup [sh x.p x.q,.tup (x.hs.map W.str),.tup x.tr]
structure Pt.Ok (x:Pt):Prop where
 q0:0<x.q
 p1:x.p<=1000
 q1:x.q<=1000
 h0:1<=x.hs.length
 h1:x.hs.length<=6
 nm:∀s∈x.hs,aE s
 pu:aj x.tr=true
 oq:dr x.tr=true
 dp:dz x.tr<=4
 tl:x.tr.length<=100
theorem l9:∀{a b:List W},dr a=true->dr b=true->dr (a++b)=true
 |[],_,_,h=>h
 |w::a,b,h1,h2=>by rw[dr,zI]at h1;show dr (w::(a++b))=true;rw[dr,h1.1,l9 h1.2 h2];rfl
theorem vc:Nat.max a b<=n↔a<=n/\b<=n:=Nat.max_le
theorem lP:∀{a b:List W}{n:Nat},dz a<=n->dz b<=n->dz (a++b)<=n
 |[],_,_,_,h=>h
 |w::a,b,n,h1,h2=>by rw[dz,vc]at h1;show dz (w::(a++b))<=n;rw[dz,vc];exact⟨h1.1,lP h1.2 h2⟩
theorem bw{tr:List W}{dd nn:Nat}{s:Nat×Nat}{hs:List Str}(h:aj tr=true):ar (iI tr dd nn s hs)=true:=by have:aj (tr++[.tup [aw dd,aw nn,mO s,.tup (hs.map W.str)]])=true:=iX h (by simp[ar,aj,aC]);simp[iI,ar,aj,aC,this]
theorem da:∀{ws:List W},(∀w∈ws,ar w=true)->aj ws=true
 |[],_=>rfl
 |w::ws,h=>by rw[aj,h w zQ,da λu hu=>h u (zo _ hu)];rfl
abbrev dg:List S:=[.ret (.tup [Y3,v4,(.bin .Add V0 (.tup [(.tup [V1,Y2,Y3,v4])]))])]
theorem cq{fw:Nat}{tb:List Fn}{f:Nat}(hg:tb[f]?=some ⟨5,5,dg,none⟩)(d dd nn:Nat)(s:Nat×Nat)(hs:List Str)(tr:List W)(ht:aj tr=true)(hl:tr.length<=1000)(h:aa) :
  ae fw tb (d+1) f [.tup tr,aw dd,aw nn,mO s,.tup (hs.map W.str)] h=.ok (iI tr dd nn s hs) h:=by
 rw[ah hg rfl]
 let σ:ai:=[some (.tup tr),some (aw dd),some (aw nn),some (mO s),some (.tup (hs.map W.str))]
 show J.fin h.length (a9 (ae fw tb d) fw dg σ h)=_
 have e:a9 (ae fw tb d) fw dg σ h=.ok (.ret (iI tr dd nn s hs)) h:=by refine aH (aU (kd (aq (U3 rfl) (aq (U4 rfl) (aq (cI (U0 rfl) (kd (aq (kd (aq (U1 rfl) (aq (U2 rfl) (aq (U3 rfl) (aq (U4 rfl) aA)))) (by show 4<=1000;decide)) aA) zS) ?_) aA))) zS));show NN (fG (some tr) (some [_]) h)=_;unfold fG;dsimp only;rw[zF (by rw[Zq];show tr.length+1<=_;lia)];rfl
 rw[e]
 have hp:ar (iI tr dd nn s hs)=true:=bw ht
 unfold iI at hp ⊢
 rw[ar]at hp
 exact fW hp
abbrev DT:List S:=[.par 2 3 Y3 (.bin .Mod Y2 Y3)]
abbrev Mq:List S:=[.par 2 3 V0 V1,.while_ (.cmp .NotEq Y3 N0) DT,.ret (.tup [(.bin .FloorDiv V0 Y2),(.bin .FloorDiv V1 Y2)])]
end J
namespace J
open PySem
abbrev Sw(_:α->aa->Res β):Type:=Res β
abbrev PV(f:α->aa->Res β)(r:Res α):Sw f:=bnd r f
theorem Ky:bnd r f=PV f r:=rfl
def Q4(op:Operator)(x y:W)(h:aa):Res W:=pQ (dQ op x y h)
theorem FI:Q4 op x y h=dQ op x y h:=fT
theorem Ln:af cf (.bin op a b) σ h=bnd (af cf a σ h) λx h=>bnd (af cf b σ h) λy h=>Q4 op x y h:=by simp only[af,FI]
def Qt(m:Mt)(x:W)(ws:List W)(h:aa):Res W:=pQ (jr m x ws h)
theorem Gb:Qt m x ws h=jr m x ws h:=fT
theorem N7:af cf (.meth m a es) σ h=bnd (af cf a σ h) λx h=>if eT m h x=true then bnd (bL cf es σ h) λws h=>Qt m x ws h else .stuck:=by simp only[af,Gb]
def Q2(x y:Option (List W))(h:aa):Res (List W):=pQ (fG x y h)
theorem Fm:Q2 x y h=fG x y h:=fT
theorem Lo:nV cf (.bin .Add a b) σ h=bnd (af cf a σ h) λx h=>bnd (af cf b σ h) λy h=>Q2 (bN h x) (bN h y) h:=by simp only[nV,Fm]
def vE(cf:CF)(fw:Nat)(b:List S)(r:Res Fl):Res Fl:=bnd r λfl h=>match fl with
 |.nx σ=>a9 cf fw b σ h
 |fl=>.ok fl h
theorem Dr:a9 cf fw [] σ h=.ok (.nx σ) h:=rfl
theorem Ed:a9 cf fw (s::r) σ h=vE cf fw r (aL cf fw s σ h):=rfl
theorem Hy:vE cf fw b (.ok (.nx σ) h)=a9 cf fw b σ h:=rfl
theorem Cm:vE cf fw b (.ok (.ret w) h)=.ok (.ret w) h:=rfl
theorem EE:vE cf fw b (.ok (.brk w) h)=.ok (.brk w) h:=rfl
theorem C4:vE cf fw b (.ok (.cnt w) h)=.ok (.cnt w) h:=rfl
theorem CP:vE cf fw b (.exc c h)=.exc c h:=rfl
theorem Fd:vE cf fw [] r=r:=by rcases r with⟨_|_|_|_,_⟩|_|_<;>rfl
theorem Cu{c:Prop} [Decidable c]:vE cf fw r (if c then a else b)=if c then vE cf fw r a else vE cf fw r b:=by split<;>rfl
abbrev Rm(c:Prop) [Decidable c](_:Nat)(_:aa)(α:Type):Type:=Res α
def Ce(c:Prop) [Decidable c](e:Nat)(h:aa)(x:Res α):Rm c e h α:=if c then .exc e h else x
theorem PL{c:Prop} [Decidable c]{x:Res α}:(if c then .exc e h else x)=Ce c e h x:=rfl
theorem Nb{c:Prop} [Decidable c]:vE cf fw r (Ce c e h b)=Ce c e h (vE cf fw r b):=by unfold Ce;split<;>rfl
theorem Mx{c:Prop} [Decidable c]{b:Res α}{f:α->aa->Res β}:bnd (Ce c e h b) f=Ce c e h (bnd b f):=by unfold Ce;split<;>rfl
theorem K9{c:Prop} [Decidable c]{b:Res Fl}:J.fin h.length (Ce c e h b)=Ce c e h (J.fin h.length b):=by unfold Ce;split<;>simp[J.fin]
theorem Qb{f:α->β}:List.map f (a::l)=f a::List.map f l:=rfl
theorem Qk{f:α->β}:List.map f []=[]:=rfl
theorem Qa{l:List α}:(a::l).length=l.length+1:=rfl
theorem OW:([]:List α).length=0:=rfl
theorem PY{a:α}:[a].length=1:=rfl
theorem Ol{a b:α}:[a,b].length=2:=rfl
theorem Pq{a b c:α}:[a,b,c].length=3:=rfl
theorem PU{a:α}:List.replicate (n+1) a=a::List.replicate n a:=rfl
theorem OH{a:α}:List.replicate 0 a=[]:=rfl
theorem P1{a:α}:(a::l)++r=a::(l++r):=rfl
theorem Pz{r:List α}:[]++r=r:=rfl
theorem Om{a:α}:(a::l)[0]?=some a:=rfl
theorem Pr{a:α}:(a::l)[n+1]?=l[n]?:=rfl
theorem Ov{a:α}:(a::l).set (n+1) b=a::l.set n b:=rfl
theorem PQ{a:α}:(a::l).set 0 b=b::l:=rfl
theorem OB{b:α}:([]:List α).set n b=[]:=rfl
theorem IH{x:α}{a b:β}:(if [x].length<=sizeLine then a else b)=a:=rfl
theorem IE{x y:α}{a b:β}:(if [x,y].length<=sizeLine then a else b)=a:=rfl
theorem Hs{x y z:α}{a b:β}:(if [x,y,z].length<=sizeLine then a else b)=a:=rfl
theorem JN{x y z u:α}{a b:β}:(if [x,y,z,u].length<=sizeLine then a else b)=a:=rfl
theorem JZ{x y z u v:α}{a b:β}:(if [x,y,z,u,v].length<=sizeLine then a else b)=a:=rfl
theorem J6{a b:β}:(if(0:Nat)=0 then a else b)=a:=rfl
theorem JP{a b:β}:(if(1:Nat)=1 then a else b)=a:=rfl
theorem IT{a b:β}:(if uB (.ins 1 us)=true then a else b)=a:=rfl
theorem Ez{c:Prop} [Decidable c]{a b:Res α}{f:α->aa->Res β}:bnd (if c then a else b) f=if c then bnd a f else bnd b f:=by split<;>rfl
theorem vD{a:Res α}{f:α->aa->Res β}{g:β->aa->Res γ}:bnd (bnd a f) g=bnd a λx h=>bnd (f x h) g:=by cases a<;>rfl
theorem Eu{c:Prop} [Decidable c]{a b:Res Fl}:J.fin n (if c then a else b)=if c then J.fin n a else J.fin n b:=by split<;>rfl
theorem Nu:J.fin h.length (.exc c h)=.exc c h:=by simp[J.fin]
theorem Ng:J.fin h.length (.ok (.nx σ) h)=.ok .non h:=by simp[J.fin]
theorem LS:J.fin h.length (.ok (.ret (.bl b)) h)=.ok (.bl b) h:=aF
theorem k6(hp:ar w=true):J.fin h.length (.ok (.ret w) h)=.ok w h:=eM hp (λn z=>by subst z;cases hp) rfl
theorem M9:qU h (.bl b)=some b:=rfl
theorem HI{k:Nat}(h1:1<=k):(k:Int)-1=((k-1:Nat):Int):=zL
def Qw(x:W)(r:Res W)(h:aa):Res W:=match x with
 |.bl true=>fH true h
 |.bl false=>r
 |_=>.stuck
def GB(x:W)(r:Res W)(h:aa):Res W:=match x with
 |.bl true=>r
 |.bl false=>fH false h
 |_=>.stuck
theorem LO:af cf (.or_ a b) σ h=bnd (af cf a σ h) λx h=>Qw x (af cf b σ h) h:=by rw[af];rfl
theorem IL:af cf (.and_ a b) σ h=bnd (af cf a σ h) λx h=>GB x (af cf b σ h) h:=by rw[af];rfl
theorem LD:Qw (.bl x) (.ok (.bl y) h) h=.ok (.bl (x||y)) h:=by cases x<;>rfl
theorem Ik:GB (.bl x) (.ok (.bl y) h) h=.ok (.bl (x&&y)) h:=by cases x<;>rfl
theorem Km:bK .len [.lst us] h=.ok (.int us.length) h:=rfl
theorem L9:bK .len [.tup us] h=.ok (.int us.length) h:=rfl
theorem FF(e:h[n]?=some (.lst us)):bK .len [.ref n] h=.ok (.int us.length) h:=by show mW _ _=_;simp[mW,seqA,hZ,i7,e,jB]
theorem Hf:cU (.tup (a::r)) (.int 0) h=.ok a h:=by simp[cU,seqA,hZ,L2.atI,L2.ixN]
theorem Hn:cU (.tup (a::b::r)) (.int 1) h=.ok b h:=cD (k:=1) (ws:=a::b::r) rfl rfl
theorem B6:cU (.tup (a::b::c::r)) (.int 2) h=.ok c h:=cD (k:=2) (ws:=a::b::c::r) rfl rfl
theorem DF:cU (.lst (a::r)) (.int 0) h=.ok a h:=cD (k:=0) (ws:=a::r) rfl rfl
theorem Ht:cU (.lst (a::b::r)) (.int 1) h=.ok b h:=cD (k:=1) (ws:=a::b::r) rfl rfl
theorem LK{k n:Nat}:(no_index (@OfNat.ofNat Int k instOfNat)<(n:Int))=(@OfNat.ofNat Nat k (instOfNatNat k)<n):=propext Int.ofNat_lt
theorem Mi{k n:Nat}:((n:Int)<no_index (@OfNat.ofNat Int k instOfNat))=(n<@OfNat.ofNat Nat k (instOfNatNat k)):=propext Int.ofNat_lt
theorem Mf{k n:Nat}:(no_index (@OfNat.ofNat Int k instOfNat)<=(n:Int))=(@OfNat.ofNat Nat k (instOfNatNat k)<=n):=propext Int.ofNat_le
theorem La{k n:Nat}:((n:Int)<=no_index (@OfNat.ofNat Int k instOfNat))=(n<=@OfNat.ofNat Nat k (instOfNatNat k)):=propext Int.ofNat_le
theorem LW{k n:Nat}:((n:Int)=no_index (@OfNat.ofNat Int k instOfNat))=(n=@OfNat.ofNat Nat k (instOfNatNat k)):=propext Int.ofNat_inj
theorem KO{k n:Nat}:(n:Int)+no_index (@OfNat.ofNat Int k instOfNat)=((n+@OfNat.ofNat Nat k (instOfNatNat k):Nat):Int):=rfl
theorem MC:cU (aJ x) (.int 0) h=.ok (sh x.p x.q) h:=Hf
theorem L0:cU (aJ x) (.int 1) h=.ok (.tup (x.hs.map W.str)) h:=Hn
theorem Lk:cU (aJ x) (.int 2) h=.ok (.tup x.tr) h:=B6
theorem Og:bD .NotIn (.str x) (.tup (ss.map W.str)) h=.ok (.bl (!aK x ss)) h:=by simp[bD,xO,bH,seqA,hZ,i7,eE,dP,aK,fH,eE,uv]
theorem Ow:bD .NotIn (.str x) (.lst (ss.map W.str)) h=.ok (.bl (!aK x ss)) h:=by simp[bD,xO,bH,seqA,hZ,i7,eE,dP,aK,fH,eE,uv]
theorem Qh:bD .In (.str x) (.tup (ss.map W.str)) h=.ok (.bl (aK x ss)) h:=by simp[bD,xO,bH,seqA,hZ,i7,eE,dP,aK,fH,eE,uv]
theorem OY:bD .In (.str x) (.lst (ss.map W.str)) h=.ok (.bl (aK x ss)) h:=by simp[bD,xO,bH,seqA,hZ,i7,eE,dP,aK,fH,eE,uv]
theorem rC(h:aE s):(s.length<=1000/\(s.cps.toList.all λc=>decide (c<1000))=true)=True:=eq_true ⟨zf h.1 zD,zzn.mpr λc hc=>z0 (h.2 c hc)⟩
theorem ky(hl:us.length+vs.length<=1000):dQ .Add (.lst us) (.lst vs) h=.ok (.lst (us++vs)) h:=by show GA (fG (some us) (some vs) h)=_;simp only[fG,zF (show us.length+vs.length<=sizeLine by rw[PySem.sizeLine_eq];lia)];rfl
theorem Lx(hl:us.length+vs.length<=1000):dQ .Add (.tup us) (.tup vs) h=.ok (.tup (us++vs)) h:=by show NN (fG (some us) (some vs) h)=_;simp only[fG,zF (show us.length+vs.length<=sizeLine by rw[PySem.sizeLine_eq];lia)];rfl
theorem Ph:bK .int [.bl b] h=.ok (.int (if b=true then 1 else 0)) h:=rfl
theorem Lh:bK .list [.tup us] h=.ok (.lst us) h:=rfl
theorem MH:bK .list [.lst us] h=.ok (.lst us) h:=rfl
theorem Mu:bK .tuple [.lst us] h=.ok (.tup us) h:=rfl
theorem LG:bK .tuple [.tup us] h=.ok (.tup us) h:=rfl
theorem rN:jr .append (.ref h.length) [w] (h++[.lst us])=if ar w=true/\us.length<sizeLine then .ok .non (h++[.lst (us++[w])]) else .stuck:=by simp[jr,qQ,DI,aZ,fC]
theorem B5:jr .extend (.ref h.length) [.lst vs] (h++[.lst us])=if aj vs=true/\us.length+vs.length<=sizeLine then .ok .non (h++[.lst (us++vs)]) else .stuck:=by simp[jr,qQ,EM,bN,aZ,fC]
theorem Dv:eT .append (h++[.lst us]) (.ref h.length)=true:=by simp[eT,bN,aZ]
theorem Ec:eT .extend (h++[.lst us]) (.ref h.length)=true:=by simp[eT,bN,aZ]
theorem AK:bK .len [.ref h.length] (h++[.lst us])=.ok (.int us.length) (h++[.lst us]):=FF aZ
theorem yc:seqA (h++[.lst us]) (.ref h.length)=some us:=by simp[seqA,hZ,i7,aZ]
theorem HV{h:aa}:J.fin h.length (.exc c (h++o))=.exc c h:=by simp[J.fin]
theorem OQ:FA (.lst (a::r)) (some 1) none h=.ok (.lst r) h:=by show Res.ok (W.lst (k8 (a::r) (some ((1:Nat):Int)) none)) h=_;unfold k8;rw[HT.sIx_none,HT.sIx_nat,Nat.min_eq_left zS];simp
theorem Dt{cf:CF}{a b:E}{σ:ai}{h:aa}{m n:Nat}(ea:af cf a σ h=.ok (aw m) h)(eb:af cf b σ h=.ok (aw n) h)(hm:m<=1000000)(hn:n<=1000000)(hl:n-m<=1000):af cf (.lrng a b) σ h=.ok (.lst ((List.range (n-m)).map λi=>aw (m+i))) h:=by
 rw[af,ea,ag,eb,ag];have hr:kG [aw m,aw n]=some ((List.range (n-m)).map λi=>aw (m+i)):=by rw[cQ];unfold jR;dsimp only;rw[zF zL];have e:((n:Int)-(m:Int)).toNat=n-m:=zL;rw[e];refine congrArg some (zzh λk _=>?_);show W.int ((m:Int)+(k:Int))=W.int ((m+k:Nat):Int);rw[Int.natCast_add]
 rw[hr];dsimp only;rw[zF (by rw[zj,zzB];exact hl)]
def NV(x y:W)(h:aa):Res W:=pQ (af (λ_ _ _=>.stuck) (.lrng (.con x) (.con y)) [] h)
theorem Lg:af cf (.lrng a b) σ h=bnd (af cf a σ h) λx h=>bnd (af cf b σ h) λy h=>NV x y h:=by simp only[NV,fT,af,ag]
theorem MQ{m n:Nat}(hm:m<=1000000)(hn:n<=1000000)(hl:n-m<=1000):NV (.int (m:Int)) (.int (n:Int)) h=.ok (.lst ((List.range (n-m)).map λi=>aw (m+i))) h:=by unfold NV;rw[fT];exact Dt ax ax hm hn hl
def NH(is:List Nat)(b:List S)(cf:CF)(fw:Nat)(w:W)(σ:ai)(h:aa):Res Fl:=pQ (aL cf fw (.for_ is (.rng [.con w]) b) σ h)
theorem MT:aL cf fw (.for_ is (.rng [e]) b) σ h=bnd (af cf e σ h) λw h=>NH is b cf fw w σ h:=by simp only[NH,fT,aL,bL,af,ag,vD]
theorem wj{n:Nat}(hz:n<2^62):NH is b cf fw (.int (n:Int)) σ h=fo is (a9 cf fw b) ((List.range n).map λ(k:Nat)=>W.int (0+(k:Int))) σ h:=by unfold NH;rw[fT];exact tX ax hz
theorem EO:bD .Eq (.str a) (.str b) h=.ok (.bl (decide (a=b))) h:=rfl
theorem mM:¬ ("grant":Str)="sever"/\¬ ("grant":Str)="hand"/\¬ ("grant":Str)="follow"/\¬ ("sever":Str)="grant"/\¬ ("hand":Str)="grant"/\¬ ("hand":Str)="sever"/\¬ ("hand":Str)="follow"/\¬ ("follow":Str)="grant"/\¬ ("follow":Str)="sever"/\¬ ("follow":Str)="hand"/\¬ ("die":Str)="grant"/\¬ ("die":Str)="sever"/\¬ ("die":Str)="hand"/\¬ ("die":Str)="follow"/\¬ ("sever":Str)="follow"/\¬ ("sever":Str)="die"/\¬ ("hand":Str)="die"/\¬ ("sever":Str)="hand"/\¬ ("grant":Str)="die"/\¬ ("follow":Str)="die":=by decide +kernel
theorem OM:cU (.lst (a::b::c::r)) (.int 2) h=.ok c h:=cD (k:=2) (ws:=a::b::c::r) rfl rfl
theorem Pj:cU (.lst (a::b::c::d::r)) (.int 3) h=.ok d h:=cD (k:=3) (ws:=a::b::c::d::r) rfl rfl
theorem P9:cU (.lst (a::b::c::d::e::r)) (.int 4) h=.ok e h:=cD (k:=4) (ws:=a::b::c::d::e::r) rfl rfl
end J
set_option hygiene false
local macro_rules | `(tactic| simp_arith $c:optConfig [$ls,*])=>do
  let ns <- ("↓J.Ky ↓J.IH ↓J.IE ↓J.Hs ↓J.JN ↓J.JZ ↓J.J6 ↓J.JP ↓J.IT ↓J.PY ↓J.Ol ↓J.Pq J.PL J.Nb J.Mx J.K9 J.Qb J.Qk J.Qa J.OW J.PU J.OH J.P1 J.Pz J.Om J.Pr J.Ov J.PQ J.OB J.Dr J.Ed J.Hy J.Cm J.EE J.C4 J.CP J.Fd J.Cu J.aL.eq_1 J.aL.eq_2 J.aL.eq_3 J.aL.eq_4 J.aL.eq_5 J.aL.eq_6 J.aL.eq_7 J.aL.eq_8 J.aL.eq_9 J.aL.eq_10 J.aL.eq_11 J.aL.eq_12 J.aL.eq_13 J.aL.eq_14 J.aL.eq_15 J.aL.eq_16 J.aL.eq_17 J.aL.eq_18 J.aL.eq_20 J.aL.eq_22 J.aL.eq_23 J.aL.eq_24 J.aL.eq_25 J.aL.eq_26 J.af.eq_1 J.af.eq_2 J.af.eq_3 J.af.eq_4 J.Ln J.FI J.af.eq_6 J.af.eq_7 J.af.eq_10 J.af.eq_11 J.af.eq_12 J.af.eq_13 J.af.eq_14 J.af.eq_15 J.af.eq_16 J.af.eq_17 J.af.eq_18 J.af.eq_19 J.af.eq_20 J.af.eq_21 J.af.eq_22 J.af.eq_24 J.af.eq_25 J.af.eq_26 J.af.eq_27 J.N7 J.Gb J.bL.eq_1 J.bL.eq_2 J.cg.eq_1 J.cg.eq_2 J.ag J.Di J.Ez J.vD J.Eu J.Nu J.Ng J.LS J.jb J.M9 J.jB J.fH J.kE J.DH List.length_range PySem.sizeLine_eq Nat.reduceLeDiff Nat.zero_le Nat.reduceAdd Bool.false_eq_true ↓reduceIte Nat.zero_add Nat.reduceSub List.length_append List.length_map List.length_set Nat.reduceEqDiff J.tm J.Au J.HI and_self true_or or_true false_or or_false true_and and_true or_self if_true if_false ite_self J.o3 J.DZ J.ui J.DP J.HA J.yp J.Lg J.MT J.LO J.IL J.Og J.Ow J.Qh J.OY Int.natAbs_natCast J.LD J.Ik decide_eq_true_eq Bool.or_eq_true Bool.and_eq_true J.Km J.L9 J.rN J.B5 J.Dv J.Ec J.AK J.yc J.HV J.aZ J.fC J.OQ J.um.eq_1 J.um.eq_2 J.nV.eq_1 J.nV.eq_2 J.Lo J.Fm J.nV.eq_4 J.nV.eq_5 Nat.le_add_left Nat.add_sub_cancel J.FF J.Ph J.Lh J.MH J.Mu J.LG ne_eq not_false_eq_true not_true_eq_false Bool.true_eq_false J.Hf J.Hn J.B6 J.MC J.L0 J.Lk J.DF J.Ht J.OM J.Pj J.P9 J.EO J.fX J.LK J.Mi J.Mf J.La J.LW J.KO Int.ofNat_lt Int.ofNat_le Int.ofNat_inj J.uC List.all_cons List.all_nil Bool.and_true Bool.true_and Bool.not_eq_true' decide_eq_false_iff_not".splitOn " ").toArray.mapM fun s=>do
    if s.startsWith "↓" then `(Lean.Parser.Tactic.simpLemma| ↓$(Lean.mkIdent (s.drop 1).toString.toName):ident) else `(Lean.Parser.Tactic.simpLemma| $(Lean.mkIdent s.toName):ident)
  let a:Lean.Syntax.TSepArray [`Lean.Parser.Tactic.simpStar,`Lean.Parser.Tactic.simpErase,`Lean.Parser.Tactic.simpLemma] ",":=.ofElems (ns.map fun x=>⟨x.raw⟩)
  let b:=Lean.Syntax.TSepArray.ofElems (sep:=",") (a.getElems++ls.getElems)
  `(tactic| set_option backward.defeqAttrib.useBackward true in simp $c:optConfig only [$b,*])
local macro_rules | `(tactic| simp! [$ls,*])=>`(tactic| simp_arith -dsimp [$ls,*])
local macro_rules | `(tactic| dsimp! [$ls,*])=>`(tactic| simp_arith -dsimp -implicitDefEqProofs [$ls,*])
local macro_rules | `(tactic| simp_arith $l:location)=>`(tactic| simp only [J.aw,zR,zzl,Int.natCast_one,Int.cast_ofNat_Int,List.set_cons_zero,List.set_cons_succ,zM,Zn,List.length_nil,zzT] $l)
set_option hygiene true
namespace J
open PySem PySem.Spec PyProof.Rows L2
theorem vq{cf:CF}{a b:E}{x y:Int}{σ:ai}{h:aa}(ea:af cf a σ h=.ok (.int x) h)(eb:af cf b σ h=.ok (.int y) h):af cf (.bin .Add a b) σ h=.ok (.int (x+y)) h:=cI ea eb (tm _ _ _)
theorem tu{P:List Str}(hP:P.Nodup){G:Nat->Nat}(hb:∀j<m,G j<P.length)(hi:∀j<m,∀k<m,G j=G k->j=k):((List.range m).map λj=>P.getD (G j) bc).Nodup:=by refine List.pairwise_map.mpr (List.Pairwise.imp_of_mem  (λ{a b} ha hb' hab e=>?_) List.nodup_range);have h1:=hb a (ZE.mp ha);have h2:=hb b (ZE.mp hb');rw[List.getD,zK h1,List.getD,zK h2]at e;exact hab (hi a (ZE.mp ha) b (ZE.mp hb') ((List.getElem_inj hP).mp e))
theorem AD{S:Int}{L j k:Nat}(hL:0<L)(hj:j<L)(hk:k<L)(e:((S+(j:Int)).fmod (L:Int)).toNat=((S+(k:Int)).fmod (L:Int)).toNat):j=k:=by
 rw[Int.fmod_eq_emod_of_nonneg _ zL,Int.fmod_eq_emod_of_nonneg _ zL]at e
 have h1:=Int.emod_nonneg (S+j) (show(L:Int)≠0 by lia)
 have h2:=Int.emod_nonneg (S+k) (show(L:Int)≠0 by lia)
 have e2:(S+j)%(L:Int)=(S+k)%(L:Int):=zL
 have e3:=Int.emod_eq_emod_iff_emod_sub_eq_zero.mp e2
 have e4:(L:Int) ∣ ((j:Int)-k):=by
  have:=Int.dvd_of_emod_eq_zero e3
  grind
 obtain⟨c,hc⟩:=e4
 have:c=0:=by
  rcases Int.lt_trichotomy c 0 with h|h|h
  ·have:(L:Int)*c<=(L:Int)*(-1):=Int.mul_le_mul_of_nonneg_left zL zL
   lia
  ·exact h
  ·have:(L:Int)*1<=(L:Int)*c:=Int.mul_le_mul_of_nonneg_left zL zL
   lia
 subst this
 lia
noncomputable abbrev cA(c:Nat):List S:=[.if_ (.or_ (.cmp .Lt V1 N1) (.cmp .Gt V1 (.blt .len [V0]))) [.raise c [.lit,.var 1]] [],.ret (.ix V0 (.bin .Sub V1 N1))]
def Seq(t:W)(ws:List W):Prop:=t=.lst ws\/t=.tup ws
theorem Seq.seqA(h:Seq t ws)(hh:aa):J.seqA hh t=some ws:=by rcases h with rfl|rfl<;>rfl
def gT(z:Int)(n:Nat):Bool:=decide (z<1)||decide ((n:Int)<z)
theorem Ay{cf:CF}{t:W}{ws:List W}{z:Int}{σ:ai}{h:aa}{i j:Nat}(ht:Seq t ws)(hi:σ[i]?=some (some (.int z)))(hj:σ[j]?=some (some t)):bJ cf (.or_ (.cmp .Lt (.var i) N1) (.cmp .Gt (.var i) (.blt .len [(.var j)]))) σ h=.ok (gT z ws.length) h :=
 D4 (Ji (av hi) ax) (xW (av hi) (cM (av hj) (ht.seqA h)))
theorem GN(h:gT z n=false):∃k:Nat,z=(k)/\1<=k/\k<=n:=by unfold gT at h;rw[Bool.or_eq_false_iff]at h;have h1:=of_decide_eq_false h.1;have h2:=of_decide_eq_false h.2;exact⟨z.toNat,zL,zL,zL⟩
theorem ja{fw:Nat}{tb:List Fn}{f c:Nat}(hf:tb[f]?=some ⟨2,2,cA c,none⟩)(d:Nat)(t:W)(ws:List W)(z:Int)(h:aa)(ht:Seq t ws)(hz:z.natAbs<10^100)(ho:gT z ws.length=true):ae fw tb (d+1) f [t,.int z] h=.exc c h:=by
 rw[ah hf rfl];show J.fin h.length (a9 (ae fw tb d) fw (cA c) [some t,some (.int z)] h)=_;have e:a9 (ae fw tb d) fw (cA c) [some t,some (.int z)] h=.exc c h:=by refine cN ((pE ((Ay  (j:=0) ht rfl rfl).trans (by rw[ho]))).trans (cN (gY ?_)));show(uC _ .lit&&(uC _ (.var 1)&&true))=true;rw[Jz   rfl hz];rfl
 rw[e];show Res.exc c (h.take h.length)=_;simp_all
theorem ke{fw:Nat}{tb:List Fn}{f c:Nat}(hf:tb[f]?=some ⟨2,2,cA c,none⟩)(d:Nat)(t:W)(ws:List W)(n:Nat)(w:W)(h:aa)(ht:Seq t ws)(h1:1<=n)(hw:ws[n-1]?=some w)(hp:ar w=true)(hnr:∀k,w≠.ref k):ae fw tb (d+1) f [t,aw n] h=.ok w h:=by
 rw[ah hf rfl]
 have ho:gT (n:Int) ws.length=false:=by
  unfold gT
  grind
 show J.fin h.length (a9 (ae fw tb d) fw (cA c) [some t,some (aw n)] h)=_
 have e:a9 (ae fw tb d) fw (cA c) [some t,some (aw n)] h=.ok (.ret w) h :=
  (ak (dk ((Ay (i:=1) (j:=0) ht rfl rfl).trans (by rw[ho])))).trans (aH (aU (du (av  rfl) (qI (av  rfl) h1) (cD (ht.seqA h) hw))))
 rw[e]
 exact eM hp hnr rfl
abbrev rM:List S:=[.fresh 3 (.blt .list [V0]),.setix Y3 (.bin .Sub V1 N1) Y2,.ret Y3]
theorem wq{cf:CF}{fw i:Nat}{a:E}{σ:ai}{h:aa}{t:W}{ws:List W}(ea:af cf a σ h=.ok t h)(hs:seqA h t=some ws)(hp:aj ws=true):aL cf fw (.fresh i (.blt .list [a])) σ h=.ok (.nx (σ.set i (some (.ref h.length)))) (h++[.lst ws]):=by rw[aL,nV,ea,ag];simp_all
theorem CW{cf:CF}{fw i k:Nat}{b e:E}{σ:ai}{h:aa}{ws:List W}{w:W}(hs:σ[i]?=some (some (.ref h.length)))(ee:af cf e σ (h++[.lst ws])=.ok w (h++[.lst ws]))(eb:af cf b σ (h++[.lst ws])=.ok (aw k) (h++[.lst ws]))(hk:k<ws.length)(hp:ar w=true) :
  aL cf fw (.setix (.var i) b e) σ (h++[.lst ws])=.ok (.nx σ) (h++[.lst (ws.set k w)]):=by
 rw[aL,ee,ag,av hs,ag,eb,ag]
 dsimp only
 rw[aZ]
 dsimp only
 rw[zF hp,oO hk]
 simp_all
theorem wV(t:W)(ws:List W)(n:Nat)(w:W)(h:aa)(ht:Seq t ws)(h1:1<=n)(hn:n<=ws.length)(hp:aj ws=true)(hw:ar w=true) :
  a9 cf fw rM [some t,some (aw n),some w,none] h=.ok (.ret (.ref h.length)) (h++[.lst (ws.set (n-1) w)]):=by
 refine(ak (wq (av  rfl) (ht.seqA h) hp)).trans ((ak (CW   rfl (av  rfl) (qI (av  rfl) h1) zL hw)).trans ?_)
 rfl
theorem lO{fw:Nat}{tb:List Fn}{f:Nat}(hf:tb[f]?=some ⟨3,4,rM,none⟩)(d:Nat)(t:W)(ws:List W)(n:Nat)(w:W)(h:aa)(ht:Seq t ws)(h1:1<=n)(hn:n<=ws.length)(hp:aj ws=true)(hw:ar w=true) :
  ae fw tb (d+1) f [t,aw n,w] h=.ok (.lst (ws.set (n-1) w)) h:=by
 rw[ah hf rfl]
 show J.fin h.length (a9 (ae fw tb d) fw rM [some t,some (aw n),some w,none] h)=_
 rw[wV t ws n w h ht h1 hn hp hw]
 exact v8
abbrev pW(c:Nat):List S:=[.if_ (.cmp .Gt (.blt .len [V0]) Ho) [.raise c [.lit,.con,.lit]] [],.ret V0]
theorem sj(e:h[n]?=some (.lst ws)):seqA h (.ref n)=some ws:=by show(match h[n]? with|some (.lst ws)=>some ws|_=>none)=_;rw[e]
theorem oP{xs:List Pt}(hk:k<xs.length):(xs.map aJ)[k]?=some (aJ xs[k]):=by simp_all
theorem KS{cf:CF}{a:E}{σ:ai}{h:aa}{x:Pt}(ea:af cf a σ h=.ok (aJ x) h):af cf (.ix a N1) σ h=.ok (.tup (x.hs.map W.str)) h:=du ea ax (cD   rfl rfl)
theorem Ft{cf:CF}{a:E}{σ:ai}{h:aa}{x:Pt}(ea:af cf a σ h=.ok (aJ x) h):af cf (.ix a N0) σ h=.ok (sh x.p x.q) h:=du ea ax (cD   rfl rfl)
theorem FL{cf:CF}{a:E}{σ:ai}{h:aa}{x:Pt}(ea:af cf a σ h=.ok (aJ x) h):af cf (.ix a N2) σ h=.ok (.tup x.tr) h:=du ea ax (cD   rfl rfl)
theorem Hv{cf:CF}{a:E}{σ:ai}{h:aa}{hs:List Str}(ea:af cf a σ h=.ok (.tup (hs.map W.str)) h):af cf (.blt .len [a]) σ h=.ok (aw hs.length) h:=(cM ea rfl).trans zS
def B4(hs us:List Str):Bool:=PyData.eqv (fz (.tup (hs.map W.str))) (fz (.tup (us.map W.str)))
theorem gB:∀{hs:List Str},(∀s∈hs,aE s)->PyData.canLayAll0 (bO (hs.map W.str))=true
 |[],_=>rfl
 |s::hs,h=>by
  have h1:=(h s zQ).2
  have ih:=gB  λu hu=>h u (zo _ hu)
  have hs':PyData.strOk s=true:=by
   unfold PyData.strOk
   rw[Array.all_eq_true']
   intro c hc
   have:=h1 c (zz6.mpr hc)
   grind
  simp[bO,fz,PyData.canLayAll0,PyData.canLay0,ih,hs']
theorem fg:∀(hs:List Str),PyData.depthAll (bO (hs.map W.str))=0
 |[]=>rfl
 |s::hs=>by simp[bO,fz,PyData.depthAll,PyData.depth,fg hs]
theorem fF:∀(hs:List Str),dH (hs.map W.str)=true
 |[]=>rfl
 |s::hs=>by rw[zR,dH,fF hs];rfl
theorem eQ{hs:List Str}(h:∀s∈hs,aE s):SeqAt.shaped (fz (.tup (hs.map W.str)))=true:=by rw[fz];unfold SeqAt.shaped;rw[PyData.canLay0,gB h,PyData.depth,fg];rfl
theorem Nd(h1:∀s∈hs,aE s)(h2:∀s∈us,aE s):bD .NotEq (.tup (hs.map W.str)) (.tup (us.map W.str)) h=.ok (.bl (!B4 hs us)) h:=by
 have d1:∀zs:List Str,cH h (.tup (zs.map W.str))=some (.tup (zs.map W.str)):=λzs=>by simp[cH,rT,fF]
 have e:sr h (.tup (hs.map W.str)) (.tup (us.map W.str))=some (B4 hs us):=by simp only[sr,d1,eQ h1,eQ h2];rfl
 simp only[bD,e];rfl
theorem CB(ee:af cf e σ h=.exc c h1)(eh:uJ hs (λc d=>decide (c=d)) c σ=some fl):aL cf fw (.tryR e hs) σ h=.ok fl h1:=by rw[aL];simp_all
theorem HE(ee:af cf e σ h=.ok w h1):aL cf fw (.tryR e hs) σ h=.ok (.ret w) h1:=by rw[aL,ee]
theorem rq{hs:List Str}(hk:k<hs.length)(h):cU (.tup (hs.map W.str)) (aw k) h=.ok (.str hs[k]) h:=cD  rfl zS
theorem gf(a b:Str):(a++b).cps.toList=a.cps.toList++b.cps.toList:=by show(a.cps++b.cps).toList=_;simp
theorem dO(n:Nat):(rH n).cps.toList=[xQ.cps.toList.getD n 0]:=rfl
theorem rV(c:Nat)(x:Array Nat)(hx:x.toList=[c]):∀(n:Nat) (acc:Array Nat),((List.replicate n x).foldl (λx1 x2=>x1++x2) acc).toList=acc.toList++List.replicate n c
 |0,acc=>by simp
 |n+1,acc=>by rw[List.replicate_succ,List.foldl_cons,rV c x hx n,Array.toList_append,hx,zzz];rfl
theorem kU{c n:Nat}{x:Str}(hx:x.cps.toList=[c])(hn:1<=n):(Txt.mul x (n)).cps.toList=List.replicate n c:=by
 unfold Txt.mul;rw[zP zL];split;rename_i h;have hl:x.length=1:=by show x.cps.size=1;rw[<- Array.length_toList,hx];rfl
 simp only[zzw,beq_iff_eq,hl]at h;have:n=1:=zL;simp_all;rw[rV c x.cps hx];rfl
theorem gK:∀n,n<26->xQ.cps.toList.getD n 0=97+n:=zD
theorem vV(x:Str):x.length=x.cps.toList.length:=rfl
theorem ym(how shift:Nat){j k:Nat}(hj:j<60)(hk:k<60)(e:aR how shift j=aR how shift k):j=k:=by
 have e1:=congrArg (λs:Str=>s.cps.toList) e
 unfold aR at e1
 have c1:=gK _ (zzc (5*j+shift) (show 26>0 by decide))
 have c2:=gK _ (zzc (5*k+shift) (show 26>0 by decide))
 have c3:=gK _ (zzc (j/26+shift) (show 26>0 by simp))
 have c4:=gK _ (zzc (k/26+shift) (show 26>0 by decide))
 have c5:=gK _ (zzc (j/12+shift) (show 26>0 by decide))
 have c6:=gK _ (zzc (k/12+shift) (show 26>0 by decide))
 split at e1
 ·rw[gf,gf,gf,gf,gf,gf,dO,dO,dO,dO,c1,c2,c3,c4]at e1
  have e2:=List.append_cancel_right e1
  rw[zzz,zzz]at e2
  have e3:=List.append_cancel_left e2
  grind
 ·rw[kU (dO _) (Nat.le_add_right ..),kU (dO _) (Nat.le_add_right ..),c5,c6]at e1
  have e2:=congrArg List.length e1
  grind
def oz(s:Str):Prop:=∀c∈s.cps.toList,97<=c/\c<=122
theorem pS{n:Nat}(h:n<26):oz (rH n):=λc hc=>by
 rw[dO,gK n h,zT]at hc
 lia
theorem mC{a b:Str}(ha:oz a)(hb:oz b):oz (a++b):=λc hc=>by rw[gf]at hc;exact(Ze.mp hc).elim (ha c) (hb c)
theorem lA{a:Str}{l u:Option Int}(ha:oz a):oz (Txt.slice a l u):=λc hc=>by unfold Txt.slice at hc;split at hc;exact ha c hc;obtain⟨i,_,e⟩:=zzM.mp hc;exact ha c (zz6.mpr (Array.mem_of_getElem? e))
theorem mq{m n:Nat}(h:n<26):oz (Txt.mul (rH n) (m)):=λc hc=>by
 by_cases hm:1<=m
 ·rw[kU (dO n) hm,gK n h]at hc
  grind
 ·unfold Txt.mul at hc
  rw[zF (by simp_all)]at hc
  cases hc
theorem wo(how shift k:Nat):oz (aR how shift k):=by have m:∀n,n%26<26:=λn=>zzc _ zS;unfold aR;split;exact mC (mC (mC (lA (mq (m _))) (pS (m _))) (pS (m _))) (lA (mq (m _)));exact mq (m _)
theorem nj(x:Str)(l u:Option Int):(Txt.slice x l u).length<=(Builtin.Str.strSliceIndices l u 1 x.length).length:=by
 unfold Txt.slice
 split
 ·simp_all
 ·show(List.filterMap _ (Builtin.Str.strSliceIndices l u 1 x.length)).toArray.size<=_
  grind
theorem DX(a n:Nat):(Builtin.Str.strSliceIndices none (some (a)) 1 n).length+(Builtin.Str.strSliceIndices (some (a)) none 1 n).length<=n:=by
 unfold Builtin.Str.strSliceIndices sliceRange
 grind
theorem wt(how shift k:Nat):1<=(aR how shift k).length/\(aR how shift k).length<=12:=by
 unfold aR
 split
 ·rw[bq,bq,bq,bG,bG]
  have h1:=nj (dF how shift) none (some ((how/33%11:Nat)))
  have h2:=nj (dF how shift) (some ((how/33%11:Nat))) none
  have h3:=DX (how/33%11) (dF how shift).length
  have h4:(dF how shift).length<=10:=oK (bG _) zL
  lia
 ·rw[vV,kU (dO _) (Nat.le_add_right ..),List.length_replicate]
  lia
theorem nD:∀ss:List Str,ss.Nodup->(k7 ss).length=ss.length
 |[],_=>rfl
 |s::ss,h=>by rw[Z3]at h;rw[k7,zP h.1,Zn,nD ss h.2,Zn]
theorem AN:∀ss:List Str,¬ ss.Nodup->(k7 ss).length<ss.length
 |[],h=>absurd List.nodup_nil h
 |s::ss,h=>by
  rw[k7]
  split
  ·have:=oJ ss
   grind
  ·rename_i hs
   have:=AN ss (λz=>h (Z3.mpr ⟨hs,z⟩))
   simp_all
theorem br(s:Str)(ss:List Str):aK s ss=decide (s∈ss):=by
 unfold aK Ke;rw[Bool.eq_iff_iff];simp only[List.any_eq_true,Zs,uv,Zm];constructor;rintro ⟨v,⟨w,⟨x,hx,rfl⟩,rfl⟩,e⟩;have :=by simpa [BW] using e
 simp_all;intro h;exact⟨.str s,⟨.str s,⟨s,h,rfl⟩,rfl⟩,by simp[BW]⟩
theorem EL{cf:CF}{a:E}{σ:ai}{h:aa}{x:W}{ss:List Str}(ea:af cf a σ h=.ok x h)(hx:seqA h x=some (ss.map W.str))(hl:ss.length<64):af cf (.slen a) σ h=.ok (aw (k7 ss).length) h:=by rw[af,ea,ag,hx];show(match cY (ss.map W.str) with|some ss=>if ss.length<64 then jB (k7 ss).length h else .stuck|none=>.stuck)=_;rw[iL];dsimp only;rw[zF hl];rfl
theorem yM{cf:CF}{o1 o2:CmpOp}{a b c:E}{σ:ai}{h:aa}{x y z:W}{r:Res W}(ea:af cf a σ h=.ok x h)(eb:af cf b σ h=.ok y h)(e1:bD o1 x y h=.ok (.bl true) h)(ec:af cf c σ h=.ok z h)(e2:bD o2 y z h=r):af cf (.chn o1 o2 a b c) σ h=r:=by rw[af,ea,ag,eb,ag,e1,ag];simp_all
abbrev fK:List S:=[.ret (.cmp .Lt (.slen V0) (.blt .len [V0]))]
theorem oh{fw:Nat}{tb:List Fn}{f:Nat}(hf:tb[f]?=some ⟨1,1,fK,none⟩)(d:Nat)(x:W)(ss:List Str)(h:aa)(hx:seqA h x=some (ss.map W.str))(hl:ss.length<64):ae fw tb (d+1) f [x] h=.ok (.bl (!decide ss.Nodup)) h:=by
 rw[ah hf rfl]
 generalize ae fw tb d=cf
 show J.fin h.length (a9 cf fw fK [some x] h)=_
 have e:a9 cf fw fK [some x] h=.ok (.ret (.bl (!decide ss.Nodup))) h:=by
  refine aH (aU ((eW (EL (av  rfl) hx hl) (cM (av  rfl) hx) (o3 _ _ _)).trans ?_))
  rw[zj]
  by_cases hn:ss.Nodup
  ·rw[nD ss hn,z0 hn,zX (Int.lt_irrefl _)];rfl
  ·have:=AN ss hn
   grind
 rw[e]
 exact aF
noncomputable abbrev gj:List S:=[.ret (.and_ (.chn .LtE .LtE N1 (.blt .len [V0]) BZ) (.blt .all [(.compS [1] 1 V0 [] (.chn .LtE .LtE (.con (.str "a")) V1 (.con (.str "z"))))]))]
def lH(s:Str):Prop:=oz s/\1<=s.length/\s.length<=12
theorem xb(how shift k):lH (aR how shift k):=⟨wo how shift k,wt how shift k⟩
theorem yJ:i9 ⟨#[c]⟩ ⟨#[d]⟩=decide (c<d):=by unfold i9;rw[decide_eq_decide,List.cons_lt_cons_iff];simp
theorem sL{fw:Nat}{tb:List Fn}{f:Nat}(hf:tb[f]?=some ⟨1,1,gj,none⟩)(d:Nat)(s:Str)(h:aa)(hs:lH s):ae fw tb (d+1) f [.str s] h=.ok (.bl true) h:=by
 rw[ah hf rfl]
 generalize ae fw tb d=cf
 show J.fin h.length (a9 cf fw gj [some (.str s)] h)=_
 have hl:s.length<=1000:=zf hs.2.2 zD
 have ln:af cf (.blt .len [V0]) [some (.str s)] h=.ok (aw s.length) h:=by
  rw[af,aq (av (i:=0) (w:=.str s) rfl) aA,ag]
  show(if s.length<=1000 then jB s.length h else .stuck)=_
  rw[zF hl];rfl
 have le:∀(a b:Nat) (h:aa),a<=b->bD .LtE (aw a) (aw b) h=.ok (.bl true) h:=λa b h hab=>by
  show fH (decide (((a:Nat):Int)<=((b:Nat):Int))) h=_
  rw[z0 zL];rfl
 have c1:af cf (.chn .LtE .LtE N1 (.blt .len [V0]) BZ) [some (.str s)] h=.ok (.bl true) h :=
  yM (x:=aw 1) (z:=aw 12) ax ln (le 1 _ h hs.2.1) ax (le _ 12 h hs.2.2)
 have c2:af cf (.compS [1] 1 V0 [] (.chn .LtE .LtE (.con (.str "a")) V1 (.con (.str "z")))) [some (.str s)] h=.ok (.lst ((ji s).map λ_=>W.bl true)) h:=by
  rw[af,av (i:=0) (w:=.str s) rfl,ag]
  have hi:Fg h (.str s)=some (ji s):=by
   show(if s.length<=1000 then some (ji s) else none)=_
   rw[zF hl]
  rw[hi]
  dsimp only
  have ls:(ji s).length<=100:=by
   have:(ji s).length=s.length:=by rw[vV];simp[ji]
   have:=hs.2.2
   lia
  rw[mi (F:=λ_=>W.bl true) rfl (λk e=>by cases e) (ji s) [] (λw hw us=>⟨by
   obtain⟨c,hc,rfl⟩:=Zs.mp hw
   have hc2:=hs.1 c hc
   have hb:aV [1] (.str ⟨#[c]⟩) (kE [1] [some (.str s)]++List.replicate 1 none)=some [some (.str s),some (.str ⟨#[c]⟩)]:=rfl
   unfold cK
   rw[hb]
   dsimp only
   rw[cg,ag,zF rfl,yM (x:=.str "a") (y:=.str ⟨#[c]⟩) (z:=.str "z") (r:=.ok (.bl true) (h++[.lst us])) ax (U1 rfl) (by
    show fH (!i9 ⟨#[c]⟩ ⟨#[97]⟩) _=_
    rw[yJ,zX zL];rfl) ax (by
    show fH (!i9 ⟨#[122]⟩ ⟨#[c]⟩) _=_
    rw[yJ,zX zL];rfl),ag],rfl⟩) (by rw[List.length_nil];lia),fq rfl]
  rfl
 have e:a9 cf fw gj [some (.str s)] h=.ok (.ret (.bl true)) h:=by
  refine aH (aU ?_)
  rw[af,c1,ag]
  dsimp only
  rw[af,aq c2 aA,ag]
  show(match gb ((ji s).map λ_=>W.bl true) with|some bs=>fH (bs.all id) h|none=>.stuck)=_
  have:∀l:List W,∃bs,gb (l.map λ_=>W.bl true)=some bs/\bs.all id=true:=λl=>by
   induction l with
   |nil=>exact⟨[],rfl,rfl⟩
   |cons w l ih =>
    obtain⟨bs,e,q⟩:=ih
    refine⟨true::bs,?_,by simp[q]⟩
    rw[zR,gb,e]
    rfl
  obtain⟨bs,e,q⟩:=this (ji s)
  rw[e]
  dsimp only
  rw[q]
  rfl
 rw[e]
 exact aF
abbrev srt(ss:List Str):List Str:=mU i9 ss
theorem cJ:s∈srt ss↔s∈ss:=(bS ss).mem_iff
theorem bT(ss):(srt ss).length=ss.length:=(bS ss).length_eq
theorem iq{cf:CF}{fw:Nat}{is:List Nat}{a:E}{b:List S}{σ:ai}{h:aa}{t:W}{ws:List W}(ea:af cf a σ h=.ok t h)(ht:Seq t ws):aL cf fw (.for_ is (.seq a) b) σ h=fo is (a9 cf fw b) ws σ h:=by rw[aL,ea];rcases ht with rfl|rfl<;>rfl
theorem Hu:J.fin h.length (.ok (.nx σ) h)=.ok .non h:=by
 show Res.ok W.non (h.take h.length)=_
 grind
theorem E4{cf:CF}{a:E}{σ:ai}{h:aa}{x:W}{ss:List Str}(ea:af cf a σ h=.ok x h)(hx:seqA h x=some (ss.map W.str))(hl:ss.length<64):af cf (.blt .tuple [(.blt .sorted [a])]) σ h=.ok (.tup ((srt ss).map W.str)) h:=ic (mw ea hx hl)
noncomputable abbrev kW(c isn tw : Nat) : List S := [.if_ (.or_ (.cmp .Lt (.blt .len [V0]) N1) (.cmp .Gt (.blt .len [V0]) MV)) [.raise c [.lit, .con, .lit]] [],
 .for_ [1] (.seq V0) [.if_ (.not_ (.call isn [V1])) [.raise c [.lit,.rep 1]] []],
 .if_ (.call tw [V0]) [.raise c []] [],
 .ret (.blt .tuple [(.blt .sorted [V0])])]
theorem oB:J.fin h.length (.exc c h)=.exc c h:=by
 show Res.exc c (h.take h.length)=_
 grind
theorem bC{n:Nat}{x r:Res Fl}{y:Res W}(e:x=r)(h:J.fin n r=y):J.fin n x=y:=by grind
theorem F7{ss:List Str}(hx:seqA h x=some (ss.map W.str))(hl:ss.length<64):bK .sorted [x] h=.ok (.lst ((srt ss).map W.str)) h:=mw (cf:=λ_ _ _=>.stuck) (a:=.con x) (σ:=[]) ax hx hl
theorem LY{ss:List Str}(hx:Seq x (ss.map W.str)):bK .len [x] h=.ok (.int ss.length) h:=by rcases hx with rfl|rfl<;>exact congrArg (λn=>Res.ok (aw n) h) (zj ..)
theorem BA{ss:List Str}:J.fin h.length (.ok (.ret (.tup (ss.map W.str))) h)=.ok (.tup (ss.map W.str)) h:=fW (aC _)
theorem t6{fw:Nat}{tb:List Fn}{f c isn tw:Nat}(hf:tb[f]?=some ⟨1,2,kW c isn tw,none⟩)(hi:tb[isn]?=some ⟨1,1,gj,none⟩)(ht:tb[tw]?=some ⟨1,1,fK,none⟩)(d:Nat)(t:W)(ss:List Str)(h:aa)(hs:Seq t (ss.map W.str))(h1:1<=ss.length)(h2:ss.length<=30)(hg:∀s∈ss,lH s) :
  ae fw tb (d+2) f [t] h=if ss.Nodup then .ok (.tup ((srt ss).map W.str)) h else .exc c h:=by
 rw[ah hf rfl]
 obtain⟨r,e⟩:=ik (i:=1) (body:=a9 (ae fw tb (d+1)) fw [.if_ (.not_ (.call isn [V1])) [.raise c [.lit,.rep 1]] []]) (σ:=[some t,none]) (h:=h) (ss.map W.str) none λw hw=>by obtain⟨s,hs',rfl⟩:=Zs.mp hw;simp! [sL (fw:=fw) hi d s h (hg s hs')]
 simp_arith at e
 by_cases hn:ss.Nodup<;>simp! [LY hs,show ¬ ss.length<1 by lia,show ¬ 30<ss.length by lia,iq (cf:=ae fw tb (d+1)) (fw:=fw) (is:=[1]) (b:=[.if_ (.not_ (.call isn [V1])) [.raise c [.lit,.rep 1]] []]) (av (i:=0) (σ:=[some t,none]) rfl) hs,e,oh (fw:=fw) ht d t ss h (hs.seqA h) zL,hn,F7 (hs.seqA h) (show ss.length<64 by lia),BA]
theorem tW{fw:Nat}{tb:List Fn}{f c isn tw:Nat}(hf:tb[f]?=some ⟨1,2,kW c isn tw,none⟩)(hi:tb[isn]?=some ⟨1,1,gj,none⟩)(ht:tb[tw]?=some ⟨1,1,fK,none⟩)(d:Nat)(t:W)(ss:List Str)(h:aa)(hs:Seq t (ss.map W.str))(h1:1<=ss.length)(h2:ss.length<=30)(hg:∀s∈ss,lH s)(hn:ss.Nodup) :
  ae fw tb (d+2) f [t] h=.ok (.tup ((srt ss).map W.str)) h:=by
 rw[t6 hf hi ht d t ss h hs h1 h2 hg,zF hn]
noncomputable abbrev uf(c tw : Nat) : List S := [.if_ (.or_ (.cmp .Lt (.blt .len [V0]) V1) (.cmp .Gt (.blt .len [V0]) Y2)) [.raise c [.lit, .var 1, .lit, .var 2, .lit]] [],
 .if_ (.call tw [V0]) [.raise c []] [],
 .ret (.blt .tuple [(.blt .sorted [V0])])]
theorem jG{fw:Nat}{tb:List Fn}{f c tw:Nat}(hf:tb[f]?=some ⟨3,3,uf c tw,none⟩)(ht:tb[tw]?=some ⟨1,1,fK,none⟩)(d:Nat)(t:W)(ss:List Str)(lo hi:Nat)(h:aa)(hs:Seq t (ss.map W.str))(hl:ss.length<64)(hlo:lo<=1000)(hhi:hi<=1000) :
  ae fw tb (d+2) f [t,aw lo,aw hi] h=if lo<=ss.length/\ss.length<=hi/\ss.Nodup then .ok (.tup ((srt ss).map W.str)) h else .exc c h:=by
 rw[ah hf rfl]
 have L:=λn (l:n<=1000)=>Zf l (show 1000<10^100 by decide)
 by_cases l1:ss.length<lo<;>by_cases l2:hi<ss.length<;>by_cases hn:ss.Nodup<;>simp! [LY hs,aw,l1,l2,L _ hlo,L _ hhi,oh (fw:=fw) ht d t ss h (hs.seqA h) hl,hn,show lo<=ss.length↔¬ ss.length<lo from Nat.not_lt.symm,show ss.length<=hi↔¬ hi<ss.length from Nat.not_lt.symm,F7 (hs.seqA h) hl,BA,zzJ,and_false]
abbrev sN(c:Nat):List S:=[.for_ [2] (.seq V0) [.if_ (.cmp .NotIn Y2 V1) [.raise c [.lit,.rep 2]] []]]
noncomputable abbrev vC(c kn : Nat) : List S := [.exp (.call kn [V0, V1]),
 .for_ [3] (.seq V0) [.if_ (.cmp .In Y3 Y2) [.raise c [.rep 3, .lit]] []]]
theorem ql{fw:Nat}{tb:List Fn}{f:Nat}(hg:tb[f]?=some ⟨2,4,AF f,none⟩):∀(d:Nat) (w:W) (h:aa),jM w<d->jZ w=true->ae fw tb d f [w,w] h=.ok (.bl true) h
 |0,w,h,hd,_=>absurd hd (Nat.not_lt_zero _)
 |d+1,w,h,hd,ho=>by
  rw[ah hg rfl];have seqs (ws:List W) (b1:Bool) (es:seqA h w=some ws) (k1:bz h w .list=some b1) (k2:bz h w .tuple=some (!b1)) (oq:dr ws=true) (hl:ws.length<=100000) (hdp:dz ws<d) (hix:∀(k:Nat) (u:W),ws[k]?=some u->cU w (aw k) h=.ok u h):J.fin h.length (a9 (ae fw tb d) fw (AF f) ([w,w].map some++List.replicate (4-2) none) h)=.ok (.bl true) h:=by
   obtain⟨r',lp⟩:=nq (cf:=ae fw tb d) (fw:=fw) (f:=f) (x:=w) (ws:=ws) (h:=h) (λk hk=>by
    have hm:ws[k]∈ws:=zZ hk
    exact⟨ws[k],hix k _ (zK hk),ql hg d ws[k] h (Zf (qm hm) hdp) (qg oq hm)⟩) (List.range ws.length) none (λk hk=>ZE.mp hk)
   cases b1<;>simp! [List.mapM_cons,List.mapM_nil,k1,k2,Option.pure_def,Option.bind_eq_bind,Option.bind_some,zz0,zzK,List.any_cons,List.any_nil,id,Bool.or_true,Bool.true_or,show bK .len [w] h=.ok (.int ws.length) h by (show mW _ _=_;unfold mW;rw[es];rfl),wj (show ws.length<2^62 by lia),lp]
  cases w with
  |int i=>simp[a9,aL,af,bL,jb,qU,bnd,bz,fH,bD,sr,J.fin,iE,fQ,ar]
  |str i=>simp[a9,aL,af,bL,jb,qU,bnd,bz,fH,bD,sr,J.fin,iE,fQ,ar]
  |tup ws=>rw[jZ,zI]at ho;rw[jM]at hd;exact seqs ws false rfl rfl rfl ho.1 (Zd ho.2) zL λk u e=>cD rfl e
  |lst ws=>rw[jZ,zI]at ho;rw[jM]at hd;exact seqs ws true rfl rfl rfl ho.1 (Zd ho.2) zL λk u e=>cD rfl e
  |_=>cases ho
theorem qV{fw:Nat}{tb:List Fn}{d f np ns c:Nat}{fl:List (Bool×E)}{ws:List W}{h:aa}(hg:tb[f]?=some ⟨np,ns,[],some (c,fl)⟩)(ht:tb.length<=1000)(hl:ws.length+1=np) :
  ae fw tb (d+1) (f+2000) ws h=bnd (eN (ae fw tb d) (none::ws.map some) fl h) λus h=>.ok (.ins c us) h:=by
 have no1:tb[f+2000]?=none:=ZQ.mpr zL
 have no2:tb[f+2000-1000]?=none:=ZQ.mpr zL
 show(match tb[f+2000]? with|some g=>_|none=>match tb[f+2000-1000]? with|some g=>_|none=>match tb[f+2000-2000]? with|some g=>_|none=>_)=_
 simp_all
theorem iK{cf:CF}{c k:Nat}{a:E}{σ:ai}{h h1:aa}{ws:List W}{w:W}(ea:af cf a σ h=.ok (.ins c ws) h1)(e:ws[k]?=some w):af cf (.fld c k a) σ h=.ok w h1:=by rw[af,ea,ag];simp_all
theorem mf(ea:af cf a σ h=.ok (.ins 1 us) h1)(es':bL cf es σ h1=.ok ws h2)(o:cf f (.ins 1 us::ws) h2=r):af cf (.mth f a es) σ h=r:=by rw[af,ea,ag,zF (show uB (.ins 1 us)=true from rfl),es',ag,o]
abbrev i5(ks:List Str)(n:Nat):W:=.ins 1 [.tup (ks.map W.str),.ref n]
abbrev Ee:W:=.ins 0 [.non,.lst [],.dic [] [],.lst []]
theorem n5(e:h[n]?=some (.lst ws)):seqA h (.ref n)=some ws:=sj e
theorem iW{h:aa}:(h.set n o).take h.length=h.set n o:=by rw[zzS zS]
theorem f7{ws:List W}{w:W}:atI (ws++[w]) (-1)=some w:=by unfold atI ixN;simp only[zM,Zu];rw[zP zS,zF zL,Option.bind_some,show(-1+((ws.length+1:Nat):Int)).toNat=ws.length by lia,zE (zC _),Nat.sub_self];rfl
theorem om{fw:Nat}{tb:List Fn}{f:Nat}(hf:tb[f]?=some ⟨5,5,[],some (0,[(false,V1),(false,Y2),(false,Y3),(false,v4)])⟩)(ht:tb.length<=1000)(d:Nat)(a b c e:W)(h:aa):ae fw tb (d+1) (f+2000) [a,b,c,e] h=.ok (.ins 0 [a,b,c,e]) h:=by rw[qV hf ht rfl];rfl
theorem Eh{fw:Nat}{tb:List Fn}{f sf cn c isn tw:Nat}(hf:tb[f]?=some ⟨2,2,[],some (1,[(false,(.call cn [V1])),(true,(.lst [(.call (sf+2000) [(.con .non),(.lst []),.dic0,(.lst [])])]))])⟩)
  (hsf:tb[sf]?=some ⟨5,5,[],some (0,[(false,V1),(false,Y2),(false,Y3),(false,v4)])⟩) (hc:tb[cn]?=some ⟨1,2,kW c isn tw,none⟩) (hi:tb[isn]?=some ⟨1,1,gj,none⟩) (htw:tb[tw]?=some ⟨1,1,fK,none⟩) (ht:tb.length<=1000)
  (d:Nat) (t:W) (ss:List Str) (h:aa) (hs:Seq t (ss.map W.str)) (h1:1<=ss.length) (h2:ss.length<=30) (hg:∀s∈ss,lH s) (hn:ss.Nodup):ae fw tb (d+3) (f+2000) [t] h=.ok (i5 (srt ss) h.length) (h++[.lst [Ee]]):=by
 rw[qV hf ht rfl]
 have c1:=tW (fw:=fw) hc hi htw d t ss h hs h1 h2 hg hn
 have c2:=om (fw:=fw) hsf ht (d+1) .non (.lst []) (.dic [] []) (.lst []) h
 generalize ae fw tb (d+2)=cf at *
 show bnd (eN cf [none,some t] _ h) _=_
 rw[eN,jl (av  rfl) c1,ag,eN]
 have e:nV cf (.lst [(.call (sf+2000) [(.con .non),(.lst []),.dic0,(.lst [])])]) [none,some t] h=.ok [Ee] h:=by rw[nV,aq (j5 (aq ax (aq (iG aA zD) (aq (by rw[af]) (aq (iG aA zD) aA)))) c2) aA,ag];rfl
 rw[e,ag,eN]
 rfl
abbrev lD:List S:=[.ret (.ix (.fld 1 1 V0) (.neg N1))]
theorem mI{fw:Nat}{tb:List Fn}{f:Nat}(hf:tb[f]?=some ⟨1,1,lD,none⟩)(d:Nat)(ks:List Str)(n:Nat)(ws:List W)(w:W)(h:aa)(hn:h[n]?=some (.lst (ws++[w])))(hp:ar w=true):ae fw tb (d+1) f [i5 ks n] h=.ok w h:=by
 rw[ah hf rfl];generalize ae fw tb d=cf;show J.fin h.length (a9 cf fw lD [some (i5 ks n)] h)=_;have e:a9 cf fw lD [some (i5 ks n)] h=.ok (.ret w) h:=by refine aH (aU (du (iK (U0 rfl) rfl) (rfl) ?_));show(match seqA h (.ref n) with|some ws=>(match atI ws (-1) with|some w=>Res.ok w h|none=>.stuck)|none=>.stuck)=_;rw[n5 hn];dsimp only;rw[f7]
 rw[e];unfold J.fin;dsimp only;rw[eI w hp];simp_all
abbrev uH:List S:=[.ret (.blt .len [(.fld 1 1 V0)])]
theorem jo{fw:Nat}{tb:List Fn}{f:Nat}(hf:tb[f]?=some ⟨1,1,uH,none⟩)(d:Nat)(ks:List Str)(n:Nat)(ws:List W)(h:aa)(hn:h[n]?=some (.lst ws)):ae fw tb (d+1) f [i5 ks n] h=.ok (aw ws.length) h:=by rw[ah hf rfl,aH (aU (cM (iK (av  rfl) rfl) (n5 hn)))];exact pj
abbrev rf(lv la:Nat):List S:=[.exp (.call lv [V1,(.fld 1 0 V0),(.fld 0 3 (.mth la V0 []))])]
theorem Gj{cf:CF}{a e:E}{σ:ai}{h:aa}{n:Nat}{us:List W}{w:W}(ea:af cf a σ h=.ok (.ref n) h)(hn:h[n]?=some (.lst us))(ee:af cf e σ h=.ok w h)(hp:ar w=true)(hz:us.length<=1000000) :
  af cf (.meth .append a [e]) σ h=.ok .non (h.set n (.lst (us++[w]))):=by
 have z:bN h (.ref n)=some us:=by show(match h[n]? with|some (.lst ws)=>some ws|_=>none)=some us;rw[hn]
 rw[af,ea,ag,zF (show eT .append h (.ref n)=true by show(bN h (.ref n)).isSome=true;rw[z];rfl),dJ,ee]
 show(match h[n]? with|some (.lst us)=>if ar w=true/\us.length<sizeLine then Res.ok W.non (h.set n (.lst (us++[w]))) else .stuck|_=>.stuck)=_
 rw[hn]
 dsimp only
 rw[zF ⟨hp,Zf hz zD⟩]
theorem GS{cf:CF}{a:E}{σ:ai}{h:aa}{n:Nat}{us:List W}{w:W}(ea:af cf a σ h=.ok (.ref n) h)(hn:h[n]?=some (.lst (us++[w]))):af cf (.meth .pop a []) σ h=.ok w (h.set n (.lst us)):=by
 have z:bN h (.ref n)=some (us++[w]):=by show(match h[n]? with|some (.lst ws)=>some ws|_=>none)=some (us++[w]);rw[hn]
 rw[af,ea,ag,zF (show eT .pop h (.ref n)=true by show(bN h (.ref n)).isSome=true;simp_all)];show(match h[n]? with|some (.lst us)=>(match us[us.length-1]? with|some w=>Res.ok w (h.set n (.lst us.dropLast))|none=>.stuck)|_=>.stuck)=_;simp_all
noncomputable abbrev qM(c nx sf : Nat) : List S := [.asg 5 (.mth nx V0 []),
 .if_ (.cmp .Gt V5 (.con (.int 200))) [.raise c [.lit,.con,.lit]] [],
 .exp (.meth .append (.fld 1 1 V0) [(.call (sf+2000) [V1,Y2,Y3,v4])]),
 .ret V5]
theorem xX{fw:Nat}{tb:List Fn}{f c nx sf:Nat}(hf:tb[f]?=some ⟨5,6,qM c nx sf,none⟩)(hnx:tb[nx]?=some ⟨1,1,uH,none⟩)(hsf:tb[sf]?=some ⟨5,5,[],some (0,[(false,V1),(false,Y2),(false,Y3),(false,v4)])⟩)(ht:tb.length<=1000)
  (d:Nat) (ks:List Str) (n:Nat) (ws:List W) (x1 x2 x3 x4:W) (h:aa) (hn:h[n]?=some (.lst ws)) (hp:aj [x1,x2,x3,x4]=true) (hl:ws.length<=1000) :
  ae fw tb (d+2) f [i5 ks n,x1,x2,x3,x4] h=if 200<ws.length then .exc c h else .ok (aw ws.length) (h.set n (.lst (ws++[.ins 0 [x1,x2,x3,x4]]))):=by
 rw[ah hf rfl]
 have c1:=jo (fw:=fw) hnx d ks n ws h hn
 have c2:=om (fw:=fw) hsf ht d x1 x2 x3 x4 h
 generalize ae fw tb (d+1)=cf at *
 show J.fin h.length (a9 cf fw (qM c nx sf) [some (i5 ks n),some x1,some x2,some x3,some x4,none] h)=_
 let σ1:ai:=[some (i5 ks n),some x1,some x2,some x3,some x4,some (aw ws.length)]
 have s1:aL cf fw (.asg 5 (.mth nx V0 [])) [some (i5 ks n),some x1,some x2,some x3,some x4,none] h=.ok (.nx σ1) h:=bV (mf (U0 rfl) aA c1)
 have t1:bJ cf (.cmp .Gt V5 (.con (.int 200))) σ1 h=.ok (decide (((200:Nat):Int)<((ws.length:Nat):Int))) h:=xW (U5 rfl) ax
 by_cases hb:200<ws.length
 ·rw[zF hb]
  rw[z0 zL]at t1
  rw[(ak s1).trans (cN ((pE t1).trans (cN (gY rfl))))]
  show Res.exc c (h.take h.length)=_
  rw[zzm]
 ·rw[zP hb]
  rw[zX zL]at t1
  have e:a9 cf fw (qM c nx sf) [some (i5 ks n),some x1,some x2,some x3,some x4,none] h=.ok (.ret (aw ws.length)) (h.set n (.lst (ws++[.ins 0 [x1,x2,x3,x4]]))):=by refine(ak s1).trans ((ak (dk t1)).trans ?_);refine(ak (tY (Gj (iK (U0 rfl) rfl) hn (j5 (aq (U1 rfl) (aq (U2 rfl) (aq (U3 rfl) (aq (U4 rfl) aA)))) c2) (by rw[ar];exact hp) zL))).trans ?_;exact aH (aU (U5 rfl))
  rw[e]
  show Res.ok _ ((h.set n _).take h.length)=_
  rw[iW]
abbrev Lm(hs:List Str):W:=iI [] 1 1 (1,1) hs
abbrev jK(pb:Nat):List S:=[.ret (.call pb [(.tup []),N1,N1,(.con (.tup [(.int 1),(.int 1)])),V0])]
theorem wN{fw:Nat}{tb:List Fn}{f pb:Nat}(hf:tb[f]?=some ⟨1,1,jK pb,none⟩)(hpb:tb[pb]?=some ⟨5,5,dg,none⟩)(d:Nat)(hs:List Str)(h:aa):ae fw tb (d+2) f [.tup (hs.map W.str)] h=.ok (Lm hs) h:=by
 rw[ah hf rfl];have c1:=cq (fw:=fw) hpb d 1 1 (1,1) hs [] rfl zS h;generalize ae fw tb (d+1)=cf at *;show J.fin h.length (a9 cf fw (jK pb) [some (.tup (hs.map W.str))] h)=_
 have e:a9 cf fw (jK pb) [some (.tup (hs.map W.str))] h=.ok (.ret (Lm hs)) h :=
  aH (aU (j5 (aq (kd aA zS) (aq ax (aq ax (aq ax (aq (av  rfl) aA))))) c1))
 rw[e];exact eM (bw  rfl) (λn z=>by cases (z)) rfl
noncomputable abbrev uw(c gp cp la kp fp : Nat) : List S := [.asg 2 (.call gp [V1, N1, N6]),
 .exp (.mth cp V0 [Y2]),
 .asg 3 (.mth la V0 []),
 .if_ (.cmp .IsNot (.fld 0 0 Y3) (.con .non)) [.raise c []] [],
 .ret (.mth kp V0 [(.tup [(.con (.str "grant")), Y2]), (.lst [(.call fp [Y2])]), (.fld 0 2 Y3), (.fld 0 3 Y3)])]
noncomputable abbrev vS(c la : Nat) : List S := [.if_ (.cmp .Is (.fld 0 0 (.mth la V0 [])) (.con .non)) [.raise c []] [],
 .ret (.fld 0 0 (.meth .pop (.fld 1 1 V0) []))]
theorem y4{fw:Nat}{tb:List Fn}{f c la:Nat}(hf:tb[f]?=some ⟨1,1,vS c la,none⟩)(hla:tb[la]?=some ⟨1,1,lD,none⟩)(d:Nat)(ks:List Str)(n:Nat)(ws:List W)(a:W)(r:List W)(h:aa)(hn:h[n]?=some (.lst (ws++[.ins 0 (a::r)])))(hp:aj (a::r)=true) :
  ae fw tb (d+2) f [i5 ks n] h=if bt a=true then .exc c h else .ok a (h.set n (.lst ws)):=by
 rw[ah hf rfl]
 have c3:=mI (fw:=fw) hla d ks n ws (.ins 0 (a::r)) h hn (by rw[ar];exact hp)
 generalize ae fw tb (d+1)=cf at *
 show J.fin h.length (a9 cf fw (vS c la) [some (i5 ks n)] h)=_
 have t1:bJ cf (.cmp .Is (.fld 0 0 (.mth la V0 [])) (.con .non)) [some (i5 ks n)] h=.ok (bt a) h:=bY (eW (iK (w:=a) (mf (U0 rfl) aA c3) rfl) ax rfl)
 cases hq:bt a with
 |true =>
  rw[hq]at t1
  rw[cN ((pE t1).trans (cN (gY rfl))),zF rfl]
  show Res.exc c (h.take h.length)=_
  rw[zzm]
 |false =>
  rw[hq]at t1
  have e:a9 cf fw (vS c la) [some (i5 ks n)] h=.ok (.ret a) (h.set n (.lst ws)) :=
   (ak (dk t1)).trans (aH (aU (iK (GS (iK (U0 rfl) rfl) hn) rfl)))
  rw[e,zP zD]
  unfold J.fin
  dsimp only
  rw[aj,zI]at hp
  rw[eI a hp.1]
  rw[iW]
abbrev yE(la:Nat):List S:=[.ret (.blt .list [(.fld 0 1 (.mth la V0 []))])]
theorem w6{fw:Nat}{tb:List Fn}{f la:Nat}(hf:tb[f]?=some ⟨1,1,yE la,none⟩)(hla:tb[la]?=some ⟨1,1,lD,none⟩)(d:Nat)(ks:List Str)(n:Nat)(ws:List W)(a:W)(ps r:List W)(h:aa)(hn:h[n]?=some (.lst (ws++[.ins 0 (a::.lst ps::r)])))(hp:aj (a::.lst ps::r)=true) :
  ae fw tb (d+2) f [i5 ks n] h=.ok (.lst ps) h:=by
 rw[ah hf rfl]
 have c3:=mI (fw:=fw) hla d ks n ws (.ins 0 (a::.lst ps::r)) h hn (by rw[ar];exact hp)
 rw[aH (aU (uA (iK (mf (U0 rfl) aA c3) rfl)))]
 rw[aj,aj,zI,zI]at hp
 exact eM hp.2.1 (λn z=>by cases z) rfl
noncomputable def PN(nx:Str->Option Str)(gone:List Str)(n:Str)(cur:List Str):List Str:=if aK n cur=true then(if cur.length=1 then [fM nx (λy=>aK y gone) n 31 n] else cur.filter λs=>!decide (s=n)) else cur
noncomputable def OR(nx:Str->Option Str):List Str->List Str->List Str->List Str
 |[],_,cur=>cur
 |n::o,gone,cur=>OR nx o (gone++[n]) (PN nx gone n cur)
def IG(hs:List Str):List Str->Str->Str
 |[],l=>l
 |n::o,l=>IG hs o (if aK n hs=true then n else l)
def bu(hs done:List Str):List Str:=hs.filter λs=>!aK s done
theorem mB{cf:CF}{is:List Nat}{n:Nat}{a elt:E}{σ:ai}{h:aa}{x:W}{ws:List W}{F:W->W}(ea:af cf a σ h=.ok x h)(hs:seqA h x=some ws)(hr:∀k,lz x=some k->k<h.length)(hm:ws.length<=1000)
  (hF:∀w∈ws,ar (F w)=true/\∃σ',aV is w (kE is σ++List.replicate n none)=some σ'/\∀hh,af cf elt σ' hh=.ok (F w) hh):af cf (.compS is n a [] elt) σ h=.ok (.lst (ws.map F)) h:=by
 rw[af,ea,ag,uS hs]
 dsimp only
 rw[mi  rfl hr ws [] (λw hw us=>?_) (by grind),fq rfl,zzV]
 obtain⟨p,σ',eb,ee⟩:=hF w hw
 exact⟨jA eb (ee _),p⟩
theorem Seq.noref(h:Seq t ws):∀{m:Nat} (k:Nat),lz t=some k->k<m:=λk e=>by rcases h with rfl|rfl<;>cases e
theorem Seq.dic(h:Seq t ws)(hh:aa):bH hh t=none:=by rcases h with rfl|rfl<;>rfl
theorem J8{cf:CF}{a b:E}{σ:ai}{h:aa}{x y:W}{us vs:List W}(ea:af cf a σ h=.ok x h)(eb:af cf b σ h=.ok y h)(hx:Seq x us)(hy:Seq y vs):af cf (.zipE a b) σ h=.ok (.lst (List.zipWith (λu v=>W.tup [u,v]) us vs)) h:=by rw[af,ea,ag,eb,ag,hx.seqA [],hy.seqA []]
abbrev fh:List S:=[.ret (.blt .tuple [(.compS [2] 1 V0 [(.cmp .NotIn Y2 V1)] Y2)])]
theorem kf{fw:Nat}{tb:List Fn}{f:Nat}(hf:tb[f]?=some ⟨2,2,fh,none⟩)(d:Nat)(x y:W)(hs gs:List Str)(h:aa)(hx:Seq x (hs.map W.str))(hy:Seq y (gs.map W.str))(hl:hs.length<=1000):ae fw tb (d+1) f [x,y] h=.ok (.tup ((bu hs gs).map W.str)) h:=by
 rw[ah hf rfl];generalize ae fw tb d=cf;show J.fin h.length (a9 cf fw fh [some x,some y] h)=_
 have e:a9 cf fw fh [some x,some y] h=.ok (.ret (.tup ((bu hs gs).map W.str))) h :=
  aH (aU (ic (jf     (av  rfl) (hx.seqA h) hl (λs _ hh=>pO   (U2 rfl) (U1 rfl) (hy.dic hh) (hy.seqA hh)) zS)))
 rw[e];exact fW (aC _)
theorem Br(s name):aK s [name]=decide (s=name):=by rw[br];simp
theorem wY(hs)(n):bu hs [n]=hs.filter λs=>!decide (s=n):=by unfold bu;congr 1;funext s;rw[Br]
abbrev Ki(hs:List Str):W:=.tup (hs.map W.str)
theorem Ab:∀hs us:List Str,PyData.eqvAll (bO (hs.map W.str)) (bO (us.map W.str))=decide (hs=us)
 |[],[]=>rfl
 |[],_::_=>rfl
 |_::_,[]=>rfl
 |h::hs,u::us=>by rw[zR,zR,bO,bO,fz,fz,PyData.eqvAll,PyData.eqv,Ab hs us,Bool.eq_iff_iff];simp
theorem jj{hs:List Str}(h:∀s∈hs,aE s):SeqAt.shaped (fz (.lst (hs.map W.str)))=true:=by rw[fz];unfold SeqAt.shaped;rw[PyData.canLay0,gB h,PyData.depth,fg];rfl
theorem MW{h:aa}{hs us:List Str}(h1:∀s∈hs,aE s)(h2:∀s∈us,aE s):sr h (.lst (hs.map W.str)) (.lst (us.map W.str))=some (decide (hs=us)):=by
 have d1:∀zs:List Str,cH h (.lst (zs.map W.str))=some (.lst (zs.map W.str)):=λzs=>by show(if rT (.lst (zs.map W.str))=true then some _ else none)=_;rw[rT,zF (fF zs)]
 show(match cH h (.lst (hs.map W.str)),cH h (.lst (us.map W.str)) with|some a,some b=>(if(SeqAt.shaped (fz a)&&SeqAt.shaped (fz b))=true then some (PyData.eqv (fz a) (fz b)) else none)|_,_=>none)=_;rw[d1,d1];dsimp only;rw[jj h1,jj h2,zF (show(true&&true)=true from rfl),fz,fz,PyData.eqv,Ab]
theorem IV{cf:CF}{a b:E}{σ:ai}{h:aa}{hs us:List Str}(ea:af cf a σ h=.ok (.lst (hs.map W.str)) h)(eb:af cf b σ h=.ok (.lst (us.map W.str)) h)(h1:∀s∈hs,aE s)(h2:∀s∈us,aE s):bJ cf (.cmp .Eq a b) σ h=.ok (decide (hs=us)) h:=by refine bY (eW ea eb ?_);show(match sr h (.lst (hs.map W.str)) (.lst (us.map W.str)) with|some b=>fH b h|none=>.stuck)=_;rw[MW h1 h2];rfl
theorem yd{cf:CF}{a b:E}{σ:ai}{h:aa}{us vs:List W}(ea:af cf a σ h=.ok (.lst us) h)(eb:af cf b σ h=.ok (.lst vs) h)(hl:us.length+vs.length<=1000):af cf (.bin .Add a b) σ h=.ok (.lst (us++vs)) h:=by rw[af,ea,ag,eb];show GA (fG (some us) (some vs) h)=_;unfold fG GA;dsimp only;rw[zF (by rw[Zq];lia),ag]
theorem map_take{P:List Str}:(P.map W.str).take k=(P.take k).map W.str:=(List.map_take).symm
def Cf(m how shift:Nat):List Str:=(List.range m).map (aR how shift)
theorem sO(hm:m<=60):(Cf m how shift).Nodup:=by unfold Cf;rw[List.nodup_iff_pairwise_ne,List.pairwise_map];exact List.Pairwise.imp_of_mem (λ{a b} ha hb hne e=>hne (ym how shift (by have:=ZE.mp ha;lia) (by have:=ZE.mp hb;lia) e)) (List.nodup_iff_pairwise_ne.mp List.nodup_range)
theorem qC:∀s∈Cf m how shift,lH s:=λs hs=>by obtain⟨k,_,rfl⟩:=Zs.mp hs;exact xb how shift k
theorem G6:∀s∈Cf m how shift,aE s:=λs hs=>by obtain⟨k,_,rfl⟩:=Zs.mp hs;exact E5 how shift k
theorem cP:(Cf m how shift).length=m:=by simp[Cf]
theorem xY(h:lH s):s≠bc:=λe=>by
 have:=h.1 67 (by rw[e];decide)
 lia
theorem Bf{is:List Nat}{body:ai->aa->Res Fl}{w:W}{ws:List W}{σ σ1 σ':ai}{h h2:aa}(hb:aV is w σ=some σ1)(e:body σ1 h=.ok (.cnt σ') h2):fo is body (w::ws) σ h=fo is body ws σ' h2:=by rw[fo];simp_all
theorem wa{is:List Nat}{body:ai->aa->Res Fl}{Iv:Nat->ai->aa->Prop}:∀(ws:List W) (i:Nat) (σ:ai) (h:aa),
  (∀j w σ h,ws[j]?=some w->Iv (i+j) σ h->∃σ1 σ2 h2,aV is w σ=some σ1/\(body σ1 h=.ok (.nx σ2) h2\/body σ1 h=.ok (.cnt σ2) h2)/\Iv (i+j+1) σ2 h2)->Iv i σ h->∃σ2 h2,fo is body ws σ h=.ok (.nx σ2) h2/\Iv (i+ws.length) σ2 h2
 |[],i,σ,h,_,q=>⟨σ,h,by rw[fo],q⟩
 |w::ws,i,σ,h,st,q=>by
  obtain⟨σ1,σ2,h2,e1,e2,q2⟩:=st 0 w σ h rfl q;obtain⟨σ3,h3,e3,q3⟩:=wa ws (i+1) σ2 h2 (λj w σ h e q=>by
   have:=st (j+1) w σ h (by simpa using e) (by grind)
   rw[show i+(j+1)+1=i+1+j+1 by lia]at this
   exact this) q2
  refine⟨σ3,h3,?_,by grind⟩;rcases e2 with e2|e2;exact(fZ e1 e2).trans e3;exact(Bf e1 e2).trans e3
theorem wD{α:Type}(f:Nat->α->W):∀(r:List α) (g:Nat->Nat),List.zipWith (λn s=>f n s) ((List.range r.length).map g) r=r.mapIdx λi s=>f (g i) s:=λr g=>by
 refine List.ext_getElem? λi=>?_;rw[List.getElem?_zipWith,ZM];cases e:r[i]? with
 |none=>simp
 |some s=>have hi:=(ze.mp e).1;simp_all
structure Pt.G (fw:Nat) (x:Pt):Prop where
 q0:0<x.q
 qz:x.q*6<2^9000
 qf:x.q*6<fw
 pz:x.p<2^9000
 h0:1<=x.hs.length
 h1:x.hs.length<=6
 pu:aj x.tr=true
 tl:x.tr.length<=900
def nF(x:Pt):Nat×Nat:=gy x.p (x.q*x.hs.length)
noncomputable def Cj(heir:Str->Str)(g:List Str)(dd n:Nat)(x:Pt):W:=if(bu x.hs g).length=x.hs.length then aJ x else if 0<(bu x.hs g).length then iI x.tr dd n (x.p,x.q) (bu x.hs g) else iI x.tr dd n (nF x) [heir (x.hs.headD bc)]
noncomputable def gH(heir:Str->Str)(g:List Str)(dd m:Nat)(x:Pt):List W:=if(bu x.hs g).length=0 then x.hs.tail.mapIdx λi s=>iI x.tr dd (m+1+i) (nF x) [heir s] else []
noncomputable def dG(heir:Str->Str)(g:List Str)(dd:Nat):List Pt->Nat->List W
 |[],_=>[]
 |x::xs,m=>gH heir g dd m x++dG heir g dd xs (m+(gH heir g dd m x).length)
theorem m7(heir:Str->Str)(g)(dd)(x):∀l m,dG heir g dd (l++[x]) m=dG heir g dd l m++gH heir g dd (m+(dG heir g dd l m).length) x
 |[],m=>by simp[dG]
 |y::l,m=>by rw[Z4,dG,m7 heir g dd x l,dG,zzz,zM,<- Nat.add_assoc]
noncomputable def iQ(heir:Str->Str)(g:List Str)(dd:Nat)(xs:List Pt)(j:Nat):List W:=((xs.take j).mapIdx λi x=>Cj heir g dd (i+1) x)++(xs.drop j).map aJ++dG heir g dd (xs.take j) xs.length
theorem rR{heir:Str->Str}{g:List Str}{dd m:Nat}{x:Pt}(h:x.hs.length<=6):(gH heir g dd m x).length<=5:=by
 unfold gH
 grind
theorem oa{heir:Str->Str}{g:List Str}{dd:Nat}:∀{l:List Pt}{m:Nat},(∀x∈l,x.hs.length<=6)->(dG heir g dd l m).length<=5*l.length
 |[],_,_=>by simp[dG]
 |x::l,m,h=>by
  rw[dG,zM,Zn]
  have h1:=rR (heir:=heir) (g:=g) (dd:=dd) (m:=m) (h x zQ)
  have h2:=oa (heir:=heir) (g:=g) (dd:=dd)  (m:=m+(gH heir g dd m x).length) λy hy=>h y (zo _ hy)
  lia
theorem qN{heir:Str->Str}{g:List Str}{dd j:Nat}{xs:List Pt}(hj:j<=xs.length):(iQ heir g dd xs j).length=xs.length+(dG heir g dd (xs.take j) xs.length).length:=by
 unfold iQ
 grind
theorem J5:iQ heir g dd xs 0=xs.map aJ:=by simp[iQ,dG]
theorem yX{heir:Str->Str}{g:List Str}{dd j:Nat}{xs:List Pt}{x:Pt}(e:xs[j]?=some x):∃A B:List W,A.length=j/\iQ heir g dd xs j=A++aJ x::B/\iQ heir g dd xs (j+1)=A++Cj heir g dd (j+1) x::B++gH heir g dd (iQ heir g dd xs j).length x:=by
 obtain⟨hj,ex⟩:=ze.mp e;have et:xs.take (j+1)=xs.take j++[x]:=by rw[List.take_succ,e];rfl
 have lt:(xs.take j).length=j:=by rw[Zo];lia
 refine⟨(xs.take j).mapIdx (λi x=>Cj heir g dd (i+1) x),(xs.drop (j+1)).map aJ++dG heir g dd (xs.take j) xs.length,by rw[Z6,lt],?_,?_⟩;unfold iQ;rw[List.drop_eq_getElem_cons hj,ex,zR,zzz];rfl;rw[qN (Nat.le_of_lt hj)];unfold iQ;rw[et,m7,List.mapIdx_concat,lt];simp
theorem x5(h:x.G fw):aj (gH heir g dd m x)=true:=by unfold gH;split;refine da λw hw=>?_;obtain⟨i,hi,rfl⟩:=List.mem_mapIdx.mp hw;exact bw h.pu;rfl
noncomputable abbrev ip(pc pb : Nat) : List S := [.asg 4 (.call pc [(.ix V0 N0), N1, (.blt .len [Y2])]),
 .ret (.compS [5, 6] 2 (.zipE V1 Y2) [] (.call pb [(.ix V0 N2), Y3, V5, v4, (.tup [v6])]))]
def Sm(x:Pt)(dd:Nat)(w:W):W:=match w with
 |.tup [.int n,.str s]=>iI x.tr dd n.toNat (nF x) [s]
 |_=>.non
theorem tN{fw:Nat}{tb:List Fn}{f pc pb l g:Nat}(hf:tb[f]?=some ⟨4,5,ip pc pb,none⟩)(hpc:tb[pc]?=some ⟨3,3,jS l,none⟩)(hl:tb[l]?=some ⟨2,3,xo g,none⟩)(hg:tb[g]?=some ⟨2,3,pF,none⟩)(hpb:tb[pb]?=some ⟨5,5,dg,none⟩)(d:Nat)(x:Pt)(ns:List Nat)(hs:List Str)(dd:Nat)(h:aa)(hx:x.G fw)(hh:hs.length=x.hs.length)(hn:ns.length<=1000) :
  ae fw tb (d+4) f [aJ x,.lst (ns.map aw),.lst (hs.map W.str),aw dd] h=.ok (.lst (List.zipWith (λn s=>iI x.tr dd n (nF x) [s]) ns hs)) h:=by
 rw[ah hf rfl]
 have h6:x.q*x.hs.length<=x.q*6:=Nat.mul_le_mul_left _ hx.h1
 have p:=nL (fw:=fw) hpc hl hg d x.p x.q 1 x.hs.length h (nJ (zG hx.pz (ZA zD zD)) (by exact Nat.one_lt_two_pow zD)) (nJ (zG (Zf (Nat.le_mul_of_pos_right _ zD) hx.qz) (ZA zD zD)) (Zf hx.h1 (zG (show 6<2^3 by decide) (ZA zD zD)))) hx.q0 hx.h0 (Zf h6 hx.qz) (Zf h6 hx.qf)
 rw[Nat.mul_one]at p
 have b:=λ(n:Nat) (s:Str) (hh:aa)=>cq (fw:=fw) hpb (d+2) dd n (nF x) [s] x.tr hx.pu (zf hx.tl zD) hh
 generalize ae fw tb (d+3)=cf at *
 let σ (a4:Option W):ai:=[some (aJ x),some (.lst (ns.map aw)),some (.lst (hs.map W.str)),some (aw dd),a4]
 show J.fin h.length (a9 cf fw (ip pc pb) (σ none) h)=_
 have zz:∀(ns:List Nat) (hs:List Str),List.zipWith (λu v=>W.tup [u,v]) (ns.map aw) (hs.map W.str)=List.zipWith (λn s=>W.tup [aw n,.str s]) ns hs:=λns hs=>by rw[List.zipWith_map_left,List.zipWith_map_right]
 have e:a9 cf fw (ip pc pb) (σ none) h=.ok (.ret (.lst (List.zipWith (λn s=>iI x.tr dd n (nF x) [s]) ns hs))) h:=by
  refine(ak (bV (w:=mO (nF x)) (j5 (aq (Ft (x:=x) (U0 rfl)) (aq (ax (w:=aw 1)) (aq ((cM (x:=.lst (hs.map W.str)) (U2 rfl) rfl).trans (by rw[zj,hh])) aA))) p))).trans (aH (aU ?_))
  have q:=mB (cf:=cf) (is:=[5,6]) (n:=2) (a:=.zipE V1 Y2)  (σ:=σ (some (mO (nF x)))) (h:=h) (F:=Sm x dd)
   (J8 (U1 rfl) (U2 rfl) (.inl rfl) (.inl rfl)) rfl (λk e=>by cases e) (by rw[zz,List.length_zipWith];lia) (λw hw=>by
   rw[zz]at hw
   obtain⟨i,hi,rfl⟩:=List.mem_iff_getElem.mp hw
   rw[List.getElem_zipWith]
   exact⟨by show ar (iI _ _ _ _ _)=true;exact bw hx.pu,_,rfl,λhh2=>j5 (aq (FL (x:=x) (U0 rfl)) (aq (U3 rfl) (aq (U5 rfl) (aq (U4 rfl) (aq (kd (aq (av (i:=6) rfl) aA) (by show 1<=1000;decide)) aA))))) (b _ _ hh2)⟩)
  refine q.trans ?_;rw[zz,List.map_zipWith];rfl
 rw[e]
 refine eM ?_ (λn z=>by cases z) rfl
 rw[ar]
 refine da λw hw=>?_
 obtain⟨i,hi,rfl⟩:=List.mem_iff_getElem.mp hw
 rw[List.getElem_zipWith]
 exact bw hx.pu
noncomputable abbrev LB(wi hr pb fl : Nat) : List S := [.asg 8 (.ix V7 N1),
 .asg 9 (.call wi [V8,V1]),
 .if_ (.cmp .Eq (.blt .len [V9]) (.blt .len [V8])) [.cnt] [],
 .if_ (.cmp .Gt (.blt .len [V9]) N0) [.setix V5 (.bin .Sub v6 N1) (.call pb [(.ix V7 N2),v4,v6,(.ix V7 N0),V9])] [.asg 10 (.compS [14] 1 V8 [] (.call hr [GO,Y2,sm])),
 .asg 11 (.bin .Add (.lst [v6]) (.lrng (.bin .Add (.blt .len [V5]) N1) (.bin .Add (.blt .len [V5]) (.blt .len [sA])))),
 .asg 12 (.call fl [V7,xS,sA,v4]),
 .setix V5 (.bin .Sub v6 N1) (.ix HF N0),
 .exp (.meth .extend V5 [(.sl HF (some N1) none)])]]
theorem ve{A B:List W}{w v:W}{j:Nat}(h:A.length=j):(A++w::B).set j v=A++v::B:=by simp_all
noncomputable abbrev Bt(wi hr pb fl:Nat)(r:List S):List S:=.asg 13 (.bin .Add (.blt .list [Y3]) (.blt .list [V1]))::.fresh 5 (.blt .list [V0])::.for_ [6,7] (.seq (.enmE 1 V0)) (LB wi hr pb fl)::r
theorem Hk{ss:List Str}{F:Str->Str}(ea:af cf a σ h=.ok x h)(hx:Seq x (ss.map W.str))(hl:ss.length<=1000)(hF:∀s∈ss,∀hh,af cf elt ((kE [i] σ++List.replicate n none).set i (some (.str s))) hh=.ok (.str (F s)) hh):af cf (.compS [i] n a [] elt) σ h=.ok (.lst ((ss.map F).map W.str)) h:=by refine(mB (F:=λw=>match w with|.str s=>.str (F s)|_=>.non) ea (hx.seqA h) (hx.noref) (by simp_all) (λw hw=>?_)).trans (by rw[Z7,Z7];rfl);obtain⟨s,hs,rfl⟩:=Zs.mp hw;exact⟨rfl,_,rfl,hF s hs⟩
theorem yG{fw:Nat}{tb:List Fn}{wi hr pb fl pc l g:Nat}(hwi:tb[wi]?=some ⟨2,2,fh,none⟩)(hhr:tb[hr]?=some ⟨3,5,iR,none⟩)(hpb:tb[pb]?=some ⟨5,5,dg,none⟩)(hfl:tb[fl]?=some ⟨4,5,ip pc pb,none⟩)
  (hpc:tb[pc]?=some ⟨3,3,jS l,none⟩) (hll:tb[l]?=some ⟨2,3,xo g,none⟩) (hg:tb[g]?=some ⟨2,3,pF,none⟩) (d:Nat) (t gW:W) (xs:List Pt) (gs ks vs dead P:List Str) (dd:Nat) (h:aa)
  (ht:Seq t (xs.map aJ)) (hgs:Seq gW (gs.map W.str)) (hP:P.length<=30) (hgP:∀s∈gs,s∈P) (hv:∀y∈vs,y∈P) (hkv:ks.length=vs.length) (hw:31<=fw) (hx:∀x∈xs,x.G fw) (hxl:xs.length<=60) (uJ:dead.length+gs.length<=1000) :
  ∃σ2:ai,σ2[5]?=some (some (.ref h.length))/\∀r,a9 (ae fw tb (d+4)) fw (Bt wi hr pb fl r) [some t,some gW,some (.dic ks (vs.map W.str)),some (.lst (dead.map W.str)),some (aw dd),none,none,none,none,none,none,none,none,none] h =
   a9 (ae fw tb (d+4)) fw r σ2 (h++[.lst (iQ (λs=>fM (sC ks vs) (λy=>aK y (dead++gs)) s 31 s) gs dd xs xs.length)]):=by
 let heir:Str->Str:=λs=>fM (sC ks vs) (λy=>aK y (dead++gs)) s 31 s
 have c1:=λ(name:Str) (hh:aa) (hn:name∈P)=>D9 (fw:=fw) hhr (d+3) name ks vs (dead++gs) P hh hP hn hv hkv hw
 have c7:=λ(x:Pt) (ns:List Nat) (hs:List Str) (hh:aa)=>tN (fw:=fw) hfl hpc hll hg hpb d x ns hs dd hh
 let Iv:Nat->ai->aa->Prop:=λj s hh=>∃r6 r7 r8 r9 r10 r11 r12,s=[some t,some gW,some (.dic ks (vs.map W.str)),some (.lst (dead.map W.str)),some (aw dd),some (.ref h.length),r6,r7,r8,r9,r10,r11,r12,some (.lst ((dead++gs).map W.str))]/\hh=h++[.lst (iQ heir gs dd xs j)]
 obtain⟨σ2,hh,lp,r6,r7,r8,r9,r10,r11,r12,rfl,rfl⟩:∃σ2 hh,fo [6,7] (a9 (ae fw tb (d+4)) fw (LB wi hr pb fl)) ((xs.map aJ).mapIdx λi u=>W.tup [.int (1+(i:Int)),u]) [some t,some gW,some (.dic ks (vs.map W.str)),some (.lst (dead.map W.str)),some (aw dd),some (.ref h.length),none,none,none,none,none,none,none,some (.lst ((dead++gs).map W.str))] (h++[.lst (iQ heir gs dd xs 0)])=.ok (.nx σ2) hh/\Iv (0+_) σ2 hh:=by
  refine wa (Iv:=Iv) _ 0 _ _ (λj w s hh ew q=>?_) ⟨_,_,_,_,_,_,_,rfl,rfl⟩;rw[zzT]at q ⊢;obtain⟨r6,r7,r8,r9,r10,r11,r12,rfl,rfl⟩:=q;rw[ZM,Za]at ew;rcases ex:xs[j]? with _|x<;>rw[ex]at ew<;>cases ew;have hj:=(ze.mp ex).1;have hxx:=hx x (zH ex);have h0:=hxx.h0;have h1:=hxx.h1;obtain⟨A,B,la,eA,eB⟩:=yX (heir:=heir) (g:=gs) (dd:=dd) ex;have en:(1+(j:Int))=((j+1:Nat):Int):=zL;have hL:=qN (heir:=heir) (g:=gs) (dd:=dd) (xs:=xs) (j:=j) (Nat.le_of_lt hj);have hN:=oa (heir:=heir) (g:=gs) (dd:=dd) (l:=xs.take j) (m:=xs.length) λy hy=>(hx y (List.mem_of_mem_take hy)).h1;rw[Zo]at hN;have c0:=λhh=>kf (fw:=fw) hwi (d+3) (.tup (x.hs.map W.str)) gW x.hs gs hh (.inr rfl) hgs (zf h1 zD);have b:=λn s hs hh=>cq (fw:=fw) hpb (d+3) dd n s hs x.tr hxx.pu (zf hxx.tl zD) hh;simp only[Iv,en,eB];generalize iQ heir gs dd xs j=cur at *;by_cases qa:(bu x.hs gs).length=x.hs.length;refine⟨_,_,_,rfl,.inr (by simp! [c0,qa];rfl),_,_,_,_,_,_,_,rfl,?_⟩;have e2:Cj heir gs dd (j+1) x=aJ x:=zF qa;have e3:gH heir gs dd cur.length x=[]:=zP zL;rw[e2,e3,Zi,<- eA];by_cases qb:0<(bu x.hs gs).length;have e2:Cj heir gs dd (j+1) x=iI x.tr dd (j+1) (x.p,x.q) (bu x.hs gs):=by unfold Cj;rw[zP qa,zF qb]
  have e3:gH heir gs dd cur.length x=[]:=zP zL;refine⟨_,_,_,rfl,.inl (by simp! [c0,qa,qb,b (j+1) (x.p,x.q),bw hxx.pu,oO (show j<cur.length by lia)];rfl),_,_,_,_,_,_,_,rfl,?_⟩;rw[e2,e3,Zi,eA,ve la];have ln:bu x.hs gs=[]:=List.length_eq_zero_iff.mp zL;have hin:∀s∈x.hs,s∈P:=λs hs=>hgP s (by
   have:=List.filter_eq_nil_iff.mp ln s hs
   simpa [br] using this)
  obtain⟨s0,r0,ehs⟩:=List.exists_cons_of_ne_nil (l:=x.hs) (λe=>by rw[e]at h0;exact absurd h0 zD);have k1:x.hs.length-1=r0.length:=by rw[ehs,Zn];lia
  have e2:Cj heir gs dd (j+1) x=iI x.tr dd (j+1) (nF x) [heir s0]:=by unfold Cj;rw[zP qa,zP qb,ehs];rfl
  have eh:∀r10 r11 r12 hh,af (ae fw tb (d+4)) (.compS [14] 1 V8 [] (.call hr [GO,Y2,sm])) [some t,some gW,some (.dic ks (vs.map W.str)),some (.lst (dead.map W.str)),some (aw dd),some (.ref h.length),some (aw (j+1)),some (aJ x),some (.tup (x.hs.map W.str)),some (.tup ((bu x.hs gs).map W.str)),r10,r11,r12,some (.lst ((dead++gs).map W.str))] hh=.ok (.lst ((x.hs.map heir).map W.str)) hh:=λr10 r11 r12 hh=>Hk (by simp! []) (.inr rfl) zL λs hs hh=>by (simp! [c1 s hh (hin s hs)];rfl)
  have efp:List.zipWith (λn s=>iI x.tr dd n (nF x) [s]) ((j+1)::(List.range (x.hs.length-1)).map λi=>cur.length+1+i) (x.hs.map heir)=iI x.tr dd (j+1) (nF x) [heir s0]::gH heir gs dd cur.length x:=by unfold gH;rw[zF zL,ehs,zR,List.zipWith_cons_cons,List.tail_cons,Zn,Nat.add_sub_cancel,List.zipWith_map_right];exact congrArg (List.cons _) (wD (λn s=>iI x.tr dd n (nF x) [heir s]) r0 (λi=>cur.length+1+i))
  have f:ae fw tb (d+4) fl [aJ x,.lst (aw (j+1)::(List.range (x.hs.length-1)).map λi=>aw (cur.length+1+i)),.lst ((x.hs.map heir).map W.str),aw dd] (h++[.lst cur])=.ok (.lst (iI x.tr dd (j+1) (nF x) [heir s0]::gH heir gs dd cur.length x)) (h++[.lst cur]):=by have:=c7 x ((j+1)::(List.range (x.hs.length-1)).map λi=>cur.length+1+i) (x.hs.map heir) (h++[.lst cur]) hxx (by rw[zj]) (by simp;lia);rw[efp,zR,Z7]at this;exact this
  have el5:=rR (heir:=heir) (g:=gs) (dd:=dd) (m:=cur.length) h1;have rg:=MQ (h:=h++[.lst cur]) (m:=cur.length+1) (n:=cur.length+x.hs.length) zL zL zL;rw[show cur.length+x.hs.length-(cur.length+1)=x.hs.length-1 by lia]at rg;refine⟨_,_,_,rfl,.inl (by simp! [c0,qa,qb,eh,rg,f,show 1+(x.hs.length-1)<=1000 by lia,ky,DF,bw hxx.pu,oO (show j<cur.length by lia),x5 hxx,show cur.length+(gH heir gs dd cur.length x).length<=16777216 by lia];rfl),_,_,_,_,_,_,_,rfl,?_⟩;rw[e2,eA,ve la]
 rw[zzT,Z6,zj]at lp
 rw[J5]at lp
 have pl:aj (xs.map aJ)=true:=da λw hw=>by obtain⟨x,hx',rfl⟩:=Zs.mp hw;simp[aJ,ar,aj,aC,(hx x hx').pu]
 exact⟨[some t,some gW,some (.dic ks (vs.map W.str)),some (.lst (dead.map W.str)),some (aw dd),some (.ref h.length),r6,r7,r8,r9,r10,r11,r12,some (.lst ((dead++gs).map W.str))],rfl,λr=>by rcases ht with rfl|rfl<;>rcases hgs with rfl|rfl<;>simp! [Bt,ky,<- zY,uJ,seqA,hZ,i7,Option.or,pl,lp,heir]⟩
section
variable {α:Type} [DecidableEq α]
def Jc(D r:List α):List α:=D.filter λx=>!decide (x∈r)
def Pk(D:List α):Nat->List (List α)
 |0=>[[]]
 |k+1=>(Pk D k).flatMap λr=>(Jc D r).map λx=>r++[x]
noncomputable def DR(ok:List α->Bool)(D:List α):Nat->List α
 |0=>[]
 |k+1=>match(Jc D (DR ok D k)).find? λx=>ok (Jc D (DR ok D k++[x])) with
  |some x=>DR ok D k++[x]
  |none=>DR ok D k
def Mz{β:Type}(f:β->Int):List β->Int×β->Int×β
 |[],p=>p
 |o::os,p=>Mz f os (if f o>p.1 then(f o,o) else p)
end
theorem pG{n:Nat}{src:Option Nat}{f:W->aa->Res (Option W)}{G:W->Option W}{h:aa}(hn:h.length=n)(hs:∀k,src=some k->k<n):∀(ws us:List W),(∀w∈ws,∀us,f w (h++[.lst us])=.ok (G w) (h++[.lst us])/\∀u,G w=some u->ar u=true)->us.length+ws.length<=100000 ->
  lc n src f ws (h++[.lst us])=.ok () (h++[.lst (us++ws.filterMap G)])
 |[],us,_,_=>by rw[lc];simp
 |w::ws,us,hf,hl=>by
  rw[Zn]at hl;obtain⟨e,hp⟩:=hf w zQ us;rw[lc,e,ag,zF (λk _=>rfl)];cases g:G w with
  |none=>dsimp only;rw[pG hn hs ws us (λw' hw'=>hf w' (zo _ hw')) zL,List.filterMap_cons,g]
  |some u=>
   dsimp only;have hcell:(h++[Ob.lst us])[n]?=some (.lst us):=by rw[<- hn,zE (zC _),Nat.sub_self];rfl
   rw[hcell];dsimp only;rw[zF ⟨hp u g,by rw[Zq];lia⟩];have hset:(h++[Ob.lst us]).set n (.lst (us++[u]))=h++[.lst (us++[u])]:=by simp_all
   rw[hset,pG hn hs ws (us++[u]) (λw' hw'=>hf w' (zo _ hw')) (by rw[zM,Zu];lia),List.filterMap_cons,g];simp
theorem Gz{α:Type}{cf:CF}{is:List Nat}{n:Nat}{c elt:E}{σ:ai}{h:aa}{src:Option Nat}{xs:List α}{v:α->W}{p:α->Bool}{F:α->W}(inv:W->Option α)(hinv:∀y,inv (v y)=some y)(hr:∀k,src=some k->k<h.length)(hm:xs.length<=1000)
  (hF:∀y∈xs,∃σ',aV is (v y) (kE is σ++List.replicate n none)=some σ'/\(∀hh,bJ cf c σ' hh=.ok (p y) hh)/\(p y=true->ar (F y)=true/\∀hh,af cf elt σ' hh=.ok (F y) hh)) :
  jP h.length (lc h.length src (λw h=>cK (aV is w (kE is σ++List.replicate n none)) (cg cf [c]) (af cf elt) h) (xs.map v) (h++[.lst []]))=.ok (.lst ((xs.filter p).map F)) h:=by
 have key:∀ys:List α,(ys.map v).filterMap (λw=>(inv w).bind λy=>if p y=true then some (F y) else none)=(ys.filter p).map F:=λys=>by
  induction ys with
  |nil=>rfl
  |cons y ys ih =>
   grind
 rw[pG (G:=λw=>(inv w).bind λy=>if p y=true then some (F y) else none) rfl hr (xs.map v) [] (λw hw us=>?_) (by rw[List.length_nil,zj];lia),fq rfl,zzV,key]
 obtain⟨y,m,rfl⟩:=Zs.mp hw
 obtain⟨σ',e1,e2,e3⟩:=hF y m
 rw[hinv,Option.bind_some]
 unfold cK
 rw[e1]
 dsimp only
 have e2':jb (af cf c σ' (h++[.lst us]))=.ok (p y) (h++[.lst us]):=e2 _
 rw[cg,e2',ag]
 by_cases q:p y=true
 ·obtain⟨q1,q2⟩:=e3 q
  rw[zF q,zF q,cg,ag,zF rfl,q2,ag]
  exact⟨rfl,λu hu=>by cases hu;exact q1⟩
 ·rw[zP q,zP q,ag,zP zD]
  exact⟨rfl,λu hu=>by cases hu⟩
end J
namespace J
open PySem
structure Pt.R (x:Pt) (n:Nat):Prop where
 q0:0<x.q
 qb:x.q<=20^n
 pb:x.p<=20^n
 h0:1<=x.hs.length
 h1:x.hs.length<=6
 nm:∀s∈x.hs,aE s
 pu:aj x.tr=true
 oq:dr x.tr=true
 dp:dz x.tr<=4
 tl:x.tr.length<=n
theorem Pt.R.up{x:Pt}(h:x.R n)(hm:n<=m):x.R m :=
 have e :=ZA zS hm
 ⟨h.q0,zf h.qb e,zf h.pb e,h.h0,h.h1,h.nm,h.pu,h.oq,h.dp,zf h.tl hm⟩
theorem gU(h:x.R n):ar (aJ x)=true:=by simp[aJ,ar,aj,aC,h.pu]
theorem cZ{n:Nat}:∀{xs:List Pt},(∀x∈xs,x.R n)->aj (xs.map aJ)=true
 |[],_=>rfl
 |x::xs,h=>by rw[zR,aj,gU (h x zQ),cZ λy hy=>h y (zo _ hy)];rfl
theorem sG(h:n<=400):20^n*20<2^2010:=by
 have e:20^n*20<=20^401:=by rw[<- Nat.pow_succ];exact ZA zS (by simp_all)
 grind
def je(tr:List W)(dd nn:Nat)(s:Nat×Nat)(hs:List Str):Pt:=⟨s.1,s.2,hs,tr++[.tup [aw dd,aw nn,mO s,.tup (hs.map W.str)]]⟩
theorem Iu:aJ (je tr dd nn s hs)=iI tr dd nn s hs:=rfl
theorem rm{x:Pt}(h:x.R n)(ha:a<=20)(hb:b<=20)(b0:0<b)(h0:1<=hs.length)(h1:hs.length<=6)(nm:∀s∈hs,aE s):(je x.tr dd nn (gy (x.p*a) (x.q*b)) hs).R (n+1):=by
 have q0:0<x.q*b:=Z9 h.q0 b0;refine⟨?_,?_,?_,h0,h1,nm,?_,?_,?_,?_⟩;exact Nat.div_pos (Nat.gcd_le_right _ q0) (Nat.gcd_pos_of_pos_right _ q0);exact zf (Nat.div_le_self _ _) (by rw[Nat.pow_succ];exact zzp h.qb hb);exact zf (Nat.div_le_self _ _) (by rw[Nat.pow_succ];exact zzp h.pb ha);exact fN h.pu (by simp[ar,aj,aC])
 exact l9 h.oq (by
  have:hs.length<=100000:=zL
  simp[jZ,dr,dX,this])
 exact lP h.dp (by simp[jM,dz,dZ]);show(x.tr++[_]).length<=n+1;rw[zM,Zu];have:=h.tl;lia
theorem ku{b:Nat}(hb:b<=20):fB x (b)=true:=by
 rw[gP];unfold sZ
 grind
noncomputable abbrev vG(wp be : Nat) : List S := [.asg 4 (.ix V0 (.bin .Sub V1 N1)),
 .ret (.call wp [V0, V1, (.call be [(.ix v4 N2), Y3, V1, (.ix v4 N0), Y2])])]
noncomputable abbrev uM(pi be wp : Nat) : List S := [.asg 5 (.ix V0 (.bin .Sub V1 N1)),
 .asg 6 (.ix V5 N0),
 .asg 7 (.ix V5 N2),
 .asg 8 (.call pi [v6,(.bin .Sub qB Y2),qB]),
 .asg 9 (.call be [V7,v4,V1,V8,(.ix V5 N1)]),
 .asg 10 (.call be [V7,v4,(.bin .Add (.blt .len [V0]) N1),(.call pi [v6,Y2,qB]),Y3]),
 .ret (.bin .Add (.call wp [V0, V1, V9]) (.lst [sA]))]
noncomputable abbrev BD(nu wh ph ck eNH eBP : Nat) : List S := [.asg 6 (.call nu [V0, V1]),
 .if_ (.cmp .NotEq (.ix v6 N1) (.tup [Y2])) [.raise eNH [.rep 2,.lit,.var 1]] [],
 .if_ (.or_ (.cmp .Lt Y3 N1) (.cmp .Gt Y3 qB)) [.raise eBP [.lit,.con,.lit,.var 3]] [],
 .if_ (.cmp .Eq Y3 qB) [.asg 7 (.call wh [V0,V1,v4,V5])] [.asg 7 (.call ph [V0,V1,Y3,v4,V5])],
 .ret (.call ck [V7])]
noncomputable abbrev vg(nu wi be pi ck wp eNH : Nat) : List S := [.asg 4 (.call nu [V0, V1]),
 .asg 5 (.ix v4 N0),
 .asg 6 (.ix v4 N1),
 .asg 7 (.ix v4 N2),
 .asg 8 (.blt .len [v6]),
 .if_ (.or_ (.cmp .Lt V8 N2) (.cmp .NotIn Y2 v6)) [.raise eNH [.rep 2,.lit,.var 1]] [],
 .asg 9 (.call wi [v6,(.tup [Y2])]),
 .asg 10 (.call be [V7,Y3,V1,(.call pi [V5,(.bin .Sub V8 N1),V8]),V9]),
 .asg 11 (.call be [V7,Y3,(.bin .Add (.blt .len [V0]) N1),(.call pi [V5,N1,V8]),(.tup [Y2])]),
 .ret (.call ck [(.bin .Add (.call wp [V0, V1, sA]) (.lst [xS]))])]
structure Ix where
 (gc lo pi be nu wp ck wi wh ph hp sp hr fa pa:Nat)
 (eNP eNH eBP eTP:Nat)
structure Ix.In (I:Ix) (tb:List Fn):Prop where
 gc:tb[I.gc]?=some ⟨2,3,pF,none⟩
 lo:tb[I.lo]?=some ⟨2,3,xo I.gc,none⟩
 pi:tb[I.pi]?=some ⟨3,3,jS I.lo,none⟩
 be:tb[I.be]?=some ⟨5,5,dg,none⟩
 nu:tb[I.nu]?=some ⟨2,2,cA I.eNP,none⟩
 wp:tb[I.wp]?=some ⟨3,4,rM,none⟩
 ck:tb[I.ck]?=some ⟨1,1,pW I.eTP,none⟩
 wi:tb[I.wi]?=some ⟨2,2,fh,none⟩
 wh:tb[I.wh]?=some ⟨4,5,vG I.wp I.be,none⟩
 ph:tb[I.ph]?=some ⟨5,11,uM I.pi I.be I.wp,none⟩
 hp:tb[I.hp]?=some ⟨6,8,BD I.nu I.wh I.ph I.ck I.eNH I.eBP,none⟩
 sp:tb[I.sp]?=some ⟨4,12,vg I.nu I.wi I.be I.pi I.ck I.wp I.eNH,none⟩
structure Ix.Dh (I:Ix) (tb:List Fn):Prop where
 hr:tb[I.hr]?=some ⟨3,5,iR,none⟩
 fa:tb[I.fa]?=some ⟨4,5,ip I.pi I.be,none⟩
 pa:tb[I.pa]?=some ⟨5,14,Bt I.wi I.hr I.be I.fa [.ret (.call I.ck [V5])],none⟩
theorem Bw(ee:af cf e σ h=r):a9 cf fw [.ret e] σ h=bnd r λw h=>.ok (.ret w) h:=by rw[a9,aL,ee];cases r<;>rfl
section
variable {fw:Nat}{tb:List Fn}{I:Ix}{xs:List Pt}{x:Pt}{n k dd:Nat}{name:Str}{h:aa}
theorem oY(T:I.In tb)(hf:2^2010<=fw)(d m o:Nat)(hx:x.R n)(hn:n<=400)(hm:m<=20)(ho:o<=20)(o0:0<o):ae fw tb (d+3) I.pi [sh x.p x.q,aw m,aw o] h=.ok (mO (gy (x.p*m) (x.q*o))) h:=by have hb :=Zf (zzp hx.qb ho) (sG hn);exact nL T.pi T.lo T.gc d x.p x.q m o h (ku hm) (ku ho) hx.q0 o0 (zG hb (ZA zS zS)) (zG hb hf)
theorem qk(T:I.In tb)(d:Nat)(ws:List W)(hp:aj ws=true):ae fw tb (d+1) I.ck [.lst ws] h=if 60<ws.length then .exc I.eTP h else .ok (.lst ws) h:=by rw[ah T.ck rfl];simp! [show ar (.lst ws)=true from hp,k6]
def ow(x:Pt)(name:Str):Bool:=decide (x.hs.length<2)||!aK name x.hs
def yH(x:Pt)(name:Str):List Str:=x.hs.filter λs=>!decide (s=name)
noncomputable def mQ(xs:List Pt)(x:Pt)(k:Nat)(name:Str)(dd:Nat):List Pt:=xs.set (k-1) (je x.tr dd k (gy (x.p*(x.hs.length-1)) (x.q*x.hs.length)) (yH x name))++[je x.tr dd (xs.length+1) (gy (x.p*1) (x.q*x.hs.length)) [name]]
theorem tT(T:I.In tb)(d:Nat)(z:Int)(hz:z.natAbs<10^100)(ho:gT z xs.length=true):ae fw tb (d+5) I.sp [.lst (xs.map aJ),.int z,.str name,aw dd] h=.exc I.eNP h:=by rw[ah T.sp rfl];simp! [ja  T.nu (d+3) (.lst (xs.map aJ)) (xs.map aJ) z h (.inl rfl) hz (by grind)]
theorem rP:(mQ xs x k name dd).map aJ=(xs.map aJ).set (k-1) (iI x.tr dd k (gy (x.p*(x.hs.length-1)) (x.q*x.hs.length)) (yH x name))++[iI x.tr dd (xs.length+1) (gy (x.p*1) (x.q*x.hs.length)) [name]]:=by rw[mQ,zY,List.map_set];rfl
theorem Ek(h1:ow x name=false)(nd:x.hs.Nodup):1<=(yH x name).length:=by
 unfold ow at h1;unfold yH
 match e:x.hs,nd with
 |a::b::l,nd =>
  grind
 |[a],_=>simp_all
 |[],_=>simp_all
theorem Kb(hxs:∀x∈xs,x.R n)(hx:x∈xs)(hb:ow x name=false)(nd:x.hs.Nodup)(hm:aE name):∀y∈mQ xs x k name dd,y.R (n+1):=λy hy=>by have h6:=(hxs x hx).h1;have h0:=(hxs x hx).h0;rcases Ze.mp hy with h|h;rcases Zx h with h|h;exact(hxs y h).up (ZS _);rw[h];exact rm (hxs x hx) zL zL zL (Ek hb nd) (zf (zz3 _ _) h6) λs hs=>(hxs x hx).nm s (zzb.mp hs).1;rw[zT.mp h];exact rm (hxs x hx) zS zL zL zS zS λs hs=>by grind
theorem kM:(mQ xs x k name dd).length=xs.length+1:=by simp[mQ]
theorem rY(hxs:∀x∈xs,x.R n)(hx:x∈xs):aj ((mQ xs x k name dd).map aJ)=true:=by rw[rP];refine iX (da λw hw=>?_) (bw (hxs x hx).pu);rcases Zx hw with h|h;obtain⟨y,hy,rfl⟩:=Zs.mp h;exact gU (hxs y hy);rw[h];exact bw (hxs x hx).pu
theorem we(T:I.In tb)(hf:2^2010<=fw)(d:Nat)(hxs:∀x∈xs,x.R n)(hn:n<=400)(hl:xs.length<=60)(h1:1<=k)(hk:xs[k-1]?=some x)(hm:aE name) :
  ae fw tb (d+5) I.sp [.lst (xs.map aJ),aw k,.str name,aw dd] h=if ow x name=true then .exc I.eNH h else if 60<=xs.length then .exc I.eTP h else .ok (.lst ((mQ xs x k name dd).map aJ)) h:=by
 have hx:x.R n:=hxs x (zH hk)
 have hk1 :=(ze.mp hk).1
 have hh0:=hx.h0
 have hh6:=hx.h1
 have hpu:=cZ hxs
 have htl:x.tr.length<=1000:=zf hx.tl zL
 have sp:=rY (k:=k) (name:=name) (dd:=dd) hxs (zH hk)
 have w5:=lO (fw:=fw) T.wp (d+3) (.lst (xs.map aJ)) (xs.map aJ) k (iI x.tr dd k (gy (x.p*(x.hs.length-1)) (x.q*x.hs.length)) (yH x name)) h (.inl rfl) h1 (by grind) hpu (bw hx.pu)
 have ck:=qk (fw:=fw) (h:=h) T (d+3) _ sp
 rw[rP]at ck sp ⊢
 rw[ah T.sp rfl]
 have n4:=ke (fw:=fw) T.nu (d+3) (.lst (xs.map aJ)) (xs.map aJ) k (aJ x) h (.inl rfl) h1 (by simp_all) (gU hx) (λk z=>by cases z)
 have p1:=oY (h:=h) T hf (d+1) (x.hs.length-1) x.hs.length hx hn zL zL zL
 have p2:=oY (h:=h) T hf (d+1) 1 x.hs.length hx hn zD zL zL
 have r2:=cq (fw:=fw) T.be (d+3) dd (xs.length+1) (gy (x.p*1) (x.q*x.hs.length)) [name] x.tr hx.pu htl h
 have lo:bu x.hs [name]=yH x name:=wY _ _
 simp_arith at p2 r2
 simp! [n4,p1,ky,show xs.length+1<=1000 by lia,show(60<xs.length+1)=(60<=xs.length) from propext Nat.lt_add_one_iff,k6 (w:=.lst _) sp,p2,r2,cq T.be _ _ _ (gy _ _) _ _ hx.pu htl,w5,ck,kf T.wi _ (.tup (x.hs.map W.str)) (.tup [.str name]) x.hs [name] h (.inr rfl) (.inr rfl) zL,lo,hh0,rC hm,ow,show k<10^100 from Zf (show k<=60 by lia) zD]
end
theorem Gf{x:Pt}(h:x.R n)(h0:1<=hs.length)(h1:hs.length<=6)(nm:∀s∈hs,aE s):(je x.tr dd nn (x.p,x.q) hs).R (n+1):=by
 have e:20^n<=20^(n+1):=ZA zS (ZS _);refine⟨h.q0,zf h.qb e,zf h.pb e,h0,h1,nm,?_,?_,?_,?_⟩;exact fN h.pu (by simp[ar,aj,aC])
 exact l9 h.oq (by
  have:hs.length<=100000:=zf h1 zD
  simp[jZ,dr,dX,this])
 exact lP h.dp (by simp[jM,dz,dZ]);show(x.tr++[_]).length<=n+1;rw[zM,Zu];have:=h.tl;lia
noncomputable def cj(xs:List Pt)(x:Pt)(k tw:Nat)(to:List Str)(dd:Nat):List Pt:=if tw=20 then xs.set (k-1) (je x.tr dd k (x.p,x.q) to) else xs.set (k-1) (je x.tr dd k (gy (x.p*(20-tw)) (x.q*20)) x.hs)++[je x.tr dd (xs.length+1) (gy (x.p*tw) (x.q*20)) to]
def k9(tz:Int):Bool:=decide (tz<1)||decide ((20:Int)<tz)
theorem oQ(h:k9 tz=false):∃k:Nat,tz=(k)/\1<=k/\k<=20:=by unfold k9 at h;rw[Bool.or_eq_false_iff,decide_eq_false_iff_not,decide_eq_false_iff_not]at h;exact⟨tz.toNat,zL,zL,by simp_all⟩
section
variable {fw:Nat}{tb:List Fn}{I:Ix}{xs:List Pt}{x:Pt}{n k dd:Nat}{name:Str}{to:List Str}{h:aa}
theorem lW:(cj xs x k tw to dd).map aJ=if tw=20 then(xs.map aJ).set (k-1) (iI x.tr dd k (x.p,x.q) to) else(xs.map aJ).set (k-1) (iI x.tr dd k (gy (x.p*(20-tw)) (x.q*20)) x.hs)++[iI x.tr dd (xs.length+1) (gy (x.p*tw) (x.q*20)) to]:=by unfold cj;split;rw[List.map_set];rfl;rw[zY,List.map_set];rfl
theorem dM:(cj xs x k tw to dd).length=if tw=20 then xs.length else xs.length+1:=by unfold cj;split<;>simp
theorem Hj(htw:tw<=20)(hxs:∀x∈xs,x.R n)(hx:x∈xs)(h0:1<=to.length)(h6:to.length<=6)(nm:∀s∈to,aE s):∀y∈cj xs x k tw to dd,y.R (n+1):=λy hy=>by have X:=hxs x hx;unfold cj at hy;split at hy;rcases Zx hy with h|h;exact(hxs y h).up (ZS _);rw[h];exact Gf X h0 h6 nm;rcases Ze.mp hy with h|h;rcases Zx h with h|h;exact(hxs y h).up (ZS _);rw[h];exact rm X (Nat.sub_le ..) zD zS X.h0 X.h1 X.nm;rw[zT.mp h];exact rm X htw zD zD h0 h6 nm
theorem hV{tw:Nat}(hxs:∀x∈xs,x.R n)(hx:x∈xs):aj ((cj xs x k tw to dd).map aJ)=true:=by
 have X:=hxs x hx
 have old:∀w v,ar v=true->w∈(xs.map aJ).set (k-1) v->ar w=true:=λw v hv hw=>by
  rcases Zx hw with h|h
  ·obtain⟨y,hy,rfl⟩:=Zs.mp h
   exact gU (hxs y hy)
  grind
 rw[lW]
 split
 ·exact da λw hw=>old w _ (bw X.pu) hw
 ·exact iX (da λw hw=>old w _ (bw X.pu) hw) (bw X.pu)
theorem K7(h1:1<=k)(hk:xs[k-1]?=some x):cU (.lst (xs.map aJ)) (.int ((k-1:Nat))) h=.ok (aJ x) h:=cD rfl (by simp_all)
theorem Gw(T:I.In tb)(d:Nat)(hxs:∀x∈xs,x.R n)(hn:n<=400)(h1:1<=k)(hk:xs[k-1]?=some x):ae fw tb (d+2) I.wh [.lst (xs.map aJ),aw k,.tup (to.map W.str),aw dd] h=.ok (.lst ((cj xs x k 20 to dd).map aJ)) h:=by have hx :=hxs x (zH hk);have hp:=hV (k:=k) (tw:=20) (to:=to) (dd:=dd) hxs (zH hk);have w5:=lO (fw:=fw) T.wp d (.lst (xs.map aJ)) (xs.map aJ) k (iI x.tr dd k (x.p,x.q) to) h (.inl rfl) h1 (by grind) (cZ hxs) (bw hx.pu);rw[lW,zF rfl]at hp ⊢;rw[ah T.wh rfl];simp! [h1,K7 h1 hk,cq T.be _ _ _ (x.p,x.q) _ _ hx.pu (zf hx.tl zL),w5,k6 (w:=.lst _) hp]
theorem GZ(T:I.In tb)(hf:2^2010<=fw)(d:Nat){tw:Nat}(htw:tw<20)(hxs:∀x∈xs,x.R n)(hn:n<=400)(hl:xs.length<=60)(h1:1<=k)(hk:xs[k-1]?=some x):ae fw tb (d+4) I.ph [.lst (xs.map aJ),aw k,aw tw,.tup (to.map W.str),aw dd] h=.ok (.lst ((cj xs x k tw to dd).map aJ)) h:=by
 have hx :=hxs x (zH hk)
 have hp:=hV (k:=k) (tw:=tw) (to:=to) (dd:=dd) hxs (zH hk)
 have htl:x.tr.length<=1000:=zf hx.tl zL
 have p1:=oY (h:=h) T hf d (20-tw) 20 hx hn zL zD zD
 have p2:=oY (h:=h) T hf d tw 20 hx hn zL zD zD
 have w5:=lO (fw:=fw) T.wp (d+2) (.lst (xs.map aJ)) (xs.map aJ) k (iI x.tr dd k (gy (x.p*(20-tw)) (x.q*20)) x.hs) h (.inl rfl) h1 (by grind) (cZ hxs) (bw hx.pu)
 rw[lW,zP zL]at hp ⊢
 rw[ah T.ph rfl]
 simp_arith at p1 p2
 simp! [h1,K7 h1 hk,p1,p2,show(20:Int)-tw=(20-tw:Nat) by lia,cq T.be _ _ _ (gy _ _) _ _ hx.pu htl,w5,ky,show xs.length+1<=1000 by lia,k6 (w:=.lst _) hp]
theorem wB(T:I.In tb)(d:Nat)(z tz:Int)(hz:z.natAbs<10^100)(ho:gT z xs.length=true):ae fw tb (d+5) I.hp [.lst (xs.map aJ),.int z,.str name,.int tz,.tup (to.map W.str),aw dd] h=.exc I.eNP h:=by rw[ah T.hp rfl];simp! [ja  T.nu (d+3) (.lst (xs.map aJ)) (xs.map aJ) z h (.inl rfl) hz (by grind)]
theorem yo(T:I.In tb)(hf:2^2010<=fw)(d:Nat){tz:Int}(hxs:∀x∈xs,x.R n)(hn:n<=400)(hl:xs.length<=60)(h1:1<=k)(hk:xs[k-1]?=some x)(hm:aE name)(hz:tz.natAbs<10^100) :
  ae fw tb (d+5) I.hp [.lst (xs.map aJ),aw k,.str name,.int tz,.tup (to.map W.str),aw dd] h=if B4 x.hs [name]=false then .exc I.eNH h else if k9 tz=true then .exc I.eBP h else if 60<=xs.length/\tz<20 then .exc I.eTP h else .ok (.lst ((cj xs x k tz.toNat to dd).map aJ)) h:=by
 have hx:x.R n:=hxs x (zH hk)
 have hk1:k-1<xs.length:=(ze.mp hk).1
 have n4:=ke (fw:=fw) T.nu (d+3) (.lst (xs.map aJ)) (xs.map aJ) k (aJ x) h (.inl rfl) h1 (by simp_all) (gU hx) (λk z=>by cases z)
 rw[ah T.hp rfl]
 have nt:=Nd (h:=h) (us:=[name]) hx.nm (by simpa)
 have hk':=hk
 have hk:k<10^100:=Zf (show k<=60 by lia) zD
 simp_arith at nt
 by_cases hb:k9 tz=true
 ·have b:tz<1\/20<tz:=by simpa [k9] using hb
  simp! [n4,rC hm,hz,hk,nt,k9,b,Bool.not_eq_false']
 ·obtain⟨tw,rfl,w1,w2⟩:=oQ (Zt _ |>.mp hb)
  have ck:=qk (fw:=fw) (h:=h) T (d+3) ((cj xs x k tw to dd).map aJ) (hV hxs (zH hk'))
  have fp:=k6 (h:=h) (w:=.lst ((cj xs x k tw to dd).map aJ)) (hV hxs (zH hk'))
  rw[zj,dM]at ck
  by_cases w:tw=20
  ·subst w
   have:=Gw (fw:=fw) (h:=h) (to:=to) (dd:=dd) T (d+2) hxs hn h1 hk'
   simp! [n4,rC hm,hz,hk,nt,k9,Bool.not_eq_false',Int.cast_ofNat_Int,show ¬(20:Int)<1 by decide,or_self,show Int.toNat 20=20 from rfl,this,ck,fp,show ¬ 60<xs.length by lia,Int.lt_irrefl,and_false]
  ·have w':tw<20:=zL
   simp! [n4,rC hm,hz,hk,nt,k9,Bool.not_eq_false',show ¬(tw<1\/20<tw) by lia,w,ZT,GZ T hf _ w' hxs hn hl h1 hk',ck,fp,show(60<xs.length+1)=(60<=xs.length) from propext Nat.lt_add_one_iff,w',and_true]
end
noncomputable def Fc(heir:Str->Str)(g:List Str)(dd n:Nat)(x:Pt):Pt:=if(bu x.hs g).length=x.hs.length then x else if 0<(bu x.hs g).length then je x.tr dd n (x.p,x.q) (bu x.hs g) else je x.tr dd n (nF x) [heir (x.hs.headD bc)]
noncomputable def Cg(heir:Str->Str)(g:List Str)(dd m:Nat)(x:Pt):List Pt:=if(bu x.hs g).length=0 then x.hs.tail.mapIdx λi s=>je x.tr dd (m+1+i) (nF x) [heir s] else []
noncomputable def xP(heir:Str->Str)(g:List Str)(dd:Nat):List Pt->Nat->List Pt
 |[],_=>[]
 |x::xs,m=>Cg heir g dd m x++xP heir g dd xs (m+(Cg heir g dd m x).length)
def gN(heir:Str->Str)(g:List Str)(dd:Nat)(xs:List Pt):List Pt:=(xs.mapIdx λi x=>Fc heir g dd (i+1) x)++xP heir g dd xs xs.length
theorem kh{α β γ:Type}{f:Nat->α->β}{g:β->γ}{l:List α}:(l.mapIdx f).map g=l.mapIdx λi x=>g (f i x):=by refine List.ext_getElem? λi=>?_;rw[Za,ZM,ZM];cases l[i]?<;>rfl
section
variable {heir:Str->Str}{g:List Str}{dd n m:Nat}{x:Pt}{xs:List Pt}
theorem CN:aJ (Fc heir g dd n x)=Cj heir g dd n x:=by unfold Fc Cj;split;rfl;split<;>rfl
theorem Dp:(Cg heir g dd m x).map aJ=gH heir g dd m x:=by unfold Cg gH;split;rw[kh];rfl;rfl
theorem va:∀xs m,(xP heir g dd xs m).map aJ=dG heir g dd xs m
 |[],_=>rfl
 |x::xs,m=>by rw[xP,dG,zY,va xs,<- Dp,zj]
theorem Ao:(gN heir g dd xs).map aJ=iQ heir g dd xs xs.length:=by unfold gN iQ;rw[zY,va,zzm,List.drop_length,zzl,Zi,kh];refine congrArg (·++_) ?_;congr 1;funext i x;exact CN
theorem xh(h:s∈bu hs g):s∈hs:=(zzb.mp h).1
theorem F3(h:x.R n)(hm:aE s):(je x.tr dd nn (nF x) [s]).R (n+1):=by
 have h6:=h.h1;have h0:=h.h0;have e:nF x=gy (x.p*1) (x.q*x.hs.length):=by rw[Nat.mul_one];rfl
 rw[e];exact rm h zS zL zL zS zS λy hy=>by grind
theorem Nm(h:x.R n)(hh:∀s,aE (heir s)):(Fc heir g dd nn x).R (n+1):=by unfold Fc;split;exact h.up (ZS _);split;rename_i q;exact Gf h q (zf (zz3 _ _) h.h1) λs hs=>h.nm s (xh hs);exact F3 h (hh _)
theorem FT(hh:∀s,aE (heir s)):∀xs m,(∀x∈xs,x.R n)->∀y∈xP heir g dd xs m,y.R (n+1)
 |[],_,_,y,hy=>by cases hy
 |x::xs,m,h,y,hy=>by
  rcases Ze.mp hy with q|q
  ·unfold Cg at q
   split at q
   ·obtain⟨i,hi,rfl⟩:=List.mem_mapIdx.mp q
    exact F3 (h x zQ) (hh _)
   grind
  ·exact FT hh xs _ (λz hz=>h z (zo _ hz)) y q
theorem yk(hh:∀s,aE (heir s))(h:∀x∈xs,x.R n):∀y∈gN heir g dd xs,y.R (n+1):=λy hy=>by rcases Ze.mp hy with q|q;obtain⟨i,hi,rfl⟩:=List.mem_mapIdx.mp q;exact Nm (h _ (zZ hi)) hh;exact FT hh xs _ h y q
end
theorem uN{nx:Str->Option Str}{dead:Str->Bool}{name:Str}:∀(n:Nat) (x:Str),fM nx dead name n x=bc\/∃z,nx z=some (fM nx dead name n x)/\dead (fM nx dead name n x)=false
 |0,_=>.inl rfl
 |n+1,x=>by
  unfold fM
  cases e:nx x with
  |none=>simp
  |some y =>
   dsimp only
   split
   ·grind
   ·exact uN n y
section
variable {fw:Nat}{tb:List Fn}{I:Ix}{xs:List Pt}{n dd:Nat}{h:aa}{gs ks vs dead P:List Str}
theorem Pt.R.G{x:Pt}(r:x.R n)(hn:n<=400)(hf:2^2010<=fw):x.G fw:=by have hb :=Zf (zzp r.qb (show 6<=20 by simp)) (sG hn);have hp :=Zf (zf r.pb (Nat.le_mul_of_pos_right _ zS)) (sG hn);have e:2^2010<=2^9000:=ZA zS zS;exact⟨r.q0,zG hb e,zG hb hf,zG hp e,r.h0,r.h1,r.pu,zf r.tl zL⟩
theorem yI(T:I.In tb)(d m:Nat)(us:List W)(hm:h[m]?=some (.lst us)):ae fw tb (d+1) I.ck [.ref m] h=if 60<us.length then .exc I.eTP h else .ok (.ref m) h:=by rw[ah T.ck rfl];generalize ae fw tb d=cf;have t:=sD (cf:=cf) (n:=60) (σ:=[some (.ref m)]) (h:=h) (a:=.blt .len [.var 0]) (b:=.con (.int 60)) (cM (x:=.ref m) (us:=us) (U0 rfl) (sj hm)) aT;by_cases q:60<us.length;rw[zF q];rw[z0 q]at t;exact bC  (cN ((pE t).trans (cN (gY rfl)))) oB;rw[zP q];rw[zX q]at t;refine bC  ((ak (dk t)).trans (aH (aU (U0 rfl)))) ?_;unfold J.fin;dsimp only;rw[iE,zF (ze.mp hm).1];dsimp only;rw[zzm]
abbrev gL(ks vs dead gs:List Str):Str->Str:=λs=>fM (sC ks vs) (λy=>aK y (dead++gs)) s 31 s
theorem uK(hv:∀y∈vs,aE y)(s):aE (gL ks vs dead gs s):=by rcases uN    31 s with z|⟨u,z,_⟩;show aE (fM _ _ _ _ _);rw[z];exact gR;exact hv _ (kK z)
theorem Oc(T:I.In tb)(U:I.Dh tb)(hf:2^2010<=fw)(d:Nat)(gW:W)(hgs:Seq gW (gs.map W.str))(hxs:∀x∈xs,x.R n)(hn:n<=400)(hl:xs.length<=60)(hP:P.length<=30)(hgP:∀s∈gs,s∈P)(hv:∀y∈vs,y∈P)(nP:∀y∈P,aE y)(hkv:ks.length=vs.length)(uJ:dead.length+gs.length<=1000) :
  ae fw tb (d+5) I.pa [.lst (xs.map aJ),gW,.dic ks (vs.map W.str),.lst (dead.map W.str),aw dd] h=if 60<(gN (gL ks vs dead gs) gs dd xs).length then .exc I.eTP h else .ok (.lst ((gN (gL ks vs dead gs) gs dd xs).map aJ)) h:=by
 rw[ah U.pa rfl]
 have hw:31<=fw:=zf (Nat.le_of_lt (zG (show 31<2^5 by decide) (ZA zD zD))) hf
 obtain⟨σ2,e5,co⟩:=yG (fw:=fw) T.wi U.hr T.be U.fa T.pi T.lo T.gc d (.lst (xs.map aJ)) gW xs gs ks vs dead P dd h (.inl rfl) hgs hP hgP hv hkv hw (λx hx=>(hxs x hx).G hn hf) hl uJ
 rw[<- Ao]at co
 let R:List Pt:=gN (gL ks vs dead gs) gs dd xs
 have ckr:=yI (fw:=fw) (h:=h++[.lst (R.map aJ)]) T (d+3) h.length (R.map aJ) aZ
 rw[zj]at ckr
 generalize ae fw tb (d+4)=cf at *
 have co':=(co [.ret (.call I.ck [V5])]).trans (Bw (jl (av (i:=5) e5) ckr))
 show J.fin h.length (a9 cf fw (Bt I.wi I.hr I.be I.fa [.ret (.call I.ck [V5])]) [some (.lst (xs.map aJ)),some gW,some (.dic ks (vs.map W.str)),some (.lst (dead.map W.str)),some (aw dd),none,none,none,none,none,none,none,none,none] h)=_
 rw[co']
 by_cases hb:60<R.length
 ·rw[zF hb,zF hb]
  show Res.exc I.eTP ((h++[Ob.lst (R.map aJ)]).take h.length)=_
  rw[List.take_left]
 ·rw[zP hb,zP hb,ag]
  unfold J.fin
  dsimp only
  rw[iE,zP (ZG _),aZ]
  dsimp only
  rw[List.take_left]
end
theorem lE{i c:Nat}{body:ai->aa->Res Fl}{σ:ai}{h:aa}{p:Str->Bool}:∀(ss:List Str) (r:Option W),(∀s∈ss,body (σ.set i (some (.str s))) h=if p s=true then .exc c h else .ok (.nx (σ.set i (some (.str s)))) h)->∃r',fo [i] body (ss.map W.str) (σ.set i r) h=if ss.any p=true then .exc c h else .ok (.nx (σ.set i r')) h
 |[],r,_=>⟨r,rfl⟩
 |s::ss,r,st=>by
  rw[zR,fo,jF,List.set_set]
  dsimp only
  rw[st s zQ]
  by_cases q:p s=true
  ·simp_all
  ·rw[zP q,ag]
   obtain⟨r',e⟩:=lE ss (some (.str s)) λu hu=>st u (zo _ hu)
   grind
abbrev qH(la c:Nat):List S:=[.if_ (.cmp .Is (.fld 0 0 (.mth la V0 [])) (.con .non)) [.raise c []] []]
noncomputable abbrev By(pc gd la sp nx kp : Nat) : List S := [.exp (.mth pc V0 [(.tup [V1])]),
 .exp (.mth gd V0 []),
 .asg 3 (.mth la V0 []),
 .asg 4 (.call sp [(.fld 0 1 Y3),Y2,V1,(.mth nx V0 [])]),
 .ret (.mth kp V0 [(.tup [(.con (.str "sever")), V1, Y2]), v4, (.fld 0 2 Y3), (.fld 0 3 Y3)])]
noncomputable abbrev Gd(gp pc gd la hp nx kp : Nat) : List S := [.asg 5 (.call gp [v4, N1, N6]),
 .exp (.mth pc V0 [(.bin .Add (.tup [V1]) V5)]),
 .exp (.mth gd V0 []),
 .asg 6 (.mth la V0 []),
 .asg 7 (.call hp [(.fld 0 1 v6),Y2,V1,Y3,V5,(.mth nx V0 [])]),
 .ret (.mth kp V0 [(.tup [(.con (.str "hand")), V1, Y2, Y3, V5]), V7, (.fld 0 2 v6), (.fld 0 3 v6)])]
noncomputable abbrev u4(pc gd la kp : Nat) : List S := [.exp (.mth pc V0 [(.tup [V1, Y2])]),
 .exp (.mth gd V0 []),
 .asg 3 (.mth la V0 []),
 .dupd 4 (.fld 0 2 Y3) 1 2,
 .ret (.mth kp V0 [(.tup [(.con (.str "follow")), V1, Y2]), (.fld 0 1 Y3), v4, (.fld 0 3 Y3)])]
noncomputable abbrev FK(gp pc gd la pa nx kp : Nat) : List S := [.asg 2 (.call gp [V1, N1, MV]),
 .exp (.mth pc V0 [Y2]),
 .exp (.mth gd V0 []),
 .asg 3 (.mth la V0 []),
 .asg 4 (.call pa [(.fld 0 1 Y3),Y2,(.fld 0 2 Y3),(.fld 0 3 Y3),(.mth nx V0 [])]),
 .ret (.mth kp V0 [(.tup [(.con (.str "die")), Y2]), v4, (.fld 0 2 Y3), (.bin .Add (.fld 0 3 Y3) (.blt .list [Y2]))])]
structure Rx extends Ix where
 (tw gp kn lv sf la nx pc gd kp fi gr sv hd fl di:Nat)
 (eBG eUn eDe eNG eGB eTD:Nat)
structure Rx.Bs (R:Rx) (tb:List Fn):Prop where
 tl:tb.length<=1000
 tw:tb[R.tw]?=some ⟨1,1,fK,none⟩
 gp:tb[R.gp]?=some ⟨3,3,uf R.eBG R.tw,none⟩
 kn:tb[R.kn]?=some ⟨2,3,sN R.eUn,none⟩
 lv:tb[R.lv]?=some ⟨3,4,vC R.eDe R.kn,none⟩
 sf:tb[R.sf]?=some ⟨5,5,[],some (0,[(false,V1),(false,Y2),(false,Y3),(false,v4)])⟩
 la:tb[R.la]?=some ⟨1,1,lD,none⟩
 nx:tb[R.nx]?=some ⟨1,1,uH,none⟩
 pc:tb[R.pc]?=some ⟨2,2,rf R.lv R.la,none⟩
 gd:tb[R.gd]?=some ⟨1,1,qH R.la R.eNG,none⟩
 kp:tb[R.kp]?=some ⟨5,6,qM R.eTD R.nx R.sf,none⟩
structure Rx.In (R:Rx) (tb:List Fn):Prop extends R.toIx.In tb,R.Bs tb where
 fi:tb[R.fi]?=some ⟨1,1,jK R.be,none⟩
 gr:tb[R.gr]?=some ⟨2,4,uw R.eGB R.gp R.pc R.la R.kp R.fi,none⟩
 sv:tb[R.sv]?=some ⟨3,5,By R.pc R.gd R.la R.sp R.nx R.kp,none⟩
 hd:tb[R.hd]?=some ⟨5,8,Gd R.gp R.pc R.gd R.la R.hp R.nx R.kp,none⟩
 fl:tb[R.fl]?=some ⟨3,5,u4 R.pc R.gd R.la R.kp,none⟩
 di:tb[R.di]?=some ⟨2,5,FK R.gp R.pc R.gd R.la R.pa R.nx R.kp,none⟩
structure Sd where
 dw:W
 xs:List Pt
 ks:List Str
 vs:List Str
 G:List Str
abbrev Sd.W(q:Sd):W:=.ins 0 [q.dw,.lst (q.xs.map aJ),.dic q.ks (q.vs.map W.str),.lst (q.G.map W.str)]
structure Sd.Ok (q:Sd) (P:List Str) (n:Nat):Prop where
 d2:ar q.dw=true
 x1:∀x∈q.xs,x.R n
 x2:q.xs.length<=60
 x3:∀x∈q.xs,x.hs.Nodup
 k1:q.ks.length=q.vs.length
 k2:q.ks.length<=n
 v1:∀y∈q.vs,y∈P
 g1:∀y∈q.G,y∈P
 g2:q.G.Nodup
section
variable {fw:Nat}{tb:List Fn}{R:Rx}{q:Sd}{P:List Str}{n m:Nat}{ws:List W}{h:aa}{ks:List Str}
theorem Sd.pw(ok:q.Ok P n):ar q.W=true:=by have:=cZ ok.x1;simp only[ar,aj,ok.d2,this,aC,Bool.and_self,Bool.and_true]
theorem lT(T:R.Bs tb)(d:Nat)(ok:q.Ok P n)(hn:h[m]?=some (.lst (ws++[q.W]))):ae fw tb (d+1) R.la [i5 ks m] h=.ok q.W h:=mI T.la d ks m ws q.W h hn (Sd.pw ok)
theorem JC(T:R.Bs tb)(d:Nat)(t:W)(ss:List Str)(hs:Seq t (ss.map W.str))(nm:∀s∈ss,aE s):ae fw tb (d+1) R.kn [t,.tup (ks.map W.str)] h=if(ss.any λs=>!aK s ks)=true then .exc R.eUn h else .ok .non h:=by
 rw[ah T.kn rfl];generalize ae fw tb d=cf;obtain⟨r,e⟩:=lE (i:=2) (c:=R.eUn) (p:=λs=>!aK s ks) (body:=a9 cf fw [.if_ (.cmp .NotIn Y2 V1) [.raise R.eUn [.lit,.rep 2]] []]) (σ:=[some t,some (.tup (ks.map W.str)),none]) (h:=h) ss none (λs hs'=>by
  have z:=pO (cf:=cf) (σ:=[some t,some (.tup (ks.map W.str)),some (.str s)]) (h:=h) (a:=.var 2) (b:=.var 1) (x:=s) (y:=.tup (ks.map W.str)) (ss:=ks) (av rfl) (av rfl) rfl rfl
  by_cases m:(!aK s ks)=true
  ·rw[zF m]
   rw[m]at z
   refine cN ((pE z).trans (cN (gY ?_)))
   show(uC _ .lit&&(uC _ (.rep 2)&&true))=true
   rw[GD (i:=2) (s:=s) rfl (nm s hs')]
   rfl
  ·rw[zP m]
   rw[Zt _ |>.mp m]at z
   exact(ak (dk z)).trans (by rw[a9];rfl))
 have e':a9 cf fw (sN R.eUn) [some t,some (.tup (ks.map W.str)),none] h=if(ss.any λs=>!aK s ks)=true then .exc R.eUn h else .ok (.nx [some t,some (.tup (ks.map W.str)),r]) h:=by by_cases b:(ss.any λs=>!aK s ks)=true;rw[zF b]at e ⊢;exact cN ((iq (U0 rfl) hs).trans e);rw[zP b]at e ⊢;exact(ak ((iq (U0 rfl) hs).trans e)).trans (by rw[a9];rfl)
 refine bC  e' ?_;split;exact oB;exact Hu
end
inductive Out where
 |no (c:Nat)
 |ok (q:Sd)
noncomputable def gx(m:Nat)(ws:List W)(q:Sd)(h:aa):Out->Res W
 |.no c=>.exc c h
 |.ok q'=>.ok (aw (ws.length+1)) (h.set m (.lst (ws++[q.W]++[q'.W])))
def uO(ks ss:List Str):Bool:=ss.any λs=>!aK s ks
def A0(q:Sd)(ss:List Str):Bool:=ss.any λs=>aK s q.G
noncomputable def first(R:Rx)(ks:List Str)(q:Sd)(ss:List Str)(o:Out):Out:=if uO ks ss=true then .no R.eUn else if A0 q ss=true then .no R.eDe else if bt q.dw=true then .no R.eNG else o
section
variable {fw:Nat}{tb:List Fn}{R:Rx}{q:Sd}{P:List Str}{n m:Nat}{ws:List W}{h:aa}{ks:List Str}
theorem Dl(T:R.Bs tb)(d:Nat)(t:W)(ss:List Str)(hs:Seq t (ss.map W.str))(nm:∀s∈ss,aE s):ae fw tb (d+2) R.lv [t,.tup (ks.map W.str),.lst (q.G.map W.str)] h=if uO ks ss=true then .exc R.eUn h else if A0 q ss=true then .exc R.eDe h else .ok .non h:=by
 rw[ah T.lv rfl]
 have c1:=JC (fw:=fw) (h:=h) (ks:=ks) T d t ss hs nm
 obtain⟨r,e⟩:=lE (i:=3) (c:=R.eDe) (p:=λs=>aK s q.G) (body:=a9 (ae fw tb (d+1)) fw [.if_ (.cmp .In Y3 Y2) [.raise R.eDe [.rep 3,.lit]] []]) (σ:=[some t,some (.tup (ks.map W.str)),some (.lst (q.G.map W.str)),none]) (h:=h) ss none (λs hs'=>by simp! [rC (nm s hs')])
 simp_arith at e
 rcases hs with rfl|rfl<;>(simp! [c1,e,uO,A0];rfl)
theorem iV(T:R.Bs tb)(d:Nat)(t:W)(ss:List Str)(ok:q.Ok P n)(hn:h[m]?=some (.lst (ws++[q.W])))(hs:Seq t (ss.map W.str))(nm:∀s∈ss,aE s):ae fw tb (d+3) R.pc [i5 ks m,t] h=if uO ks ss=true then .exc R.eUn h else if A0 q ss=true then .exc R.eDe h else .ok .non h:=by rw[ah T.pc rfl];simp! [lT T _ ok hn,Dl  T _ t ss hs nm]
theorem jk(T:R.Bs tb)(d:Nat)(ok:q.Ok P n)(hn:h[m]?=some (.lst (ws++[q.W]))):ae fw tb (d+2) R.gd [i5 ks m] h=if bt q.dw=true then .exc R.eNG h else .ok .non h:=by rw[ah T.gd rfl];simp! [lT T _ ok hn,bD]
theorem rj:J.fin h.length (.ok (.ret (aw k)) (h.set m (.lst us)))=.ok (aw k) (h.set m (.lst us)):=by unfold J.fin;dsimp only;rw[eI _ rfl,iW]
def eK(R:Rx)(nd:Nat)(q':Sd):Out:=if 200<=nd then .no R.eTD else .ok q'
theorem MR(T:R.Bs tb)(d:Nat)(q':Sd)(hn:h[m]?=some (.lst (ws++[q.W])))(hp:aj [q'.dw,.lst (q'.xs.map aJ),.dic q'.ks (q'.vs.map W.str),.lst (q'.G.map W.str)]=true)(hl:ws.length<=900):ae fw tb (d+2) R.kp [i5 ks m,q'.dw,.lst (q'.xs.map aJ),.dic q'.ks (q'.vs.map W.str),.lst (q'.G.map W.str)] h=gx m ws q h (eK R ws.length q'):=by have c:=xX (fw:=fw)  T.kp T.nx T.sf T.tl d ks m (ws++[q.W]) q'.dw (.lst (q'.xs.map aJ)) (.dic q'.ks (q'.vs.map W.str)) (.lst (q'.G.map W.str)) h hn hp (by rw[zM,Zu];lia);rw[zM,Zu]at c;rw[c];unfold eK;by_cases b:200<=ws.length;rw[zF b,zF zL];rfl;rw[zP b,zP zL];rfl
theorem dh:J.fin h.length (bnd (gx m ws q h o) λw h=>.ok (.ret w) h)=gx m ws q h o:=by
 cases o with
 |no c=>exact oB
 |ok q'=>exact rj
theorem lK(T:R.Bs tb)(d){dw xs k2 vs G}(hn:h[m]?=some (.lst (ws++[q.W])))(hl:ws.length<=900)(d2:ar dw=true)(hp:aj (xs.map aJ)=true):ae fw tb (d+2) R.kp [i5 ks m,dw,.lst (xs.map aJ),.dic k2 (vs.map W.str),.lst (G.map W.str)] h=gx m ws q h (eK R ws.length ⟨dw,xs,k2,vs,G⟩):=MR T d ⟨dw,xs,k2,vs,G⟩ hn (by simp only[ar,aj,d2,hp,aC,Bool.and_self,Bool.and_true]) hl
theorem gF{c:Prop} [Decidable c]:gx m ws q h (if c then a else b)=if c then gx m ws q h a else gx m ws q h b:=by split<;>rfl
theorem dI:gx m ws q h (.no c)=.exc c h:=rfl
end
noncomputable def iP(R:Rx)(ks:List Str)(q:Sd)(nd:Nat)(name:Str)(z:Int):Out:=first R ks q [name] (if gT z q.xs.length=true then .no R.eNP else match q.xs[z.toNat-1]? with
 |none=>.no R.eNP
 |some x=>if ow x name=true then .no R.eNH else if 60<=q.xs.length then .no R.eTP else eK R nd ⟨.tup [.str "sever",.str name,.int z],mQ q.xs x z.toNat name (nd+1),q.ks,q.vs,q.G⟩)
noncomputable def gC(R:Rx)(ks:List Str)(q:Sd)(nd:Nat)(name:Str)(z tz:Int)(ss:List Str):Out:=if 1<=ss.length/\ss.length<=6/\ss.Nodup then first R ks q (name::srt ss) (if gT z q.xs.length=true then .no R.eNP else match q.xs[z.toNat-1]? with
 |none=>.no R.eNP
 |some x=>if B4 x.hs [name]=false then .no R.eNH else if k9 tz=true then .no R.eBP else if 60<=q.xs.length/\tz<20 then .no R.eTP else eK R nd ⟨.tup [.str "hand",.str name,.int z,.int tz,.tup ((srt ss).map W.str)],cj q.xs x z.toNat tz.toNat (srt ss) (nd+1),q.ks,q.vs,q.G⟩) else .no R.eBG
noncomputable def fI(R:Rx)(ks:List Str)(q:Sd)(nd:Nat)(a b:Str)(k2 us:List Str):Out:=first R ks q [a,b] (eK R nd ⟨.tup [.str "follow",.str a,.str b],q.xs,k2,us,q.G⟩)
noncomputable def oU(R:Rx)(ks:List Str)(q:Sd)(nd:Nat)(ss:List Str):Out:=if 1<=ss.length/\ss.length<=30/\ss.Nodup then first R ks q (srt ss) (if 60<(gN (gL q.ks q.vs q.G (srt ss)) (srt ss) (nd+1) q.xs).length then .no R.eTP else eK R nd ⟨.tup [.str "die",.tup ((srt ss).map W.str)],gN (gL q.ks q.vs q.G (srt ss)) (srt ss) (nd+1) q.xs,q.ks,q.vs,q.G++srt ss⟩) else .no R.eBG
section
variable {fw:Nat}{tb:List Fn}{R:Rx}{q:Sd}{P:List Str}{n m:Nat}{ws:List W}{h:aa}{ks:List Str}
theorem iy(h:gT z k=false):z=((z.toNat))/\1<=z.toNat/\z.toNat<=k:=by obtain⟨j,rfl,h1,h2⟩:=GN h;simp_all
theorem EU(T:R.In tb)(hf:2^2010<=fw)(d)(ok:q.Ok P n)(n4:n<=400)(hm:aE name)(hz:z.natAbs<10^100):ae fw tb (d+6) R.sp [.lst (q.xs.map aJ),.int z,.str name,aw k] h=if gT z q.xs.length=true then .exc R.eNP h else match q.xs[z.toNat-1]? with
 |none=>.exc R.eNP h
 |some x=>if ow x name=true then .exc R.eNH h else if 60<=q.xs.length then .exc R.eTP h else .ok (.lst ((mQ q.xs x z.toNat name k).map aJ)) h:=by
 by_cases b:gT z q.xs.length=true
 ·rw[zF b];exact tT T.toIn (d+1) z hz b
 rw[zP b]
 obtain⟨ez,z1,z2⟩:=iy (Zt _ |>.mp b)
 rw[zK zL]
 have:=we (h:=h)  (dd:=k) T.toIn hf (d+1) ok.x1 n4 ok.x2 z1 (zK zL) hm
 rwa [show aw z.toNat=W.int z from congrArg W.int ez.symm]at this
theorem GV(T:R.In tb)(hf:2^2010<=fw)(d)(ok:q.Ok P n)(n4:n<=400)(hm:aE name)(hz:z.natAbs<10^100)(hy:tz.natAbs<10^100):ae fw tb (d+6) R.hp [.lst (q.xs.map aJ),.int z,.str name,.int tz,.tup (to.map W.str),aw k] h=if gT z q.xs.length=true then .exc R.eNP h else match q.xs[z.toNat-1]? with
 |none=>.exc R.eNP h
 |some x=>if B4 x.hs [name]=false then .exc R.eNH h else if k9 tz=true then .exc R.eBP h else if 60<=q.xs.length/\tz<20 then .exc R.eTP h else .ok (.lst ((cj q.xs x z.toNat tz.toNat to k).map aJ)) h:=by
 by_cases b:gT z q.xs.length=true
 ·rw[zF b];exact wB T.toIn (d+1) z tz hz b
 rw[zP b]
 obtain⟨ez,z1,z2⟩:=iy (Zt _ |>.mp b)
 rw[zK zL]
 have:=yo (h:=h)  (to:=to) (dd:=k) T.toIn hf (d+1)  ok.x1 n4 ok.x2 z1 (zK zL) hm hy
 rwa [show aw z.toNat=W.int z from congrArg W.int ez.symm]at this
theorem Ig(T:R.In tb)(hf:2^2010<=fw)(d:Nat){name:Str}{z:Int}(ok:q.Ok P n)(hn:h[m]?=some (.lst (ws++[q.W])))(n4:n<=400)(hl:ws.length<=900)(hm:aE name)(hz:z.natAbs<10^100):ae fw tb (d+7) R.sv [i5 ks m,.str name,.int z] h=gx m ws q h (iP R ks q ws.length name z):=by
 rw[ah T.sv rfl];have s:=EU (h:=h) (k:=ws.length+1) T hf d ok n4 hm hz;unfold iP first
 rcases e:q.xs[z.toNat-1]? with _|x<;>simp! [iV  T.toBs _ (.tup [.str name]) [name] ok hn (.inr rfl) (by simpa),jk T.toBs _ ok hn,lT T.toBs _ ok hn,jo T.nx _ _ _ (ws++[q.W]),hn,e▸s,dI,gF];simp! [lK (dw:=.tup [.str "sever",.str name,.int z]) T.toBs _ hn hl rfl (rY ok.x1 (zH e)),dh]
theorem pD(h:uO ks ss=false):∀s∈ss,s∈ks:=λs hs=>by have:=zzx.mp h s hs;simpa [br] using this
theorem Ll(T:R.In tb)(hf:2^2010<=fw)(d:Nat){name:Str}{z tz:Int}{t:W}{ss:List Str}(ok:q.Ok P n)(hn:h[m]?=some (.lst (ws++[q.W])))(n4:n<=400)(hl:ws.length<=900)(hm:aE name)(hz:z.natAbs<10^100)(hy:tz.natAbs<10^100)(ht:Seq t (ss.map W.str))(h6:ss.length<64)(hs:∀s∈ss,aE s) :
  ae fw tb (d+7) R.hd [i5 ks m,.str name,.int z,.int tz,t] h=gx m ws q h (gC R ks q ws.length name z tz ss):=by
 rw[ah T.hd rfl]
 have s:=GV (h:=h) (k:=ws.length+1) (to:=srt ss) T hf d ok n4 hm hz hy
 have g:=jG (fw:=fw) T.gp T.tw (d+4) t ss 1 6 h ht h6 zS zD
 have sl:=bT ss
 have p:=iV (fw:=fw) (ks:=ks) T.toBs (d+3) (.tup (.str name::(srt ss).map W.str)) (name::srt ss) ok hn (.inr rfl) (by simpa [hm,cJ] using hs)
 simp_arith at g
 unfold gC first
 by_cases g6:1<=ss.length/\ss.length<=6/\ss.Nodup
 ·rcases e:q.xs[z.toNat-1]? with _|x<;>simp! [g,g6,p,jk T.toBs _ ok hn,lT T.toBs _ ok hn,jo T.nx _ _ _ (ws++[q.W]),hn,e▸s,dI,gF,Lx,show 1+(srt ss).length<=1000 by lia]
  simp! [lK (dw:=.tup [.str "hand",.str name,.int z,.int tz,.tup ((srt ss).map W.str)]) T.toBs _ hn hl (by simp[ar,aj,aC]) (hV ok.x1 (zH e)),dh]
 ·simp! [g,g6,dI]
theorem Cy(T:R.In tb)(d:Nat){a b:Str}{k2 us:List Str}(ok:q.Ok P n)(hn:h[m]?=some (.lst (ws++[q.W])))(n4:n<=400)(hl:ws.length<=900)(ha:aE a)(hb:aE b)(e:dY q.ks (q.vs.map W.str) a (.str b)=(k2,us.map W.str)):ae fw tb (d+4) R.fl [i5 ks m,.str a,.str b] h=gx m ws q h (fI R ks q ws.length a b k2 us):=by
 rw[ah T.fl rfl];unfold fI first
 simp! [iV  T.toBs _ (.tup [.str a,.str b]) [a,b] ok hn (.inr rfl) (by simp_all),jk T.toBs _ ok hn,lT T.toBs _ ok hn,dI,gF,bH,e,show q.ks.length<1000 by have:=ok.k2;lia,lK (dw:=.tup [.str "follow",.str a,.str b]) T.toBs _ hn hl rfl (cZ ok.x1),dh]
theorem Ot(T:R.In tb)(U:R.toIx.Dh tb)(hf:2^2010<=fw)(d:Nat){t:W}{ss:List Str}(ok:q.Ok P n)(hn:h[m]?=some (.lst (ws++[q.W])))(n4:n<=400)(hl:ws.length<=900)(hP:P.length<=30)(nP:∀y∈P,aE y)(hk:∀y∈ks,y∈P)(ht:Seq t (ss.map W.str))(h6:ss.length<64)(hs:∀s∈ss,aE s) :
  ae fw tb (d+7) R.di [i5 ks m,t] h=gx m ws q h (oU R ks q ws.length ss):=by
 rw[ah T.di rfl]
 have g:=jG (fw:=fw) T.gp T.tw (d+4) t ss 1 30 h ht h6 zD zD
 have sl:=bT ss
 have p:=iV (fw:=fw) (ks:=ks) T.toBs (d+3) (.tup ((srt ss).map W.str)) (srt ss) ok hn (.inr rfl) (λs hs'=>hs s (cJ.mp hs'))
 have gl :=zf (dC ok.g2 ok.g1) hP
 simp_arith at g
 unfold oU first
 by_cases g6:1<=ss.length/\ss.length<=30/\ss.Nodup
 ·by_cases u:uO ks (srt ss)=true
  ·simp! [g,g6,p,u,dI]
  ·have c:=Oc (fw:=fw) (h:=h) (dd:=ws.length+1)  (ks:=q.ks) (vs:=q.vs) (dead:=q.G) T.toIn U hf (d+1) (.tup ((srt ss).map W.str)) (.inr rfl) ok.x1 n4 ok.x2 hP (λs hs'=>hk s (pD (Zt _ |>.mp u) s hs')) ok.v1 nP ok.k1 zL
   simp! [g,g6,p,u,jk T.toBs _ ok hn,lT T.toBs _ ok hn,jo T.nx _ _ _ (ws++[q.W]),hn,c,dI,gF,ky,show q.G.length+(srt ss).length<=1000 by lia,<- zY,lK (dw:=.tup [.str "die",.tup ((srt ss).map W.str)]) T.toBs _ hn hl (by simp[ar,aj,aC]) (cZ (n:=n+1) (yk (uK λy hy=>nP y (ok.v1 y hy)) ok.x1)),dh]
 ·simp! [g,g6,dI]
end
noncomputable def eZ(R:Rx)(ks:List Str)(q:Sd)(nd:Nat)(ss:List Str):Out:=if 1<=ss.length/\ss.length<=6/\ss.Nodup then(if uO ks (srt ss)=true then .no R.eUn else if A0 q (srt ss)=true then .no R.eDe else if bt q.dw=false then .no R.eGB else eK R nd ⟨.tup [.str "grant",.tup ((srt ss).map W.str)],[je [] 1 1 (1,1) (srt ss)],q.ks,q.vs,q.G⟩) else .no R.eBG
section
variable {fw:Nat}{tb:List Fn}{R:Rx}{q:Sd}{P:List Str}{n m:Nat}{ws:List W}{h:aa}{ks:List Str}
theorem Jh(T:R.Bs tb)(hfi:tb[R.fi]?=some ⟨1,1,jK R.be,none⟩)(hbe:tb[R.be]?=some ⟨5,5,dg,none⟩)(hgr:tb[R.gr]?=some ⟨2,4,uw R.eGB R.gp R.pc R.la R.kp R.fi,none⟩)(d:Nat){t:W}{ss:List Str}(ok:q.Ok P n)(hn:h[m]?=some (.lst (ws++[q.W])))(hl:ws.length<=900)(ht:Seq t (ss.map W.str))(h6:ss.length<64)(hs:∀s∈ss,aE s):ae fw tb (d+4) R.gr [i5 ks m,t] h=gx m ws q h (eZ R ks q ws.length ss):=by
 rw[ah hgr rfl]
 have g:=jG (fw:=fw) T.gp T.tw (d+1) t ss 1 6 h ht h6 zD zD
 have p:=iV (fw:=fw) (ks:=ks) T d (.tup ((srt ss).map W.str)) (srt ss) ok hn (.inr rfl) (λs hs'=>hs s (cJ.mp hs'))
 have k:=lK (fw:=fw) (ks:=ks) (q:=q) (dw:=.tup [.str "grant",.tup ((srt ss).map W.str)]) (xs:=[je [] 1 1 (1,1) (srt ss)]) (k2:=q.ks) (vs:=q.vs) (G:=q.G) T (d+1) hn hl (by simp[ar,aj,aC]) (by
  have:ar (iI [] 1 1 (1,1) (srt ss))=true:=bw  rfl
  show(ar (iI [] 1 1 (1,1) (srt ss))&&true)=true
  rw[this];rfl)
 simp_arith at g
 rw[zR,zzl,Iu]at k
 unfold eZ
 by_cases g6:1<=ss.length/\ss.length<=6/\ss.Nodup
 ·simp! [g,g6,p,lT T _ ok hn,wN hfi hbe (d+1) (srt ss) h,bD,gF,dI,k,dh]
 ·simp! [g,g6,dI]
theorem Ja(T:R.In tb)(d:Nat){t:W}{ss:List Str}(ok:q.Ok P n)(hn:h[m]?=some (.lst (ws++[q.W])))(hl:ws.length<=900)(ht:Seq t (ss.map W.str))(h6:ss.length<64)(hs:∀s∈ss,aE s):ae fw tb (d+4) R.gr [i5 ks m,t] h=gx m ws q h (eZ R ks q ws.length ss):=Jh T.toBs T.fi T.be T.gr d ok hn hl ht h6 hs
def Rx.errs(R:Rx):List Nat:=[R.eBG,R.eUn,R.eDe,R.eNG,R.eGB,R.eNP,R.eNH,R.eBP,R.eTP,R.eTD]
def Out.Ok(o:Out)(R:Rx)(P:List Str)(n:Nat):Prop:=match o with
 |.no c=>c∈R.errs
 |.ok q=>q.Ok P n/\bt q.dw=false
theorem cz(h:c∈R.errs):(Out.no c).Ok R P n:=h
theorem jz(h:uO ks ss=false->A0 q ss=false->o.Ok R P n):(first R ks q ss o).Ok R P n:=by
 unfold first
 split
 ·exact cz (by simp[Rx.errs])
 ·split
  ·exact cz (by simp[Rx.errs])
  ·split
   ·exact cz (by simp[Rx.errs])
   grind
theorem j0(h:q'.Ok P n)(hd:bt q'.dw=false):(eK R nd q').Ok R P n:=by unfold eK;split;exact cz (by simp[Rx.errs]);exact⟨h,hd⟩
theorem tM{a:Str}:[a].Nodup:=zS
theorem jU(h:ss.Nodup):(srt ss).Nodup:=(bS ss).nodup_iff.mpr h
theorem B9(ok:q.Ok P n)(hm:aE name):(iP R ks q nd name z).Ok R P (n+1):=by
 unfold iP;refine jz λ_ _=>?_;split;exact cz (by simp[Rx.errs]);cases e:q.xs[z.toNat-1]? with
 |none=>exact cz (by simp[Rx.errs])
 |some x=>dsimp only;have X:=zH e;split;exact cz (by simp[Rx.errs]);rename_i b;split;exact cz (by simp[Rx.errs]);rename_i b2;refine j0 ⟨rfl,Kb ok.x1 X (Zt _ |>.mp b) (ok.x3 x X) hm,by rw[kM];lia,λy hy=>?_,ok.k1,Nat.le_succ_of_le ok.k2,ok.v1,ok.g1,ok.g2⟩ rfl;rcases Ze.mp hy with h|h;rcases Zx h with h|h;exact ok.x3 y h;rw[h];exact List.Nodup.sublist List.filter_sublist (ok.x3 x X);rw[zT.mp h];exact tM
theorem C5{nd:Nat}{name:Str}{z tz:Int}{ss:List Str}(ok:q.Ok P n)(hs:∀s∈ss,aE s):(gC R ks q nd name z tz ss).Ok R P (n+1):=by
 unfold gC;split;rename_i g;refine jz λ_ _=>?_;split;exact cz (by simp[Rx.errs]);cases e:q.xs[z.toNat-1]? with
 |none=>exact cz (by simp[Rx.errs])
 |some x=>dsimp only;have X:=zH e;split;exact cz (by simp[Rx.errs]);split;exact cz (by simp[Rx.errs]);rename_i b;split;exact cz (by simp[Rx.errs]);rename_i b2;obtain⟨tw,rfl,w1,w2⟩:=oQ (Zt _ |>.mp b);rw[ZT];have x2:=ok.x2;refine j0 ⟨by simp[ar,aj,aC],Hj w2 ok.x1 X (by rw[bT];exact g.1) (by rw[bT];exact g.2.1) λs h=>hs s (cJ.mp h),by show(cj _ _ _ _ _ _).length<=60;rw[dM];split<;>lia,λy hy=>?_,ok.k1,Nat.le_succ_of_le ok.k2,ok.v1,ok.g1,ok.g2⟩ rfl;unfold cj at hy;split at hy;rcases Zx hy with h|h;exact ok.x3 y h;rw[h];exact jU g.2.2;rcases Ze.mp hy with h|h;rcases Zx h with h|h;exact ok.x3 y h;rw[h];exact ok.x3 x X;rw[zT.mp h];exact jU g.2.2
 exact cz (by simp[Rx.errs])
theorem wQ{nd:Nat}{a b:Str}{k2 us:List Str}(ok:q.Ok P n)(hk:∀y∈ks,y∈P)(l1:k2.length=us.length)(l2:k2.length<=q.ks.length+1)(hv:∀u∈us,u=b\/u∈q.vs):(fI R ks q nd a b k2 us).Ok R P (n+1):=by refine jz λu _=>j0 ⟨rfl,λx hx=>(ok.x1 x hx).up (ZS _),ok.x2,ok.x3,l1,by have:=ok.k2;grind,λy hy=>?_,ok.g1,ok.g2⟩ rfl;rcases hv y hy with rfl|hy;exact hk _ (pD u _ zS);exact ok.v1 y hy
theorem yZ{nd:Nat}{ss:List Str}(ok:q.Ok P n)(hs:∀s∈ss,aE s):(eZ R ks q nd ss).Ok R P (n+1):=by
 unfold eZ;split;rename_i g;split;exact cz (by simp[Rx.errs]);split;exact cz (by simp[Rx.errs]);split;exact cz (by simp[Rx.errs]);have sl:(srt ss).length<=6:=by rw[bT];exact g.2.1
 refine j0 ⟨by simp[ar,aj,aC],λx hx=>?_,by show 1<=60;decide,λx hx=>?_,ok.k1,Nat.le_succ_of_le ok.k2,ok.v1,ok.g1,ok.g2⟩ rfl;rw[zT.mp hx];have p1:1<=20^(n+1):=Nat.pow_pos zD;refine⟨Nat.one_pos,p1,p1,by show 1<=(srt ss).length;rw[bT];exact g.1,sl,λs h=>hs s (cJ.mp h),?_,?_,?_,by show 1<=n+1;lia⟩;show aj [.tup [aw 1,aw 1,mO (1,1),.tup ((srt ss).map W.str)]]=true;simp[ar,aj,aC];show dr [.tup [aw 1,aw 1,mO (1,1),.tup ((srt ss).map W.str)]]=true;have:(srt ss).length<=100000:=zL;simp[jZ,dr,dX,this];show dz [.tup [aw 1,aw 1,mO (1,1),.tup ((srt ss).map W.str)]]<=4;simp[jM,dz,dZ];rw[zT.mp hx];exact jU g.2.2;exact cz (by simp[Rx.errs])
theorem Ih(ok:q.Ok P n)(nP:∀y∈P,aE y)(hk:∀y∈ks,y∈P):(oU R ks q nd ss).Ok R P (n+1):=by
 unfold oU;split;rename_i g;refine jz λu de=>?_;split;exact cz (by simp[Rx.errs]);rename_i b;refine j0 ⟨by simp[ar,aj,aC],yk (uK λy hy=>nP y (ok.v1 y hy)) ok.x1,Nat.not_lt.mp b,λy hy=>?_,ok.k1,Nat.le_succ_of_le ok.k2,ok.v1,λy hy=>?_,?_⟩ rfl;rcases Ze.mp hy with h|h;obtain⟨i,hi,rfl⟩:=List.mem_mapIdx.mp h;have X:=ok.x3 _ (zZ hi);unfold Fc;split;exact X;split;exact List.Nodup.sublist List.filter_sublist X;exact tM;have nw:∀(xs:List Pt) (m:Nat),y∈xP (gL q.ks q.vs q.G (srt ss)) (srt ss) (nd+1) xs m->y.hs.Nodup:=by
  intro xs;induction xs with
  |nil=>intro m h;cases h
  |cons x xs ih=>intro m h;rw[xP]at h;rcases Ze.mp h with h|h;unfold Cg at h;split at h;obtain⟨i,hi,rfl⟩:=List.mem_mapIdx.mp h;exact tM;cases h;exact ih _ h
 exact nw _ _ h;rcases Ze.mp hy with h|h;exact ok.g1 y h;exact hk y (pD u y h);refine ZK.mpr ⟨ok.g2,jU g.2.2,λa ha b hb e=>?_⟩;subst e;unfold A0 at de;have:=zzx.mp de a hb;rw[br]at this;exact this (z0 ha);exact cz (by simp[Rx.errs])
end
inductive Dd where
 |grant (ss:List Str)|sever (a:Str) (z:Int)|hand (a:Str) (z tz:Int) (ss:List Str)|follow (a b:Str)|die (ss:List Str)
noncomputable def Dd.row(d:Dd)(g:W):List W:=match d with
 |.grant _=>[.str "grant",g]
 |.sever a z=>[.str "sever",.str a,.int z]
 |.hand a z tz _=>[.str "hand",.str a,.int z,.int tz,g]
 |.follow a b=>[.str "follow",.str a,.str b]
 |.die _=>[.str "die",g]
def Dd.grp:Dd->List Str
 |.grant ss=>ss
 |.hand _ _ _ ss=>ss
 |.die ss=>ss
 |_=>[]
def Nj:W->Str
 |.str s=>s
 |_=>bc
def xU(ks vs:List Str)(a b:Str):List Str×List Str:=((dY ks (vs.map W.str) a (.str b)).1,(dY ks (vs.map W.str) a (.str b)).2.map Nj)
theorem BC{ks vs:List Str}{a b:Str}(hl:ks.length=vs.length):dY ks (vs.map W.str) a (.str b)=((xU ks vs a b).1,(xU ks vs a b).2.map W.str)/\(xU ks vs a b).1.length=(xU ks vs a b).2.length/\(xU ks vs a b).1.length<=ks.length+1/\∀u∈(xU ks vs a b).2,u=b\/u∈vs:=by
 obtain⟨k2,us,e,l1,l2,l3,_⟩:=pV ks vs a b hl;have e2:xU ks vs a b=(k2,us):=by unfold xU;rw[e,Z7];exact congrArg (Prod.mk k2) ((zzh  λx _=>rfl).trans (List.map_id _))
 simp_all
noncomputable def f6(R:Rx)(ks:List Str)(q:Sd)(nd:Nat):Dd->Out
 |.grant ss=>eZ R ks q nd ss
 |.sever a z=>iP R ks q nd a z
 |.hand a z tz ss=>gC R ks q nd a z tz ss
 |.follow a b=>fI R ks q nd a b (xU q.ks q.vs a b).1 (xU q.ks q.vs a b).2
 |.die ss=>oU R ks q nd ss
def Dd.Fit:Dd->Prop
 |.grant ss=>ss.length<64/\∀s∈ss,aE s
 |.sever a z=>aE a/\z.natAbs<10^100
 |.hand a z tz ss=>aE a/\z.natAbs<10^100/\tz.natAbs<10^100/\ss.length<64/\∀s∈ss,aE s
 |.follow a b=>aE a/\aE b
 |.die ss=>ss.length<64/\∀s∈ss,aE s
abbrev gE:E:=.ix V1 (.neg N1)
noncomputable abbrev vh(sv fl gr hd di : Nat) : List S := [.if_ (.cmp .Eq (.ix V1 N0) (.con (.str "sever"))) [.ret (.mth sv V0 [(.ix V1 N1), (.ix V1 N2)])] [],
 .if_ (.cmp .Eq (.ix V1 N0) (.con (.str "follow"))) [.ret (.mth fl V0 [(.ix V1 N1),(.ix V1 N2)])] [],
 .asg 2 (.ix (.lst [(.blt .tuple [gE]),(.blt .list [gE])]) (.bin .Mod (.blt .len [gE]) N2)),
 .if_ (.cmp .Eq (.ix V1 N0) (.con (.str "grant"))) [.ret (.mth gr V0 [Y2])] [],
 .if_ (.cmp .Eq (.ix V1 N0) (.con (.str "hand"))) [.ret (.mth hd V0 [(.ix V1 N1),(.ix V1 N2),(.ix V1 N3),Y2])] [],
 .ret (.mth di V0 [Y2])]
abbrev tL(ss:List Str):W:=if ss.length%2=0 then .tup (ss.map W.str) else .lst (ss.map W.str)
theorem oV(ss):Seq (tL ss) (ss.map W.str):=by unfold tL;split;exact .inr rfl;exact .inl rfl
theorem dm(ht:Seq t ws)(e:L2.atI ws i=some w):cU t (.int i) h=.ok w h:=by rcases ht with rfl|rfl;exact GI e;unfold cU seqA hZ i7;simp_all
section
variable {fw:Nat}{tb:List Fn}{R:Rx}{q:Sd}{P:List Str}{n m:Nat}{ws:List W}{h:aa}{ks:List Str}
def Dd.num(R:Rx):Dd->Nat
 |.grant _=>R.gr
 |.sever _ _=>R.sv
 |.hand _ _ _ _=>R.hd
 |.follow _ _=>R.fl
 |.die _=>R.di
noncomputable def Dd.args:Dd->List W
 |.grant ss=>[tL ss]
 |.sever a z=>[.str a,.int z]
 |.hand a z tz ss=>[.str a,.int z,.int tz,tL ss]
 |.follow a b=>[.str a,.str b]
 |.die ss=>[tL ss]
theorem mh:vE cf fw b (bnd r λw h=>.ok (.ret w) h)=bnd r λw h=>.ok (.ret w) h:=by cases r<;>rfl
theorem Lc(d){f:Nat}(hc:tb[f]?=some ⟨2,3,vh R.sv R.fl R.gr R.hd R.di,none⟩)(D:Dd)(ht:Seq t (D.row g))(hg:Seq g (D.grp.map W.str))(c:ae fw tb (d+7) (D.num R) (i5 ks m::D.args) h=gx m ws q h o) :
  ae fw tb (d+8) f [i5 ks m,t] h=gx m ws q h o:=by
 have gt:∀{ss:List Str},Seq g (ss.map W.str)->bK .tuple [g] h=.ok (.tup (ss.map W.str)) h/\bK .list [g] h=.ok (.lst (ss.map W.str)) h/\bK .len [g] h=.ok (aw ss.length) h:=λhg=>by rcases hg with rfl|rfl<;>exact⟨rfl,rfl,congrArg (λn=>Res.ok (aw n) h) (zj ..)⟩
 have gi:∀{ss:List Str},cU (.lst [.tup (ss.map W.str),.lst (ss.map W.str)]) (.int ((ss.length:Int).fmod 2)) h=.ok (tL ss) h:=λ{ss}=>by rw[show((ss.length:Int).fmod 2)=((ss.length%2:Nat):Int) from fk ss.length 2];unfold tL;rcases Nat.mod_two_eq_zero_or_one ss.length with e|e<;>rw[e];exact DF;exact Ht
 rw[ah hc rfl]
 cases D<;>simp only[Dd.num,Dd.args,Dd.grp]at c hg
 case sever=>simp! [mh,dm (i:=0) ht rfl,dm (i:=1) ht rfl,dm (i:=2) ht rfl,mM,c,dh]
 case follow=>simp! [mh,dm (i:=0) ht rfl,dm (i:=1) ht rfl,dm (i:=2) ht rfl,mM,c,dh]
 case grant=>simp! [mh,dm (i:=0) ht rfl,dm (i:=-1) ht rfl,gt hg,gi,jV h (show(2:Int)≠0 by decide),mM,c,dh]
 case hand=>simp! [mh,dm (i:=0) ht rfl,dm (i:=1) ht rfl,dm (i:=2) ht rfl,dm (i:=3) ht rfl,dm (i:=-1) ht rfl,gt hg,gi,jV h (show(2:Int)≠0 by decide),mM,c,dh]
 case die=>simp! [mh,dm (i:=0) ht rfl,dm (i:=-1) ht rfl,gt hg,gi,jV h (show(2:Int)≠0 by decide),mM,c,dh]
theorem MY(T:R.In tb)(U:R.toIx.Dh tb)(hf:2^2010<=fw)(d)(hc:tb[f]?=some ⟨2,3,vh R.sv R.fl R.gr R.hd R.di,none⟩)(D)(ok:q.Ok P n)(hn:h[m]?=some (.lst (ws++[q.W])))(n4:n<=400)(hl:ws.length<=900)(hP:P.length<=30)(nP:∀y∈P,aE y)(hk:∀y∈ks,y∈P)(ht:Seq t (D.row g))(hg:Seq g (D.grp.map W.str))(fit:D.Fit) :
  ae fw tb (d+8) f [i5 ks m,t] h=gx m ws q h (f6 R ks q ws.length D):=by
 refine Lc d hc D ht hg ?_
 cases D with
 |sever a z=>exact Ig   (z:=z) T hf d ok hn n4 hl fit.1 fit.2
 |follow a b=>exact Cy (fw:=fw) (ks:=ks) T (d+3) ok hn n4 hl fit.1 fit.2 (BC (a:=a) (b:=b) ok.k1).1
 |grant ss=>exact Ja  (ks:=ks) T (d+3) ok hn hl (oV ss) fit.1 fit.2
 |hand a z tz ss=>exact Ll (fw:=fw) (ks:=ks) (z:=z) (tz:=tz) T hf d ok hn n4 hl fit.1 fit.2.1 fit.2.2.1 (oV ss) fit.2.2.2.1 fit.2.2.2.2
 |die ss=>exact Ot (fw:=fw) (ks:=ks) T U hf d ok hn n4 hl hP nP hk (oV ss) fit.1 fit.2
theorem vO{nd:Nat}{D:Dd}(ok:q.Ok P n)(nP:∀y∈P,aE y)(hk:∀y∈ks,y∈P)(fit:D.Fit):(f6 R ks q nd D).Ok R P (n+1):=by
 cases D with
 |sever a z=>exact B9 ok fit.1
 |follow a b=>have z:=BC (a:=a) (b:=b) ok.k1;exact wQ ok hk z.2.1 z.2.2.1 z.2.2.2
 |grant ss=>exact yZ ok fit.2
 |hand a z tz ss=>exact C5 ok fit.2.2.2.2
 |die ss=>exact Ih ok nP hk
end
theorem AU(ee:af cf e σ h=.exc c h1)(ha:all.contains c=true):aL cf fw (.tryF e i cs all) σ h=.ok (.nx ((σ.map λ_=>none).set i (some (.lst (cs.map λk=>.bl (decide (c=k))))))) h1:=by rw[aL];simp_all
theorem Ei(ee:af cf e σ h=.ok w h1):aL cf fw (.tryF e i cs all) σ h=.ok (.ret w) h1:=by rw[aL,ee]
def NQ:W->Option Nat
 |.int i=>some i.toNat
 |_=>none
theorem CM(y:Nat):NQ (W.int (0+(y)))=some y:=by rw[Int.zero_add];rfl
theorem x8{cf:CF}{is:List Nat}{n m:Nat}{a c elt:E}{σ:ai}{h:aa}{p:Nat->Bool}{F:Nat->W}(ea:af cf a σ h=.ok (aw m) h)(hm:m<=1000)
  (hF:∀k,k<m->∃σ',aV is (aw k) (kE is σ++List.replicate n none)=some σ'/\(∀hh,bJ cf c σ' hh=.ok (p k) hh)/\(p k=true->ar (F k)=true/\∀hh,af cf elt σ' hh=.ok (F k) hh)):af cf (.compR is n [a] [c] elt) σ h=.ok (.lst (((List.range m).filter p).map F)) h:=by
 rw[af,aq ea aA,ag]
 have hr:kG [aw m]=some ((List.range m).map λ(k:Nat)=>W.int (0+(k:Int))):=by have cc:-(2^62)<=((m:Nat):Int)/\((m:Nat):Int)<2^62:=zL;rw[cQ];unfold jR;dsimp only;rw[zF cc,ZT]
 rw[hr]
 dsimp only
 refine Gz NQ CM (λk e=>by cases e) (by rw[zzB];exact hm) λk hk=>?_
 grind
noncomputable def EB:List Str:=["BadGroup","Unknown","Dead","NotGranted","GrantedBefore","NoPart","NotHeld","BadPiece","TooManyParts","TooManyDeeds"]
abbrev oF:List Nat:=[1,2,3,4,5,6,7,8,9,10]
theorem RZ:∀k,k<10->oF[k]?=some (k+1):=zD
theorem ES:∀c,c<10->(List.range 10).filter (λk=>decide (c+1=k+1))=[c]:=zD
noncomputable abbrev ND(cl : Nat)(all : List Nat) : List S := [.asg 3 (.lst []),
 .tryF (.call cl [V0,V1]) 3 oF all,
 .asg 4 (.lst [(.con (.str "BadGroup")),(.con (.str "Unknown")),(.con (.str "Dead")),(.con (.str "NotGranted")),(.con (.str "GrantedBefore")),(.con (.str "NoPart")),(.con (.str "NotHeld"))]),
 .asg 4 (.bin .Add v4 (.lst [(.con (.str "BadPiece")),(.con (.str "TooManyParts")),(.con (.str "TooManyDeeds"))])),
 .ret (.blt .tuple [(.compR [5] 1 [Lw] [(.ix Y3 V5)] (.ix v4 V5))])]
theorem JQ(hc:c<10)(ha:all.contains (c+1)=true)(e:cf cl [r,w] h=.exc (c+1) h):a9 cf fw (ND cl all) [some r,some w,none,none,none] h=.ok (.ret (.tup [.str (EB.getD c Str.empty)])) h:=by let fl:W:=.lst (oF.map λk=>.bl (decide (c+1=k)));let τ:ai:=[none,none,none,some fl,some (.lst (EB.map W.str))];refine(ak (bV (iG aA zD))).trans ((ak (AU (jh (U0 rfl) (U1 rfl) e) ha)).trans ((ak (bV (iG (aq ax (aq ax (aq ax (aq ax (aq ax (aq ax (aq ax aA))))))) (by show 7<=1000;decide)))).trans ((ak (σ':=τ) (bV (yd (us:=(EB.take 7).map W.str) (vs:=(EB.drop 7).map W.str) (U4 rfl) (iG (aq ax (aq ax (aq ax aA))) (by show 3<=1000;decide)) (by show 10<=1000;decide)))).trans ((aH (aU (ic (x8 (m:=10)   ax zD λk hk=>⟨[none,none,none,some fl,some (.lst (EB.map W.str)),some (aw k)],rfl,λhh=>?_,λ_=>⟨rfl,λhh=>?_⟩⟩)))).trans (by rw[ES c hc];rfl)))));exact bY (du (U3 rfl) (U5 rfl) (cD (k:=k) (t:=fl) rfl (by rw[Za,RZ k hk];rfl)));refine du (U4 rfl) (U5 rfl) (cD (k:=k) (t:=.lst (EB.map W.str)) rfl ?_);rw[Za,List.getD_eq_getElem?_getD,zK (show k<EB.length from hk)];rfl
noncomputable def OL(m:Nat)(ws:List W)(q:Sd)(h:aa):Out->Res W
 |.no c=>.ok (.tup [.str (EB.getD (c-1) Str.empty)]) h
 |.ok q'=>.ok (aw (ws.length+1)) (h.set m (.lst (ws++[q.W]++[q'.W])))
section
variable {fw:Nat}{tb:List Fn}{R:Rx}{q:Sd}{P:List Str}{n m:Nat}{ws:List W}{h:aa}{ks:List Str}
theorem RJ(d)(hd:tb[f]?=some ⟨2,5,ND cl all,none⟩)(hal:∀c∈oF,all.contains c=true)(c:ae fw tb (d+8) cl [i5 ks m,t] h=gx m ws q h o)(ho:∀k,o=.no k->k∈oF):ae fw tb (d+9) f [i5 ks m,t] h=OL m ws q h o:=by
 rw[ah hd rfl];cases o with
 |no k=>
  have o':=ho k rfl;have k1:1<=k/\k<=10:=by revert o';simp;omega
  obtain⟨j,rfl⟩:∃j,k=j+1:=⟨k-1,zL⟩;exact bC (JQ zL (hal _ o') c) (fW rfl)
 |ok q'=>exact bC ((ak (bV (iG aA zD))).trans (aH (Ei (jh (U0 rfl) (U1 rfl) c)))) rj
theorem S4(T:R.In tb)(U:R.toIx.Dh tb)(er:R.errs=oF)(hf:2^2010<=fw)(d:Nat)(hd:tb[f]?=some ⟨2,5,ND cl all,none⟩)(hal:∀c∈oF,all.contains c=true)(hc:tb[cl]?=some ⟨2,3,vh R.sv R.fl R.gr R.hd R.di,none⟩)(D:Dd)(ok:q.Ok P n)(hn:h[m]?=some (.lst (ws++[q.W])))(n4:n<=400)(hl:ws.length<=900)(hP:P.length<=30)(nP:∀y∈P,aE y)(hk:∀y∈ks,y∈P)(ht:Seq t (D.row g))(hg:Seq g (D.grp.map W.str))(fit:D.Fit) :
  ae fw tb (d+9) f [i5 ks m,t] h=OL m ws q h (f6 R ks q ws.length D):=by
 refine RJ d hd hal (MY T U hf d hc D ok hn n4 hl hP nP hk ht hg fit) λk e=>?_
 have o:=vO (R:=R) (nd:=ws.length)  ok nP hk fit
 rw[e]at o
 rw[<- er]
 exact o
end
noncomputable abbrev j9 : List S := [.if_ (.or_ (.not_ (.isi V0 [.tuple])) (.cmp .NotEq (.blt .len [V0]) N2)) [.ret (.con (.bl false))] [],
 .for_ [1] (.seq V0) [.if_ (.or_ (.not_ (.isi V1 [.int])) (.or_ (.isi V1 [.bool]) (.cmp .Lt V1 N1))) [.ret (.con (.bl false))] []],
 .ret (.con (.bl true))]
noncomputable abbrev jx : List S := [.if_ (.or_ (.not_ (.isi V0 [.tuple])) (.or_ (.cmp .Lt (.blt .len [V0]) N1) (.cmp .Gt (.blt .len [V0]) N6))) [.ret (.con (.bl false))] [],
 .for_ [1] (.seq V0) [.if_ (.not_ (.isi V1 [.str])) [.ret (.con (.bl false))] []],
 .ret (.con (.bl true))]
noncomputable abbrev jC(is ig : Nat) : List S := [.if_ (.or_ (.not_ (.isi V0 [.list])) (.cmp .Gt (.blt .len [V0]) Ho)) [.ret (.con (.bl false))] [],
 .for_ [1] (.seq V0) [.if_ (.or_ (.not_ (.isi V1 [.tuple])) (.or_ (.cmp .NotEq (.blt .len [V1]) N3) (.not_ (.isi (.ix V1 N2) [.tuple])))) [.ret (.con (.bl false))] [],
 .if_ (.or_ (.not_ (.call is [(.ix V1 N0)])) (.not_ (.call ig [(.ix V1 N1)]))) [.ret (.con (.bl false))] []],
 .ret (.con (.bl true))]
theorem dj{cf:CF}{a:E}{t:Ty}{σ:ai}{h:aa}{x:W}{b:Bool}(ea:af cf a σ h=.ok x h)(e:bz h x t=some b):bJ cf (.isi a [t]) σ h=.ok b h:=by refine(bY (JT (bs:=[b]) ea ?_)).trans ?_;simp[List.mapM_cons,e];simp
section
variable {fw:Nat}{tb:List Fn}{h:aa}
theorem yF{f:Nat}(hf:tb[f]?=some ⟨1,2,j9,none⟩)(d p q:Nat)(p0:1<=p)(q0:1<=q):ae fw tb (d+1) f [sh p q] h=.ok (.bl true) h:=by
 rw[ah hf rfl];generalize ae fw tb d=cf;let σ (r:Option W):ai:=[some (sh p q),r];have t1:bJ cf (.or_ (.not_ (.isi V0 [.tuple])) (.cmp .NotEq (.blt .len [V0]) N2)) (σ none) h=.ok false h:=bZ (cb (b:=true) (dj (x:=sh p q) (U0 rfl) rfl)) ((Be (m:=2) (n:=2) (cM (x:=sh p q) (us:=[aw p,aw q]) (U0 rfl) rfl) aT).trans rfl);obtain⟨r,e⟩:=ik (i:=1) (σ:=σ none) (h:=h) (body:=a9 cf fw [.if_ (.or_ (.not_ (.isi V1 [.int])) (.or_ (.isi V1 [.bool]) (.cmp .Lt V1 N1))) [.ret (.con (.bl false))] []]) [aw p,aw q] none (λw hw=>by
  obtain⟨k,rfl,k1⟩:∃k:Nat,w=aw k/\1<=k:=by
   simp at hw
   rcases hw with rfl|rfl
   ·exact⟨p,rfl,p0⟩
   ·exact⟨q,rfl,q0⟩
  refine(ak (dk (bZ (cb (b:=true) (dj (x:=aw k) (U1 rfl) rfl)) (bZ (dj (x:=aw k) (U1 rfl) rfl) ((oy (m:=k) (n:=1) (U1 rfl) aT).trans (by rw[zX zL])))))).trans ?_
  rw[a9])
 exact bC (x:=a9 cf fw j9 (σ none) h) ((ak (dk t1)).trans ((ak ((iq (t:=sh p q) (U0 rfl) (.inr rfl)).trans e)).trans (aH (aU ax)))) aF
theorem yg{f:Nat}(hf:tb[f]?=some ⟨1,2,jx,none⟩)(d:Nat)(hs:List Str)(h1:1<=hs.length)(h6:hs.length<=6):ae fw tb (d+1) f [.tup (hs.map W.str)] h=.ok (.bl true) h:=by
 rw[ah hf rfl];generalize ae fw tb d=cf;let σ (r:Option W):ai:=[some (.tup (hs.map W.str)),r];have len:af cf (.blt .len [V0]) (σ none) h=.ok (aw hs.length) h:=Hv (U0 rfl);have t1:bJ cf (.or_ (.not_ (.isi V0 [.tuple])) (.or_ (.cmp .Lt (.blt .len [V0]) N1) (.cmp .Gt (.blt .len [V0]) N6))) (σ none) h=.ok false h:=bZ (cb (b:=true) (dj (x:=.tup (hs.map W.str)) (U0 rfl) rfl)) (bZ ((oy (n:=1) len aT).trans (by rw[zX zL])) ((sD (n:=6) len aT).trans (by rw[zX zL])));obtain⟨r,e⟩:=ik (i:=1) (σ:=σ none) (h:=h) (body:=a9 cf fw [.if_ (.not_ (.isi V1 [.str])) [.ret (.con (.bl false))] []]) (hs.map W.str) none (λw hw=>by
  obtain⟨s,_,rfl⟩:=Zs.mp hw
  refine(ak (dk (cb (b:=true) (dj (x:=.str s) (U1 rfl) rfl)))).trans ?_
  rw[a9])
 exact bC (x:=a9 cf fw jx (σ none) h) ((ak (dk t1)).trans ((ak ((iq (t:=.tup (hs.map W.str)) (U0 rfl) (.inr rfl)).trans e)).trans (aH (aU ax)))) aF
theorem xu (hf:tb[f]?=some ⟨1,2,jC is ig,none⟩) (his:tb[is]?=some ⟨1,2,j9,none⟩) (hig:tb[ig]?=some ⟨1,2,jx,none⟩) (d:Nat) (xs:List Pt) (hxs:∀ x∈xs,x.R n∧1≤x.p) (hl:xs.length≤60):ae fw tb (d+2) f [.lst (xs.map aJ)] h=.ok (.bl true) h:=by
 rw [ah hf rfl];have c1:=fun (x:Pt) (hx:x∈xs)=>yF (fw:=fw) (h:=h) his d x.p x.q (hxs x hx).2 (hxs x hx).1.q0;have c2:=fun (x:Pt) (hx:x∈xs)=>yg (fw:=fw) (h:=h) hig d x.hs (hxs x hx).1.h0 (hxs x hx).1.h1;generalize ae fw tb (d+1)=cf at *;let σ (r:Option W):ai:=[some (.lst (xs.map aJ)),r];have t1:bJ cf (.or_ (.not_ (.isi V0 [.list])) (.cmp .Gt (.blt .len [V0]) Ho)) (σ none) h=.ok false h:=bZ (cb (b:=true) (dj (x:=.lst (xs.map aJ)) (U0 rfl) rfl)) ((sD (n:=60) (cM (x:=.lst (xs.map aJ)) (us:=xs.map aJ) (U0 rfl) rfl) aT).trans (by rw [zX (by rw [zj];lia)]))
 obtain ⟨r, e⟩ := ik (i := 1) (σ := σ none) (h := h) (body := a9 cf fw [.if_ (.or_ (.not_ (.isi V1 [.tuple])) (.or_ (.cmp .NotEq (.blt .len [V1]) N3) (.not_ (.isi (.ix V1 N2) [.tuple])))) [.ret (.con (.bl false))] [],
  .if_ (.or_ (.not_ (.call is [(.ix V1 N0)])) (.not_ (.call ig [(.ix V1 N1)]))) [.ret (.con (.bl false))] []]) (xs.map aJ) none (fun w hw => by
   obtain ⟨x,hx,rfl⟩:=Zs.mp hw
   refine (ak (dk (bZ (cb (b:=true) (dj (x:=aJ x) (U1 rfl) rfl)) (bZ ((Be (m:=3) (n:=3) (cM (x:=aJ x) (us:=[sh x.p x.q,.tup (x.hs.map W.str),.tup x.tr]) (U1 rfl) rfl) aT).trans rfl) (cb (b:=true) (dj (x:=.tup x.tr) (FL (x:=x) (U1 rfl)) rfl)))))).trans ((ak (dk (bZ (cb (b:=true) (bY (jl (Ft (x:=x) (U1 rfl)) (c1 x hx)))) (cb (b:=true) (bY (jl (KS (x:=x) (U1 rfl)) (c2 x hx))))))).trans ?_)
   rw [a9])
 exact bC (x:=a9 cf fw (jC is ig) (σ none) h) ((ak (dk t1)).trans ((ak ((iq (t:=.lst (xs.map aJ)) (U0 rfl) (.inl rfl)).trans e)).trans (aH (aU ax)))) aF
end
noncomputable abbrev BQ(lo be : Nat) : List S := [.unp [4, 5, 6] (.ix V0 (.bin .Sub V1 N1)),
 .asg 7 (.blt .len [V5]),
 .asg 8 (.blt .tuple [(.compS [12] 1 V5 [(.cmp .NotEq HF Y2)] HF)]),
 .asg 9 (.call lo [(.bin .Mult (.ix v4 N0) (.bin .Sub V7 N1)),(.bin .Mult (.ix v4 N1) V7)]),
 .asg 10 (.call lo [(.ix v4 N0),(.bin .Mult (.ix v4 N1) V7)]),
 .fresh 11 (.blt .list [V0]),
 .setix xS (.bin .Sub V1 N1) (.call be [v6,Y3,V1,V9,V8]),
 .ret (.bin .Add xS (.lst [(.call be [v6, Y3, (.bin .Add (.blt .len [V0]) N1), sA, (.tup [Y2])])]))]
noncomputable abbrev Dy(lo be : Nat) : List S := [.unp [5, 6, 7] (.ix V0 (.bin .Sub V1 N1)),
 .fresh 8 (.blt .list [V0]),
 .if_ (.cmp .Eq Y2 qB) [.setix V8 (.bin .Sub V1 N1) (.call be [V7,v4,V1,V5,Y3]),
 .ret V8] [],
 .asg 9 (.call lo [(.bin .Mult (.ix V5 N0) (.bin .Sub qB Y2)),(.bin .Mult (.ix V5 N1) qB)]),
 .asg 10 (.call lo [(.bin .Mult (.ix V5 N0) Y2),(.bin .Mult (.ix V5 N1) qB)]),
 .setix V8 (.bin .Sub V1 N1) (.call be [V7,v4,V1,V9,v6]),
 .ret (.bin .Add V8 (.lst [(.call be [V7, v4, (.bin .Add (.blt .len [V0]) N1), sA, Y3])]))]
section
variable {fw:Nat}{tb:List Fn}{xs:List Pt}{x:Pt}{n k dd:Nat}{name:Str}{h:aa}{f lo be:Nat}
end
abbrev NM(i:Nat)(s:String):E:=.cmp .Eq (.ix (.var i) N0) (.con (.str s))
theorem DO(ec:bJ cf c σ h=.ok false h)(eb:af cf b σ h=r):af cf (.ite c a b) σ h=r:=by have ec':jb (af cf c σ h)=.ok false h:=ec;rw[af,ec',ag,zP zS,eb]
theorem EW(ec:bJ cf c σ h=.ok true h)(ea:af cf a σ h=r):af cf (.ite c a b) σ h=r:=by have ec':jb (af cf c σ h)=.ok true h:=ec;rw[af,ec',ag,zF rfl,ea]
section
variable {fw:Nat}{tb:List Fn}{h:aa}
def Dd.most:Dd->Nat
 |.die _=>30
 |_=>6
def Dd.bad:Dd->Bool
 |.sever _ _=>false
 |.follow _ _=>false
 |D=>!decide (1<=D.grp.length/\D.grp.length<=D.most/\D.grp.Nodup)
end
section
variable {fw:Nat}{tb:List Fn}{h:aa}{xs:List Pt}{n:Nat}
end
def gM(gs:List Str):List Pt->Nat
 |[]=>0
 |x::xs=>(if(bu x.hs gs).length=0 then x.hs.length-1 else 0)+gM gs xs
def Dd.more(xs:List Pt):Dd->Nat
 |.sever _ _=>1
 |.hand _ _ tz _=>if tz<20 then 1 else 0
 |.die ss=>gM ss xs
 |_=>0
section
variable {fw:Nat}{tb:List Fn}{h:aa}{n:Nat}
end
theorem lR(s)(ss):aK s (srt ss)=aK s ss:=by rw[br,br];exact decide_eq_decide.mpr cJ
theorem xq(hs ss):bu hs (srt ss)=bu hs ss:=by unfold bu;congr 1;funext s;rw[lR]
theorem wy(ss):∀xs,gM (srt ss) xs=gM ss xs
 |[]=>rfl
 |x::xs=>by rw[gM,gM,xq,wy ss xs]
theorem EV:(Cg heir g dd m x).length=if(bu x.hs g).length=0 then x.hs.length-1 else 0:=by
 unfold Cg
 grind
theorem vf:∀xs m,(xP heir g dd xs m).length=gM g xs
 |[],_=>rfl
 |x::xs,m=>by rw[xP,zM,EV,vf xs,gM]
theorem lr:(gN heir g dd xs).length=xs.length+gM g xs:=by unfold gN;rw[zM,Z6,vf]
section
variable {fw:Nat}{tb:List Fn}{h:aa}{n:Nat}{xs:List Pt}{P G:List Str}{ks vs:List Str}{done:List W}
abbrev RK(xs:List Pt)(G ks vs:List Str)(done:List W):W:=.lst [.lst (xs.map aJ),.lst (G.map W.str),.dic ks (vs.map W.str),.lst done]
end
section
variable {R:Rx}{q:Sd}{P ks:List Str}{n nd:Nat}
structure Rx.Std (R:Rx):Prop where
 e:R.errs=oF
end
section
variable {R:Rx}{q:Sd}{P ks:List Str}{n nd:Nat}
end
noncomputable abbrev Jg(be lo he : Nat) : List S := [.unp [8, 9, 10] (.ix V0 V7),
 .asg 11 (.blt .tuple [(.compS [16] 1 V9 [(.cmp .NotIn xJ V1)] xJ)]),
 .if_ (.cmp .Eq (.blt .len [xS]) (.blt .len [V9])) [.exp (.meth .append V5 [(.ix V0 V7)])] [.if_ (.cmp .Gt (.blt .len [xS]) N0) [.exp (.meth .append V5 [(.call be [sA,v4,(.bin .Add V7 N1),V8,xS])])] [.asg 12 (.call lo [(.ix V8 N0),(.bin .Mult (.ix V8 N1) (.blt .len [V9]))]),
 .asg 13 (.compS [16] 1 V9 [] (.call he [xJ,Y2,(.bin .Add (.blt .list [Y3]) (.blt .list [V1]))])),
 .exp (.meth .append V5 [(.call be [sA,v4,(.bin .Add V7 N1),HF,(.tup [(.ix sm N0)])])]),
 .for_ [14] (.seq (.sl sm (some N1) none)) [.asg 15 (.bin .Add (.bin .Add (.blt .len [V0]) (.blt .len [v6])) N1),
 .exp (.meth .append v6 [(.call be [sA, v4, KZ, HF, (.tup [GO])])])]]]]
noncomputable abbrev Ie(be lo he:Nat):List S:=[.fresh 5 (.lst []),.fresh 6 (.lst []),.for_ [7] (.rng [(.blt .len [V0])]) (Jg be lo he),.ret (.bin .Add V5 v6)]
section
variable {R:Rx}{q q':Sd}{ks:List Str}{nd:Nat}
theorem dB(e:eK R nd q1=.ok q'):nd<200/\q'=q1:=by
 unfold eK at e
 grind
theorem dU(e:first R ks q ss o=.ok q'):uO ks ss=false/\A0 q ss=false/\bt q.dw=false/\o=.ok q':=by
 unfold first at e
 grind
theorem iu(e:iP R ks q nd a z=.ok q'):nd<200/\bt q.dw=false/\q.xs.length<60/\∃x k,z=((k:Nat):Int)/\1<=k/\q.xs[k-1]?=some x/\ow x a=false/\q'=⟨.tup [.str "sever",.str a,.int z],mQ q.xs x k a (nd+1),q.ks,q.vs,q.G⟩:=by unfold iP at e;obtain⟨_,_,h3,e⟩:=dU e;split at e;cases e;rename_i o;obtain⟨z1,z2,z3⟩:=iy (Zt _ |>.mp o);split at e;cases e;rename_i x ex;split at e;cases e;rename_i b;split at e;cases e;rename_i c;obtain⟨h4,h5⟩:=dB e;exact⟨h4,h3,zL,x,_,z1,z2,ex,Zt _ |>.mp b,h5⟩
theorem jq(e:gC R ks q nd a z tz ss=.ok q'):nd<200/\bt q.dw=false/\∃x k tw,z=((k:Nat):Int)/\tz=((tw:Nat):Int)/\tw<=20/\1<=k/\q.xs[k-1]?=some x/\q'=⟨.tup [.str "hand",.str a,.int z,.int tz,.tup ((srt ss).map W.str)],cj q.xs x k tw (srt ss) (nd+1),q.ks,q.vs,q.G⟩:=by unfold gC at e;split at e;obtain⟨_,_,h3,e⟩:=dU e;split at e;cases e;rename_i o;obtain⟨z1,z2,z3⟩:=iy (Zt _ |>.mp o);split at e;cases e;rename_i x ex;split at e;cases e;split at e;cases e;rename_i b;obtain⟨tw,rfl,t1,t2⟩:=oQ (Zt _ |>.mp b);split at e;cases e;obtain⟨h4,h5⟩:=dB e;rw[ZT]at h5;exact⟨h4,h3,x,_,tw,z1,rfl,t2,z2,ex,h5⟩;cases e
theorem gh(e:fI R ks q nd a b k2 us=.ok q'):nd<200/\bt q.dw=false/\q'=⟨.tup [.str "follow",.str a,.str b],q.xs,k2,us,q.G⟩:=by obtain⟨_,_,h3,e⟩:=dU e;exact⟨(dB e).1,h3,(dB e).2⟩
theorem kN(e:oU R ks q nd ss=.ok q'):nd<200/\bt q.dw=false/\ss.length<=30/\q'=⟨.tup [.str "die",.tup ((srt ss).map W.str)],gN (gL q.ks q.vs q.G (srt ss)) (srt ss) (nd+1) q.xs,q.ks,q.vs,q.G++srt ss⟩:=by unfold oU at e;split at e;rename_i g;obtain⟨_,_,h3,e⟩:=dU e;split at e;cases e;exact⟨(dB e).1,h3,g.2.1,(dB e).2⟩;simp_all
theorem ib(e:eZ R ks q nd ss=.ok q'):nd<200/\bt q.dw=true/\q'=⟨.tup [.str "grant",.tup ((srt ss).map W.str)],[je [] 1 1 (1,1) (srt ss)],q.ks,q.vs,q.G⟩:=by
 unfold eZ at e
 split at e
 ·split at e
  ·cases e
  ·split at e
   ·cases e
   ·split at e
    ·grind
    ·rename_i b
     exact⟨(dB e).1,Bool.not_eq_false _ |>.mp b,(dB e).2⟩
 ·cases e
end
def Dd.gone(G:List Str):Dd->List Str
 |.die ss=>G++ss
 |_=>G
theorem vp(s)(a b):aK s (a++b)=(aK s a||aK s b):=by rw[br,br,br];simp
abbrev vX:List S:=[.ret (.blt .tuple [(.compS [1] 1 V0 [] (.ite (.isi V1 [.list]) (.blt .tuple [(.blt .sorted [V1])]) V1))])]
def HL(w:W):W:=match w with
 |.lst ws=>.tup ((srt (ws.map Nj)).map W.str)
 |w=>w
theorem uY(ss:List Str):(ss.map W.str).map Nj=ss:=by rw[Z7];exact(zzh  λx _=>rfl).trans (List.map_id _)
abbrev Dd.L(D:Dd):W:=.lst (D.row (.lst (D.grp.map W.str)))
abbrev Dd.T(D:Dd):W:=.tup (D.row (.tup ((srt D.grp).map W.str)))
theorem Jm(D:Dd):(D.row (.lst (D.grp.map W.str))).map HL=D.row (.tup ((srt D.grp).map W.str)):=by
 have e:∀ss:List Str,HL (.lst (ss.map W.str))=.tup ((srt ss).map W.str):=λss=>by show W.tup ((srt ((ss.map W.str).map Nj)).map W.str)=_;rw[uY]
 cases D with
 |grant ss=>show [W.str "grant",HL (.lst (ss.map W.str))]=_;rw[e];rfl
 |sever a z=>rfl
 |hand a z tz ss=>show [W.str "hand",W.str a,W.int z,W.int tz,HL (.lst (ss.map W.str))]=_;rw[e];rfl
 |follow a b=>rfl
 |die ss=>show [W.str "die",HL (.lst (ss.map W.str))]=_;rw[e];rfl
theorem l4(D:Dd)(g):∀u∈D.row g,(∃s,u=.str s)\/(∃i,u=.int i)\/u=g:=by cases D<;>simp[Dd.row]
theorem j6(D:Dd)(hg:ar g=true):aj (D.row g)=true:=by cases D<;>simp[Dd.row,aj,ar,hg]
section
variable {fw:Nat}{tb:List Fn}{R:Rx}{q q':Sd}{P ks:List Str}{n:Nat}{h:aa}{done:List W}{G':List Str}
theorem L5{f:Nat}(hf:tb[f]?=some ⟨1,1,vX,none⟩)(d:Nat)(D:Dd)(hl:D.grp.length<64):ae fw tb (d+1) f [D.L] h=.ok D.T h:=by
 rw[ah hf rfl];generalize ae fw tb d=cf;have pT:aj (D.row (.tup ((srt D.grp).map W.str)))=true:=j6 D (by rw[ar];exact aC _);have l5:(D.row (.lst (D.grp.map W.str))).length<=1000:=by cases D<;>(simp[Dd.row])
 have pu:∀u∈D.row (.lst (D.grp.map W.str)),ar (HL u)=true:=λu hm=>by rcases l4 D _ u hm with⟨s,rfl⟩|⟨i,rfl⟩|rfl;rfl;rfl;show ar (.tup _)=true;rw[ar];exact aC _
 refine bC (x:=a9 cf fw vX [some D.L] h) (aH (aU ((ic (mB (F:=HL) (U0 rfl) rfl (λk e=>by cases e) l5 λu hm=>⟨pu u hm,[some D.L,some u],rfl,λhh=>?_⟩)).trans (by rw[Jm])))) (fW pT);rcases l4 D _ u hm with⟨s,rfl⟩|⟨i,rfl⟩|rfl;exact DO (dj (U1 rfl) rfl) (U1 rfl);rfl;refine EW (dj (U1 rfl) rfl) ((E4 (ss:=D.grp) (U1 rfl) rfl hl).trans ?_);show _=Res.ok (W.tup ((srt ((D.grp.map W.str).map Nj)).map W.str)) hh;rw[uY]
end
noncomputable abbrev IC(to be sv hn fa : Nat) : List S := [.unp [2, 3, 4, 5] V0,
 .asg 6 (.bin .Add (.blt .len [V5]) N1),
 .asg 7 (.bin .Add V5 (.lst [(.call to [V1])])),
 .if_ (NM 1 "grant") [.ret (.lst [(.lst [(.call be [(.tup []),N1,N1,(.tup [N1,N1]),(.ix (.ix V7 N0) N1)])]),Y3,v4,V7])] [],
 .if_ (NM 1 "sever") [.ret (.lst [(.call sv [Y2,(.ix V1 N2),(.ix V1 N1),v6]),Y3,v4,V7])] [],
 .if_ (NM 1 "hand") [.asg 8 (.blt .tuple [(.blt .sorted [(.ix V1 N4)])]),
 .ret (.lst [(.call hn [Y2,(.ix V1 N2),(.ix V1 N3),V8,v6]),Y3,v4,V7])] [],
 .if_ (NM 1 "follow") [.freshC 9 v4,
 .setix V9 (.ix V1 N1) (.ix V1 N2),
 .ret (.lst [Y2,Y3,V9,V7])] [],
 .asg 10 (.call fa [Y2,(.ix V1 N1),v4,Y3,v6]),
 .ret (.lst [sA, (.bin .Add Y3 (.blt .list [(.ix V1 N1)])), v4, V7])]
structure Ax where
 (to be lo sv hn he fa ap:Nat)
structure Ax.In (A:Ax) (tb:List Fn):Prop where
 to:tb[A.to]?=some ⟨1,1,vX,none⟩
 be:tb[A.be]?=some ⟨5,5,dg,none⟩
 lo:tb[A.lo]?=some ⟨2,4,Mq,none⟩
 sv:tb[A.sv]?=some ⟨4,12,BQ A.lo A.be,none⟩
 hn:tb[A.hn]?=some ⟨5,11,Dy A.lo A.be,none⟩
 he:tb[A.he]?=some ⟨3,5,Gg,none⟩
 fa:tb[A.fa]?=some ⟨5,16,Ie A.be A.lo A.he,none⟩
 ap:tb[A.ap]?=some ⟨2,11,IC A.to A.be A.sv A.hn A.fa,none⟩
section
variable {fw:Nat}{tb:List Fn}{R:Rx}{A:Ax}{q q':Sd}{P ks:List Str}{n:Nat}{h:aa}{done:List W}{G':List Str}
end
abbrev Dx:Sd:=⟨.non,[],[],[],[]⟩
theorem AH:Dx.Ok P 0:=⟨rfl,(λx hx=>nomatch hx),zS,(λx hx=>nomatch hx),rfl,zS,(λx hx=>nomatch hx),(λx hx=>nomatch hx),zS⟩
theorem tF(e:f6 R ks q nd D=.ok q'):q'.dw=D.T/\nd<200/\(bt q.dw=false->0<q.xs.length->0<q'.xs.length)/\(bt q.dw=true->0<q'.xs.length)/\(∀s,aK s q'.G=aK s (D.gone q.G)):=by
 cases D with
 |grant ss=>obtain⟨h1,h2,rfl⟩:=ib e;exact⟨rfl,h1,λ_ _=>by show 0<1;decide,λ_=>by show 0<1;decide,λ_=>rfl⟩
 |sever a z=>obtain⟨h1,h2,_,x,k,_,_,_,_,rfl⟩:=iu e;exact⟨rfl,h1,λ_ _=>by rw[kM];lia,λz=>(by rw[h2]at z;cases z),λ_=>rfl⟩
 |hand a z tz ss=>obtain⟨h1,h2,x,k,tw,_,_,_,_,_,rfl⟩:=jq e;exact⟨rfl,h1,λ_ _=>by rw[dM];split<;>lia,λz=>(by rw[h2]at z;cases z),λ_=>rfl⟩
 |follow a b=>obtain⟨h1,h2,rfl⟩:=gh e;exact⟨rfl,h1,λ_ z=>z,λz=>(by rw[h2]at z;cases z),λ_=>rfl⟩
 |die ss=>
  obtain⟨h1,h2,_,rfl⟩:=kN e
  exact⟨rfl,h1,λ_ _=>by rw[lr];lia,λz=>(by rw[h2]at z;cases z),λs=>by
   show aK s (q.G++srt ss)=aK s (q.G++ss)
   rw[vp,vp,lR]⟩
theorem Dd.T_Q{D:Dd}(hl:D.grp.length<64):jZ D.T=true/\jM D.T<=3:=by
 have e:jZ (.tup ((srt D.grp).map W.str))=true:=by rw[jZ,dX,zj,bT,z0 zL];rfl
 have e2:jM (.tup ((srt D.grp).map W.str))<=2:=by rw[jM,dZ];decide
 unfold Dd.T;generalize W.tup ((srt D.grp).map W.str)=g at *;have p:∀ws,(∀w∈ws,w=g\/jZ w=true/\jM w<=2)->ws.length<=10->jZ (.tup ws)=true/\jM (.tup ws)<=3:=λws hw hl=>by
  have z1:∀ws:List W,(∀w∈ws,w=g\/jZ w=true/\jM w<=2)->dr ws=true/\dz ws<=2:=λws=>by
   induction ws with
   |nil=>intro _;exact⟨rfl,ZD _⟩
   |cons w ws ih=>
    intro hw;obtain⟨i1,i2⟩:=ih λu hu=>hw u (zo _ hu);have j:jZ w=true/\jM w<=2:=by grind
    rw[dr,dz,j.1,i1];exact⟨rfl,Nat.max_le.mpr ⟨j.2,i2⟩⟩
  obtain⟨z1,z2⟩:=z1 ws hw;rw[jZ,jM,z1,z0 zL];exact⟨rfl,zL⟩
 refine p _ (λw hw=>?_) (by cases D<;>simp[Dd.row]);rcases l4 D g w hw with⟨s,rfl⟩|⟨i,rfl⟩|rfl;exact .inr ⟨rfl,ZD _⟩;exact .inr ⟨rfl,ZD _⟩;exact .inl rfl
theorem Dd.Fit.len{D:Dd}(fit:D.Fit):D.grp.length<64:=by
 cases D with
 |grant ss=>exact fit.1
 |hand a z tz ss=>exact fit.2.2.2.1
 |die ss=>exact fit.1
 |_=>show 0<64;decide
inductive Ch (R:Rx) (ks:List Str):List Sd->Sd->List Str->List W->List W->Prop
 |nil:Ch R ks [] Dx [] [] []
 |step {C:List Sd}{q q':Sd}{G:List Str}{Ss dn:List W} (D:Dd):Ch R ks C q G Ss dn->D.Fit->f6 R ks q C.length D=.ok q'->Ch R ks (C++[q]) q' (D.gone G) (Ss++[RK q.xs G q.ks q.vs dn]) (dn++[D.T])
structure Rec (P:List Str) (C:List Sd) (q:Sd) (G:List Str) (Ss dn:List W):Prop where
 ok:q.Ok P C.length
 cl:dn.length=C.length
 sl:Ss.length=C.length
 c2:C.length<=200
 pd:aj dn=true
 ps:aj Ss=true
 pc:aj (C.map Sd.W)=true
 hg:bt q.dw=decide (C.length=0)
 hG:∀s,aK s G=aK s q.G
 gl:G.length=q.G.length
 x0:0<C.length->0<q.xs.length
 dq:0<C.length->jZ q.dw=true/\jM q.dw<=3
variable {R:Rx}{ks P:List Str}{C:List Sd}{q q':Sd}{G:List Str}{Ss dn:List W}
end J
set_option Elab.async false
set_option linter.all false
set_option maxRecDepth 100000
set_option maxHeartbeats 4000000
namespace Law
open PySem J
def top(i:Nat):Stmt:=PySem.Challenge.pw_jointhold_k33_whole_parts_stay.main.body.getD i (.Pass ⟨0,0,0,0⟩)
def mtop(i j:Nat):Stmt:=match top i with
 |.ClassDef _ _ _ body _ _ _ _ _ _ _=>body.getD j (.Pass ⟨0,0,0,0⟩)
 |s=>s
abbrev dD(x:Str)(i k:Nat)(N mu:List Str):Df:=⟨x,top i,N,N.take k,mu,x,0⟩
def d0:Df:=dD "is_name" 20 1 ["text"] []
def d1:Df:=dD "has_one_twice" 21 1 ["names"] []
def d2:Df:=dD "checked_names" 22 1 ["names","name"] []
def d3:Df:=dD "group_of" 23 3 ["names","least","most"] []
def d4:Df:=dD "names_without" 24 2 ["names","gone"] []
def d5:Df:=dD "check_known" 25 2 ["names","known","name"] []
def d6:Df:=dD "check_living" 26 3 ["names","known","dead","name"] []
def d7:Df:=dD "heir_of" 28 3 ["name","follows","dead","passed","at"] ["passed"]
def d8:Df:=dD "common_divisor" 31 2 ["one","other","rest"] []
def d9:Df:=dD "lowest" 32 2 ["top","below","divisor"] []
def S8:Df:=dD "piece_of" 33 3 ["share","many","of"] []
def S6:Df:=dD "part_behind" 36 5 ["trail","deed","number","share","holders"] []
def S3:Df:=dD "first_part" 37 1 ["holders"] []
def So:Df:=dD "part_numbered" 38 2 ["parts","number"] []
def QO:Df:=dD "with_part" 39 3 ["parts","number","part","after"] ["after"]
def Q8:Df:=dD "checked_many" 40 1 ["parts"] []
def RY:Df:=dD "fallen_parts" 42 4 ["part","numbers","heirs","deed","share"] []
def RF:Df:=dD "parts_after" 43 5 ["parts","gone","follows","dead","deed","after","number","part","holders","left","heirs","numbers","fallen","all_dead"] ["after"]
def RU:Df:=dD "whole_handed" 46 4 ["parts","number","receivers","deed","part"] []
def Rj:Df:=dD "piece_handed" 47 5 ["parts","number","twentieths","receivers","deed","part","share","trail","left","rest","given"] []
def RP:Df:=dD "hand_part" 48 6 ["parts","number","name","twentieths","receivers","deed","part","after"] []
def QX:Df:=dD "sever_part" 50 4 ["parts","number","name","deed","part","share","holders","trail","many","others","rest","taken"] []
def d22:Df:=⟨"__init__",mtop 53 0,["self","deed","part_list","follows","dead"],["self","deed","part_list","follows","dead"],[],"Standing.__init__",2⟩
def d23:Df:=⟨"__init__",mtop 54 0,["self","names"],["self","names"],["standings"],"Register.__init__",3⟩
def SA:Df:=⟨"last",mtop 54 1,["self"],["self"],[],"Register.last",1⟩
def R3:Df:=⟨"next_number",mtop 54 2,["self"],["self"],[],"Register.next_number",1⟩
def QP:Df:=⟨"check_people",mtop 54 3,["self","names"],["self","names"],[],"Register.check_people",1⟩
def R5:Df:=⟨"check_granted",mtop 54 5,["self"],["self"],[],"Register.check_granted",1⟩
def SM:Df:=⟨"keep",mtop 54 6,["self","deed","part_list","follows","dead","number"],["self","deed","part_list","follows","dead"],[],"Register.keep",1⟩
def QM:Df:=⟨"grant",mtop 54 7,["self","names","holders","last"],["self","names"],[],"Register.grant",1⟩
def Sg:Df:=⟨"sever",mtop 54 8,["self","name","number","last","part_list"],["self","name","number"],[],"Register.sever",1⟩
def S9:Df:=⟨"hand",mtop 54 9,["self","name","number","twentieths","receivers","group","last","part_list"],["self","name","number","twentieths","receivers"],[],"Register.hand",1⟩
def QH:Df:=⟨"follow",mtop 54 10,["self","name","follower","last","follows"],["self","name","follower"],[],"Register.follow",1⟩
def Q7:Df:=⟨"die",mtop 54 11,["self","names","gone","last","part_list"],["self","names"],[],"Register.die",1⟩
def SN:Df:=⟨"back",mtop 54 12,["self"],["self"],[],"Register.back",1⟩
def Sa:Df:=⟨"parts",mtop 54 13,["self"],["self"],[],"Register.parts",1⟩
def Q5:Df:=⟨"deeds",mtop 54 14,["self"],["self"],[],"Register.deeds",1⟩
def Qs:Df:=⟨"follower",mtop 54 17,["self","name"],["self","name"],[],"Register.follower",1⟩
def QN:Df:=dD "_law_at" 56 2 ["_law_script","_law_k"] []
def Sl:Df:=dD "_law_people" 57 3 ["_law_many","_law_how","_law_shift","_law_letters","_law_fill","_law_ahead","_law_made","_law_k","_law_one","_law_two"] ["_law_made"]
def Sx:Df:=dD "_law_is_share" 58 1 ["_law_found","_law_one"] []
def Rb:Df:=dD "_law_is_group" 59 1 ["_law_found","_law_one"] []
def QY:Df:=dD "_law_are_parts" 60 1 ["_law_found","_law_part"] []
def S1:Df:=dD "_law_begun" 61 4 ["_law_script","_law_people_here","_law_hands","_law_names","_law_size","_law_rows","_law_to","_law_cell","_law_k","_law_many","_law_more"] ["_law_rows"]
def RN:Df:=dD "_law_pick" 62 3 ["_law_held","_law_start","_law_alone","_law_k","_law_at_here"] []
def R7:Df:=dD "_law_stray" 63 4 ["_law_b","_law_who","_law_other","_law_count","_law_pick_here","_law_more"] []
def SI:Df:=dD "_law_deed" 64 6 ["_law_a","_law_b","_law_turn_here","_law_people_here","_law_gone","_law_held","_law_kind","_law_who","_law_other","_law_at_here","_law_pieces","_law_size","_law_to","_law_alive","_law_group","_law_start"] []
def Sh:Df:=dD "_law_call" 65 2 ["_law_land","_law_deed_here","_law_group"] []
def QU:Df:=dD "_law_do" 66 2 ["_law_land","_law_deed_here","e","_law_flags","_law_words"] []
def Sr:Df:=dD "_law_back" 67 1 ["_law_land","_law_word"] []
def QF:Df:=dD "_law_told" 68 1 ["_law_deed_here"] []
def Rl:Df:=dD "_law_same" 69 2 ["_law_found","_law_due","_law_alike","_law_k"] []
def R1:Df:=dD "_law_past" 70 1 ["_law_done","_law_named","_law_gone","_law_deed_here"] ["_law_named"]
def S7:Df:=dD "_law_turn" 71 7 ["_law_land","_law_a","_law_b","_law_turn_here","_law_people_here","_law_held","_law_done","_law_last","_law_deed_here","_law_found"] []
def QE:Df:=dD "_law_touched" 72 3 ["_law_deed_here","_law_number","_law_holders"] []
def R8:Df:=dD "_law_grown" 73 4 ["_law_before","_law_after","_law_number","_law_count","_law_old","_law_trail"] []
def Sy:Df:=dD "_law_kept" 74 4 ["_law_held","_law_after","_law_deed_here","_law_count","_law_more","_law_k","_law_share","_law_holders","_law_trail"] []
def d57:Df:=dD "law" 75 1 ["_law_script","_law_many","_law_people_here","_law_land","_law_done","_law_k","_law_held","_law_stood","_law_after"] []
noncomputable def ds:List Df:=[d0,d1,d2,d3,d4,d5,d6,d7,d8,d9,S8,S6,S3,So,QO,Q8,RY,RF,RU,Rj,RP,QX,d22,d23,SA,R3,QP,R5,SM,QM,Sg,S9,QH,Q7,SN,Sa,Q5,Qs,QN,Sl,Sx,Rb,QY,S1,RN,R7,SI,Sh,QU,Sr,QF,Rl,R1,S7,QE,R8,Sy,d57]
noncomputable def gl:List (Str×Gk):=("is_name",.fn 0 1)::("has_one_twice",.fn 1 1)::("checked_names",.fn 2 1)::("group_of",.fn 3 3)::("names_without",.fn 4 2)::("check_known",.fn 5 2)::("check_living",.fn 6 3)::("heir_of",.fn 7 3)::("common_divisor",.fn 8 2)::("lowest",.fn 9 2)::("piece_of",.fn 10 3)::("part_behind",.fn 11 5)::("first_part",.fn 12 1)::("part_numbered",.fn 13 2)::("with_part",.fn 14 3)::("checked_many",.fn 15 1)::("fallen_parts",.fn 16 4)::("parts_after",.fn 17 5)::("whole_handed",.fn 18 4)::("piece_handed",.fn 19 5)::("hand_part",.fn 20 6)::("sever_part",.fn 21 4)::("Standing",.ctor 22 5)::("Register",.ctor 23 2)::("last",.mth 24 1)::("next_number",.mth 25 1)::("check_people",.mth 26 2)::("check_granted",.mth 27 1)::("keep",.mth 28 5)::("grant",.mth 29 2)::("sever",.mth 30 3)::("hand",.mth 31 5)::("follow",.mth 32 3)::("die",.mth 33 2)::("back",.mth 34 1)::("parts",.mth 35 1)::("deeds",.mth 36 1)::("follower",.mth 37 2)::("_law_at",.fn 38 2)::("_law_people",.fn 39 3)::("_law_is_share",.fn 40 1)::("_law_is_group",.fn 41 1)::("_law_are_parts",.fn 42 1)::("_law_begun",.fn 43 4)::("_law_pick",.fn 44 3)::("_law_stray",.fn 45 4)::("_law_deed",.fn 46 6)::("_law_call",.fn 47 2)::("_law_do",.fn 48 2)::("_law_back",.fn 49 1)::("_law_told",.fn 50 1)::("_law_same",.fn 51 2)::("_law_past",.fn 52 1)::("_law_turn",.fn 53 7)::("_law_touched",.fn 54 3)::("_law_grown",.fn 55 4)::("_law_kept",.fn 56 4)::("law",.fn 57 1)::("CROWN",.con (.str "CROWN"))::("PERSONS_MOST",.con (.int 30))::("LETTERS_MOST",.con (.int 12))::("HOLDERS_MOST",.con (.int 6))::("ONE",.con (.tup [(.int 1),(.int 1)]))::("PARTS_MOST",.con (.int 60))::("TWENTIETHS",.con (.int 20))::("DEEDS_MOST",.con (.int 200))::("BadNames",.cls 0)::("BadGroup",.cls 1)::("Unknown",.cls 2)::("Dead",.cls 3)::("NotGranted",.cls 4)::("GrantedBefore",.cls 5)::("NoPart",.cls 6)::("NotHeld",.cls 7)::("BadPiece",.cls 8)::("TooManyParts",.cls 9)::("TooManyDeeds",.cls 10)::("NothingDone",.cls 11)::("JointholdError",.bas)::[]
theorem made:tf ds gl=true:=by decide +kernel
def b0:List S:=gj
def b1:List S:=fK
def b2:List S:=kW 0 0 1
def b3:List S:=uf 1 1
def b4:List S:=fh
def b5:List S:=sN 2
def b6:List S:=vC 3 5
def b7:List S:=iR
def b8:List S:=pF
def b9:List S:=xo 8
def RL:List S:=jS 9
def RH:List S:=dg
def Rt:List S:=jK 11
def QG:List S:=cA 6
def R9:List S:=rM
def QD:List S:=pW 9
def Rq:List S:=ip 10 11
def SF:List S:=Bt 4 7 11 16 [.ret (.call 15 [V5])]
def Ra:List S:=vG 14 11
def Se:List S:=uM 10 11 14
def SE:List S:=BD 13 18 19 15 7 8
def Ru:List S:=vg 13 4 11 10 15 14 7
def Rg:List (Bool×E):=[(false,V1),(false,Y2),(false,Y3),(false,v4)]
def Rz:List (Bool×E):=[(false,(.call 2 [V1])),(true,(.lst [(.call 2022 [(.con .non),(.lst []),.dic0,(.lst [])])]))]
def Sk:List S:=lD
def QJ:List S:=uH
def QA:List S:=rf 6 24
def QK:List S:=qH 24 4
def Rn:List S:=qM 10 25 22
def Sj:List S:=uw 5 3 26 24 28 12
def S5:List S:=By 26 27 24 21 25 28
def SH:List S:=Gd 3 26 27 24 20 25 28
def QB:List S:=u4 26 27 24 28
def Rf:List S:=FK 3 26 27 24 17 25 28
def R6:List S:=vS 11 24
def Q9:List S:=yE 24
def SG:List S:=NF
def Ry:List S:=lh
def Sv:List S:=j9
def Sz:List S:=jx
def RA:List S:=jC 40 41
noncomputable def rE : List S := [.asg 7 (.call 38 [V0, N3]),
 .asg 9 (.blt .len [V1]),
 .asg 10 (.bin .Mod (.bin .Add (.bin .FloorDiv V7 (.con (.int 18))) (.call 38 [V0,N2])) Ho),
 .asg 4 (.ite (.cmp .Eq (.bin .Mod (.bin .FloorDiv V7 N6) N3) N1) N1 (.blt .min [(.bin .Add N1 (.bin .Mod V7 N6)),V9])),
 .fresh 5 (.lst [(.tup [(.con (.str "grant")),(.blt .tuple [(.blt .sorted [(.sl V1 none (some v4))])])])]),
 .if_ (.cmp .Eq (.bin .Mod (.bin .FloorDiv V7 N6) N3) N1) [.for_ [8] (.rng [(.bin .FloorDiv (.bin .Mult sA Y2) (.con (.int 59)))]) [.asg 6 (.blt .sorted [(.compR [11] 1 [(.blt .min [(.bin .Add N1 (.bin .Mod (.bin .Add V7 V8) N3)),V9])] [] (.ix V1 (.bin .Mod (.bin .Add (.bin .Add sA (.bin .Mult V8 (.bin .Add N1 (.bin .Mod V7 N3)))) xS) V9)))]),
 .exp (.meth .append V5 [(.tup [(.con (.str "hand")),(.ix V1 N0),N1,(.bin .Add N1 (.bin .Mod (.bin .Add V7 V8) BZ)),(.blt .tuple [v6])])])]] [],
 .if_ (.cmp .Eq (.bin .Mod (.bin .FloorDiv V7 N6) N3) N2) [.for_ [8] (.rng [(.bin .FloorDiv (.bin .Mult sA Y3) (.con (.int 59)))]) [.exp (.meth .append V5 [(.tup [(.con (.str "follow")),(.ix V1 (.bin .Mod V8 V9)),(.ix V1 (.bin .Mod (.bin .Add (.bin .Add V8 N1) (.bin .Mod V7 N5)) V9))])])]] [],
 .ret V5]
noncomputable def NC : List S := [.for_ [3] (.rng [(.blt .len [V0])]) [.asg 4 (.bin .Mod (.bin .Add V1 Y3) (.blt .len [V0])),
 .if_ (.and_ (.cmp .NotEq (.ix (.ix V0 v4) N1) (.tup [(.con (.str "CROWN"))])) (.cmp .Eq (.cmp .Eq (.blt .len [(.ix (.ix V0 v4) N1)]) N1) Y2)) [.ret v4] []],
 .ret (.bin .Mod V1 (.blt .len [V0]))]
noncomputable def uI : List S := [.asg 4 (.bin .Mod V0 BZ),
 .asg 5 (.bin .FloorDiv V0 BZ),
 .if_ (.cmp .Lt v4 N3) [.ret (.lst [(.con (.str "hand")),(.ix (.lst [V1,(.bin .Mult (.con (.str "z")) JV),(.con (.str "CROWN"))]) v4),(.ix (.lst [N1,N0,(.bin .Add Y3 N1)]) (.bin .Mod V5 N3)),N5,(.lst [Y2])])] [],
 .if_ (.cmp .Eq v4 N3) [.ret (.lst [(.con (.str "hand")),V1,(.bin .Add N1 (.bin .Mod V5 Y3)),(.ix (.lst [N0,(.con (.int 21)),(.neg N1),(.bin .Pow Lw MV)]) (.bin .Mod V5 N4)),(.lst [Y2])])] [],
 .if_ (.cmp .Eq v4 N4) [.ret (.lst [(.con (.str "sever")),V1,(.ix (.lst [N0,(.bin .Add Y3 N1),(.neg N1),(.bin .Pow Lw MV)]) (.bin .Mod V5 N4))])] [],
 .if_ (.cmp .Eq v4 N5) [.ret (.lst [(.con (.str "sever")),V1,(.bin .Add N1 (.bin .Mod V5 Y3))])] [],
 .if_ (.cmp .Eq v4 N6) [.ret (.lst [(.con (.str "grant")),(.lst [V1])])] [],
 .if_ (.cmp .Eq v4 (.con (.int 7))) [.ret (.lst [(.con (.str "die")),(.ix (.lst [(.lst []),(.lst [V1,V1]),(.lst [V1,(.bin .Mult (.con (.str "a")) JV)]),(.lst [Y2,(.con (.str ""))])]) (.bin .Mod V5 N4))])] [],
 .if_ (.cmp .Eq v4 (.con (.int 8))) [.ret (.lst [(.con (.str "hand")),V1,N1,qB,(.ix (.lst [(.lst []),(.lst [Y2,Y2]),(.compR [6] 1 [JV,qB] [] (.bin .Mult (.con (.str "b")) v6))]) (.bin .Mod V5 N3))])] [],
 .if_ (.cmp .Eq v4 (.con (.int 9))) [.ret (.lst [(.con (.str "follow")),V1,(.ix (.lst [(.con (.str "CROWN")),(.con (.str "")),(.bin .Mult (.con (.str "c")) JV)]) (.bin .Mod V5 N3))])] [],
 .if_ (.cmp .Eq v4 Lw) [.ret (.lst [(.con (.str "hand")),V1,N1,(.bin .Add N1 (.bin .Mod V5 qB)),(.lst [Y2,(.bin .Mult (.con (.str "d")) JV)])])] [],
 .ret (.lst [(.con (.str "follow")), (.ix (.lst [Y2, (.bin .Mult (.con (.str "e")) JV)]) (.bin .Mod V5 N2)), V1])]
noncomputable def uD : List S := [.asg 13 (.compS [16] 1 Y3 [(.or_ (.cmp .NotIn xJ v4) (.cmp .Eq (.bin .Mod V1 (.con (.int 17))) (.con (.int 16))))] xJ),
 .if_ (.cmp .Eq sm (.lst [])) [.asg 13 (.blt .list [Y3])] [],
 .asg 15 (.bin .Add (.bin .FloorDiv V0 (.con (.int 24))) Y2),
 .asg 6 (.bin .Mod V0 (.con (.int 24))),
 .asg 7 (.ix sm (.bin .Mod KZ (.blt .len [sm]))),
 .asg 8 (.ix sm (.bin .Mod (.bin .Add (.bin .Add KZ N1) (.bin .FloorDiv V1 N2)) (.blt .len [sm]))),
 .if_ (.or_ (.cmp .Eq v6 (.con (.int 9))) (.or_ (.cmp .Eq v6 (.con (.int 18))) (.cmp .Eq V5 (.lst [])))) [.ret (.call 45 [V1,V7,V8,(.blt .max [N1,(.blt .len [V5])])])] [],
 .if_ (.or_ (.cmp .Eq (.bin .Mod v6 N5) N3) (.cmp .Eq v6 (.con (.int 19)))) [.ret (.lst [(.con (.str "follow")),V7,V8])] [],
 .if_ (.cmp .Eq v6 N4) [.ret (.lst [(.con (.str "die")),(.lst [(.ix (.ix (.ix V5 (.bin .Mod V1 (.blt .len [V5]))) N1) N0)])])] [],
 .if_ (.cmp .Eq v6 Lw) [.asg 14 (.ix (.ix V5 (.call 44 [V5,V1,(.con (.bl false))])) N1),
 .ret (.lst [(.con (.str "die")),(.bin .Add (.lrev GO) (.compS [16] 1 (.sl sm none (some (.bin .Mod (.bin .FloorDiv V1 N3) N3))) [(.cmp .NotIn xJ GO)] xJ))])] [],
 .if_ (.or_ (.cmp .Eq (.bin .Mod v6 N2) N0) (.or_ (.cmp .Eq v6 N5) (.or_ (.cmp .Eq v6 (.con (.int 15))) (.cmp .Eq v6 (.con (.int 21)))))) [.asg 9 (.call 44 [V5,V1,(.con (.bl true))]),
 .asg 10 (.ite (.or_ (.cmp .Eq v6 N5) (.cmp .Eq v6 (.con (.int 15)))) qB (.bin .Add N1 (.bin .Mod (.bin .Add (.bin .FloorDiv V1 N4) Y2) qB))),
 .asg 11 (.blt .min [(.ix (.lst [N1,N2,N3,N3,N1,N6]) (.bin .Mod (.bin .FloorDiv v6 N4) N6)),(.blt .len [sm])]),
 .asg 12 (.compR [16] 1 [xS] [] (.ix sm (.bin .Mod (.bin .Add (.bin .Add KZ V1) xJ) (.blt .len [sm])))),
 .ret (.lst [(.con (.str "hand")),(.ix (.ix (.ix V5 V9) N1) N0),(.bin .Add V9 N1),sA,HF])] [],
 .asg 9 (.call 44 [V5,V1,(.con (.bl false))]),
 .ret (.lst [(.con (.str "sever")), (.ix (.ix (.ix V5 V9) N1) (.bin .Mod (.bin .Add (.bin .FloorDiv V1 N3) Y2) (.blt .len [(.ix (.ix V5 V9) N1)]))), (.bin .Add V9 N1)])]
def Sb:List S:=vh 30 32 29 31 33
def Rr:List S:=ND 47 [0,1,2,3,4,5,6,7,8,9,10,11]
def QV : List S := [.asg 1 (.con (.str "")),
 .tryR (.mth 34 V0 []) [(11,.asg 1 (.str "NothingDone"))],
 .ret (.tup [V1])]
def RE:List S:=vX
def SJ:List S:=AF 51
noncomputable def NJ : List S := [.freshD 1,
 .asg 2 (.lst []),
 .for_ [3] (.seq V0) [.if_ (.cmp .Eq (.ix Y3 N0) (.con (.str "follow"))) [.setix V1 (.ix Y3 N1) (.ix Y3 N2)] [],
 .if_ (.cmp .Eq (.ix Y3 N0) (.con (.str "die"))) [.asg 2 (.bin .Add Y2 (.blt .list [(.ix Y3 N1)]))] []],
 .ret (.lst [V1, Y2])]
noncomputable def Gv : List S := [.if_ (.cmp .Eq (.bin .Mod V1 (.con (.int 24))) (.con (.int 11))) [.asg 7 (.ite (.cmp .Gt (.blt .len [v6]) N0) (.ix v6 (.neg N1)) (.tup [(.con (.str "NothingDone"))])),
 .ret (.ite (.call 51 [(.call 49 [V0]),V7]) (.blt .list [(.sl v6 none (some (.neg N1)))]) (.con .non))] [],
 .asg 8 (.call 46 [V1,Y2,Y3,v4,(.ix (.call 52 [v6]) N1),V5]),
 .asg 9 (.call 48 [V0,V8]),
 .if_ (.isi V9 [.tuple]) [.ret (.ite (.cmp .Eq (.blt .len [V9]) N1) (.blt .list [v6]) (.con .non))] [],
 .ret (.ite (.call 51 [V9, (.bin .Add (.blt .len [v6]) N1)]) (.bin .Add v6 (.lst [(.call 50 [V8])])) (.con .non))]
noncomputable def GF : List S := [.if_ (.or_ (.cmp .Eq (.ix V0 N0) (.con (.str "sever"))) (.cmp .Eq (.ix V0 N0) (.con (.str "hand")))) [.ret (.cmp .Eq (.ix V0 N2) V1)] [],
 .ret (.and_ (.cmp .Eq (.ix V0 N0) (.con (.str "die"))) (.cmp .Gt (.blt .len [(.compS [3] 1 Y2 [(.cmp .In Y3 (.ix V0 N1))] Y3)]) N0))]
noncomputable def NX : List S := [.asg 4 (.ix V0 N2),
 .asg 5 (.ix V1 N2),
 .if_ (.or_ (.cmp .NotEq (.blt .len [V5]) (.bin .Add (.blt .len [v4]) N1)) (.not_ (.call 51 [(.sl V5 none (some (.neg N1))),v4]))) [.ret (.con (.bl false))] [],
 .ret (.call 51 [(.ix V5 (.neg N1)), (.tup [Y3, Y2, (.ix V1 N0), (.ix V1 N1)])])]
noncomputable def xf : List S := [.asg 4 (.bin .Sub (.blt .len [V1]) (.blt .len [V0])),
 .if_ (.or_ (.and_ (.cmp .Eq (.ix Y2 N0) (.con (.str "sever"))) (.cmp .NotEq v4 N1)) (.and_ (.cmp .Eq (.ix Y2 N0) (.con (.str "follow"))) (.cmp .NotEq v4 N0))) [.ret (.con (.bl false))] [],
 .if_ (.and_ (.cmp .Eq (.ix Y2 N0) (.con (.str "hand"))) (.cmp .NotEq v4 (.blt .int [(.cmp .Lt (.ix Y2 N3) qB)]))) [.ret (.con (.bl false))] [],
 .if_ (.and_ (.cmp .Eq (.ix Y2 N0) (.con (.str "die"))) (.or_ (.cmp .Lt v4 N0) (.and_ (.cmp .Eq (.blt .len [(.ix Y2 N1)]) N1) (.cmp .Gt v4 N0)))) [.ret (.con (.bl false))] [],
 .for_ [5] (.rng [(.blt .len [V0])]) [.if_ (.call 54 [Y2,(.bin .Add V5 N1),(.ix (.ix V0 V5) N1)]) [.if_ (.or_ (.cmp .Eq (.ix (.ix V0 V5) N1) (.tup [(.con (.str "CROWN"))])) (.not_ (.call 55 [(.ix V0 V5),(.ix V1 V5),(.bin .Add V5 N1),Y3]))) [.ret (.con (.bl false))] []] [.if_ (.not_ (.call 51 [(.ix V1 V5),(.ix V0 V5)])) [.ret (.con (.bl false))] []]],
 .for_ [5] (.rng [(.blt .len [V0]),(.blt .len [V1])]) [.unp [6,7,8] (.ix V1 V5),
 .if_ (.or_ (.cmp .Lt (.blt .len [V8]) N2) (.not_ (.call 51 [(.ix V8 (.neg N1)),(.tup [Y3,(.bin .Add V5 N1),v6,V7])]))) [.ret (.con (.bl false))] []],
 .ret (.con (.bl true))]
noncomputable def HG : List S := [.asg 1 (.ix (.lst [(.bin .Add N1 (.bin .Mod (.call 38 [V0, N0]) BZ)), MV]) (.blt .int [(.cmp .Eq (.bin .Mod (.bin .FloorDiv (.call 38 [V0, N0]) BZ) N5) N1)])),
 .asg 2 (.call 39 [V1,(.bin .Mod (.call 38 [V0,N1]) (.con (.int 363))),(.bin .Mod (.call 38 [V0,N2]) (.con (.int 676)))]),
 .asg 3 (.call 2023 [(.blt .list [Y2])]),
 .asg 4 (.call 43 [V0,Y2,qB,(.con (.int 40))]),
 .for_ [5] (.rng [(.blt .len [v4])]) [.if_ (.not_ (.call 51 [(.call 48 [Y3,(.ix v4 V5)]),(.bin .Add V5 N1)])) [.ret (.con (.bl false))] []],
 .for_ [5] (.rng2 false N4 (.bin .Sub (.blt .min [(.blt .len [V0]),Ho]) N1)) [.asg 6 (.mth 35 Y3 []),
 .if_ (.not_ (.call 42 [v6])) [.ret (.con (.bl false))] [],
 .asg 7 v4,
 .asg 4 (.call 53 [Y3,(.ix V0 V5),(.ix V0 (.bin .Add V5 N1)),V5,Y2,v6,v4]),
 .asg 8 (.mth 35 Y3 []),
 .if_ (.or_ (.cmp .Is v4 (.con .non)) (.not_ (.call 42 [V8]))) [.ret (.con (.bl false))] [],
 .if_ (.and_ (.cmp .Eq (.blt .len [v4]) (.blt .len [V7])) (.not_ (.call 51 [V8,v6]))) [.ret (.con (.bl false))] [],
 .if_ (.and_ (.cmp .Gt (.blt .len [v4]) (.blt .len [V7])) (.cmp .Gt (.blt .len [V7]) N0)) [.if_ (.not_ (.call 56 [v6,V8,(.ix v4 (.neg N1)),(.blt .len [v4])])) [.ret (.con (.bl false))] []] []],
 .ret (.or_ (.cmp .Eq (.blt .len [v4]) N0) (.cmp .Gt (.blt .len [(.mth 35 Y3 [])]) N0))]
noncomputable def tb:List Fn:=[⟨1,1,b0,none⟩,⟨1,1,b1,none⟩,⟨1,2,b2,none⟩,⟨3,3,b3,none⟩,⟨2,2,b4,none⟩,⟨2,3,b5,none⟩,⟨3,4,b6,none⟩,⟨3,5,b7,none⟩,⟨2,3,b8,none⟩,⟨2,3,b9,none⟩,⟨3,3,RL,none⟩,⟨5,5,RH,none⟩,⟨1,1,Rt,none⟩,⟨2,2,QG,none⟩,⟨3,4,R9,none⟩,⟨1,1,QD,none⟩,⟨4,5,Rq,none⟩,⟨5,14,SF,none⟩,⟨4,5,Ra,none⟩,⟨5,11,Se,none⟩,⟨6,8,SE,none⟩,⟨4,12,Ru,none⟩,⟨5,5,[],some (0,Rg)⟩,⟨2,2,[],some (1,Rz)⟩,⟨1,1,Sk,none⟩,⟨1,1,QJ,none⟩,⟨2,2,QA,none⟩,⟨1,1,QK,none⟩,⟨5,6,Rn,none⟩,⟨2,4,Sj,none⟩,⟨3,5,S5,none⟩,⟨5,8,SH,none⟩,⟨3,5,QB,none⟩,⟨2,5,Rf,none⟩,⟨1,1,R6,none⟩,⟨1,1,Q9,none⟩,(Q5.fn gl).getD ⟨0,0,[],none⟩,(Qs.fn gl).getD ⟨0,0,[],none⟩,⟨2,2,SG,none⟩,⟨3,10,Ry,none⟩,⟨1,2,Sv,none⟩,⟨1,2,Sz,none⟩,⟨1,2,RA,none⟩,⟨4,11,rE,none⟩,⟨3,5,NC,none⟩,⟨4,6,uI,none⟩,⟨6,16,uD,none⟩,⟨2,3,Sb,none⟩,⟨2,5,Rr,none⟩,⟨1,2,QV,none⟩,⟨1,1,RE,none⟩,⟨2,4,SJ,none⟩,⟨1,4,NJ,none⟩,⟨7,10,Gv,none⟩,⟨3,3,GF,none⟩,⟨4,6,NX,none⟩,⟨4,9,xf,none⟩,⟨1,9,HG,none⟩]
theorem M8:xK ds gl=tb:=by rfl
abbrev FW:Nat:=2^2010
theorem md{x C:Int}{n:Nat}{hh}(e:x.fmod C=n)(c:C≠0):dQ .Mod (.int x) (.int C) hh=.ok (.int n) hh:=(jV hh c).trans (by rw[e])
theorem dv{x C:Int}{hh}(h1:C≠0)(h2:C.natAbs.log2<9000):dQ .FloorDiv (.int x) (.int C) hh=.ok (.int (x.fdiv C)) hh:=yj hh h1 h2
theorem jy{l:List W}{Q:W->Prop}(q:∀w∈l,Q w){k:Nat}(hk:k<l.length):∃w,Q w/\∀hh,cU (.lst l) (.int k) hh=.ok w hh:=⟨l[k],q _ (zZ hk),λhh=>cD rfl (zK hk)⟩
theorem vT{a b:Bool}{h}:bD .Eq (.bl a) (.bl b) h=.ok (.bl (decide (a=b))) h:=by cases a<;>cases b<;>rfl
theorem FN{i:Nat}{body:ai->aa->Res Fl}{h:aa}{Q:W->Prop}{Iv:ai->Prop}(st:∀(k:Nat) σ,Iv σ->(∃w,Q w/\body (σ.set i (some (.int k))) h=.ok (.ret w) h)\/∃σ2,body (σ.set i (some (.int k))) h=.ok (.nx σ2) h/\Iv σ2):∀(ks:List Nat) (σ:ai),Iv σ ->
  (∃w,Q w/\fo [i] body (ks.map λ(k:Nat)=>W.int (0+(k:Int))) σ h=.ok (.ret w) h)\/∃σ2,fo [i] body (ks.map λ(k:Nat)=>W.int (0+(k:Int))) σ h=.ok (.nx σ2) h/\Iv σ2
 |[],σ,q=>.inr ⟨σ,by rw[zzl,fo],q⟩
 |k::ks,σ,q=>by rw[zR,Int.zero_add];rcases st k σ q with⟨w,q,e⟩|⟨σ2,e,q⟩;exact .inl ⟨w,q,JA rfl e⟩;rcases FN st ks σ2 q with⟨w,q,z⟩|⟨σ3,z,q⟩;exact .inl ⟨w,q,(fZ rfl e).trans z⟩;exact .inr ⟨σ3,(fZ rfl e).trans z,q⟩
noncomputable abbrev QQ : List S := [.asg 4 (.bin .Mod (.bin .Add V1 Y3) (.blt .len [V0])),
 .if_ (.and_ (.cmp .NotEq (.ix (.ix V0 v4) N1) (.tup [(.con (.str "CROWN"))])) (.cmp .Eq (.cmp .Eq (.blt .len [(.ix (.ix V0 v4) N1)]) N1) Y2)) [.ret v4] []]
theorem Mc{h:aa}{xs:List Pt}{n:Nat}(hxs:∀x∈xs,x.R n)(x0:0<xs.length)(x60:xs.length<=60)(d:Nat)(b:Int)(al:Bool):∃j,∃_:j<xs.length,ae FW tb (d+1) 44 [.lst (xs.map aJ),.int b,.bl al] h=.ok (.int (j:Nat)) h:=by
 rw[ah (g:=⟨3,5,NC,none⟩) rfl rfl];generalize ae FW tb d=cf;have lp:=FN (i:=3) (body:=a9 cf FW QQ) (h:=h) (Q:=λw=>∃j,∃_:j<xs.length,w=.int (j:Nat)) (Iv:=λτ=>∃r3 r4,τ=[some (.lst (xs.map aJ)),some (.int b),some (.bl al),r3,r4]) (λk τ hτ=>by
  obtain⟨r3,r4,rfl⟩:=hτ
  obtain⟨i,ei,hi⟩:=aQ (b+(k:Int)) x0
  have nt:=Nd (h:=h) (us:=[bc]) (hxs _ (zZ hi)).nm (by simpa using gR)
  simp_arith at nt
  by_cases g:B4 xs[i].hs [bc]=false/\decide (xs[i].hs.length=1)=al
  ·exact .inl ⟨_,⟨i,hi,rfl⟩,by simp! [md ei (show(xs.length:Int)≠0 by lia),show cU (.lst (xs.map aJ)) (.int i) h=_ from cD rfl (oP hi),show Str.ofString "CROWN"=bc from rfl,nt,vT,g.1,g.2]⟩
  ·exact .inr ⟨_,by simp! [md ei (show(xs.length:Int)≠0 by lia),show cU (.lst (xs.map aJ)) (.int i) h=_ from cD rfl (oP hi),show Str.ofString "CROWN"=bc from rfl,nt,vT,g];rfl,_,_,rfl⟩) (List.range xs.length) [some (.lst (xs.map aJ)),some (.int b),some (.bl al),none,none] ⟨_,_,rfl⟩
 rcases lp with⟨w,⟨j,hj,rfl⟩,lp⟩|⟨τ,lp,r3,r4,rfl⟩;exact⟨j,hj,by simp! [NC,wj (show xs.length<2^62 by lia),lp,pj]⟩;obtain⟨i,ei,hi⟩:=aQ b x0;exact⟨i,hi,by simp! [NC,wj (show xs.length<2^62 by lia),lp,md ei (show(xs.length:Int)≠0 by lia),pj]⟩
theorem pR{c:Str}(hl:c.length<=1000){hh:aa}:dQ .Mult (.str c) (.int 13) hh=.ok (.str (Txt.mul c 13)) hh:=kQ (n:=13) hh hl zD
theorem xB{cf:CF}{is:List Nat}{n a b:Nat}{elt:E}{σ:ai}{h:aa}{F:Nat->W}(ha:a<=b)(hm:b<=1000)(hF:∀k,k<b->ar (F k)=true/\∀hh,cK (aV is (aw k) (kE is σ++List.replicate n none)) (cg cf []) (af cf elt) hh=.ok (some (F k)) hh):af cf (.compR is n [.con (aw a),.con (aw b)] [] elt) σ h=.ok (.lst ((List.range (b-a)).map λk=>F (a+k))) h:=by
 rw[af,aq ax (aq ax aA),ag];have hr:kG [aw a,aw b]=some ((List.range (b-a)).map λk=>aw (a+k)):=by rw[cQ];unfold jR;dsimp only;rw[zF zL,show((b:Int)-(a:Int)).toNat=b-a by lia];exact congrArg some (zzh λk _=>by show W.int ((a:Int)+(k:Int))=W.int ((a+k:Nat):Int);rw[Int.natCast_add])
 rw[hr];dsimp only;rw[mi (F:=λw=>match w with|.int i=>F i.toNat|_=>.non) rfl (λk e=>by cases e) _ [] ?_ (by simp;lia),fq rfl];rw[Z7];rfl;intro w hw us;obtain⟨k,hk,rfl⟩:=Zs.mp hw;have:=hF (a+k) (by have:=ZE.mp hk;lia);exact⟨this.2 _,this.1⟩
def MD(x:W):Prop:=∃ss:List Str,x=.lst (ss.map W.str)/\ss.length<64/\∀s∈ss,aE s
def Iz(x:W):Prop:=∃z:Int,x=.int z/\z.natAbs<10^100
def Px(x:W):Prop:=∃s,x=.str s/\aE s
theorem y9:∀c∈(["z","a","c","d","e"]:List Str),aE (Txt.mul c 13):=by unfold aE vi;decide +kernel
theorem Rp:∀k<20,aE (Txt.mul "b" (k:Nat)):=by unfold aE vi;decide +kernel
theorem Qm:aE "":=by unfold aE vi;decide
theorem gI{z:Int}(h:z.natAbs<100):z.natAbs<10^100:=zG h zD
theorem pw{hh}:dQ .Pow (.int 10) (.int 30) hh=.ok (.int (10^30)) hh:=by show(if 0<=(30:Int)/\(30:Int)<=1000000/\(10:Int).natAbs<2^64 then jB (10^(30:Int).toNat) hh else .stuck)=_;rw[zF zD];rfl
theorem M4{h:aa}(d:Nat)(b:Int){w o:Str}(nw:aE w)(no:aE o)(c:Nat)(c1:1<=c)(c60:c<=60):∃D:Dd,D.Fit/\ae FW tb (d+1) 45 [.int b,.str w,.str o,.int c] h=.ok D.L h:=by
 rw[ah (g:=⟨4,6,uI,none⟩) rfl rfl];generalize ae FW tb d=cf;suffices hh:∃D:Dd,D.Fit/\a9 cf FW uI [some (.int b),some (.str w),some (.str o),some (.int c),none,none] h=.ok (.ret D.L) h by obtain⟨D,f,e⟩:=hh;exact⟨D,f,bC (x:=a9 cf FW uI [some (.int b),some (.str w),some (.str o),some (.int c),none,none] h) e (k6 (j6 D (aC _)))⟩
 obtain⟨r,er,hr⟩:∃n:Nat,b.fmod 12=n/\n<12:=aQ _ zD;obtain⟨r3,e3,h3⟩:∃n:Nat,(b.fdiv 12).fmod 3=n/\n<3:=aQ _ zD;obtain⟨r4,e4,h4⟩:∃n:Nat,(b.fdiv 12).fmod 4=n/\n<4:=aQ _ zD;obtain⟨rc,ec,hc⟩:∃n:Nat,(b.fdiv 12).fmod c=n/\n<c:=aQ _ c1;obtain⟨r20,e20,h20⟩:∃n:Nat,(b.fdiv 12).fmod 20=n/\n<20:=aQ _ zD;obtain⟨r2,e2,h2⟩:∃n:Nat,(b.fdiv 12).fmod 2=n/\n<2:=aQ _ zD;have M {hh}:dQ .Mod (.int b) (.int 12) hh=.ok (.int r) hh:=md er zD;have D {hh}:dQ .FloorDiv (.int b) (.int 12) hh=.ok (.int (b.fdiv 12)) hh:=dv zD zD;have one:∀s∈[o],aE s:=by simpa using no
 have L {x y u v:W}{Q:W->Prop} (a:Q x) (b:Q y) (c:Q u) (d:Q v):∀w∈[x,y,u,v],Q w:=by simpa using⟨a,b,c,d⟩
 have L3 {x y u:W}{Q:W->Prop} (a:Q x) (b:Q y) (c:Q u):∀w∈[x,y,u],Q w:=by simpa using⟨a,b,c⟩
 have T1 {hh}:=pR (c:="z") zD (hh:=hh);have T2 {hh}:=pR (c:="a") zD (hh:=hh);have T3 {hh}:=pR (c:="c") zD (hh:=hh);have T4 {hh}:=pR (c:="d") zD (hh:=hh);have T5 {hh}:=pR (c:="e") zD (hh:=hh);have Ci {x y:Str} (hx:aE x) (hy:aE y):∀s∈[x,y],aE s:=by simpa using⟨hx,hy⟩
 by_cases q3:r<3;obtain⟨_,⟨s,rfl,ns⟩,es⟩:=jy (L3 (Q:=Px) ⟨w,rfl,nw⟩ ⟨Txt.mul "z" 13,rfl,y9 _ zS⟩ ⟨"CROWN",rfl,gR⟩) q3;obtain⟨_,⟨z,rfl,nz⟩,ez⟩:=jy (L3 (Q:=Iz) ⟨1,rfl,zD⟩ ⟨0,rfl,zD⟩ ⟨(c+1:Nat),rfl,gI zL⟩) h3;exact⟨.hand s z 5 [o],⟨ns,nz,zD,zS,one⟩,by simp! [uI,M,D,q3,md e3 zD,T1,es,ez];rfl⟩;obtain⟨_,⟨z,rfl,nz⟩,ez⟩:=jy (L (Q:=Iz) ⟨0,rfl,zD⟩ ⟨(c+1:Nat),rfl,gI zL⟩ ⟨-1,rfl,zD⟩ ⟨10^30,rfl,zD⟩) h4
 match r,hr with
 |3,_ =>
  obtain⟨_,⟨z,rfl,nz⟩,ez⟩:=jy (L (Q:=Iz) ⟨0,rfl,zD⟩ ⟨21,rfl,zD⟩ ⟨-1,rfl,zD⟩ ⟨10^30,rfl,zD⟩) h4
  exact⟨.hand w (1+(rc:Int)) z [o],⟨nw,gI zL,nz,zS,one⟩,by simp_arith at M;simp! [Nat.reduceLT,Int.reduceLT,Int.reduceEq,uI,M,D,md ec (show(c:Int)≠0 by lia),md e4 zD,pw,ez];rfl⟩
 |4,_=>exact⟨.sever w z,⟨nw,nz⟩,by simp_arith at M;simp! [Nat.reduceLT,Int.reduceLT,Int.reduceEq,uI,M,D,md e4 zD,pw,ez];rfl⟩
 |5,_=>exact⟨.sever w (1+(rc:Int)),⟨nw,gI zL⟩,by simp_arith at M;simp! [Nat.reduceLT,Int.reduceLT,Int.reduceEq,uI,M,D,md ec (show(c:Int)≠0 by lia)];rfl⟩
 |6,_=>exact⟨.grant [w],⟨zS,by simpa using nw⟩,by simp_arith at M;simp! [Nat.reduceLT,Int.reduceLT,Int.reduceEq,uI,M,D];rfl⟩
 |7,_ =>
  obtain⟨_,⟨ss,rfl,hs⟩,ez⟩:=jy (L (Q:=MD) ⟨[],rfl,zS⟩ ⟨[w,w],rfl,zS,Ci nw nw⟩ ⟨[w,Txt.mul "a" 13],rfl,zS,Ci nw (y9 _ zS)⟩ ⟨[o,""],rfl,zS,Ci no Qm⟩) h4
  simp_arith at ez
  exact⟨.die ss,hs,by simp_arith at M;simp! [Nat.reduceLT,Int.reduceLT,Int.reduceEq,uI,M,D,md e4 zD,T2,ez];rfl⟩
 |8,_ =>
  obtain⟨_,⟨ss,rfl,hs⟩,ez⟩:=jy (L3 (Q:=MD) ⟨[],rfl,zS⟩ ⟨[o,o],rfl,zS,Ci no no⟩ ⟨(List.range 7).map λk=>Txt.mul "b" ((13+k:Nat):Int),rfl,zS,λs hs=>by obtain⟨k,hk,rfl⟩:=Zs.mp hs;exact Rp _ (by have:=ZE.mp hk;lia)⟩) h3
  have c:af cf (.compR [6] 1 [JV,qB] [] (.bin .Mult (.con (.str "b")) v6)) [some (.int b),some (.str w),some (.str o),some (.int c),some (.int 8),some (.int (b.fdiv 12))] h=.ok (.lst (((List.range 7).map λk=>Txt.mul "b" ((13+k:Nat):Int)).map W.str)) h:=by
   refine(xB (a:=13) (b:=20) (F:=λj=>.str (Txt.mul "b" (j:Nat))) zD zD (λj hj=>⟨rfl,λhh=>jA rfl (cI ax (av (i:=6) rfl) (kQ (x:="b") _ zD zL))⟩)).trans (by rw[Z7];rfl)
  generalize (List.range 7).map (λk=>Txt.mul "b" ((13+k:Nat):Int))=B at *
  simp_arith at ez
  exact⟨.hand w 1 20 ss,⟨nw,zD,zD,hs⟩,by simp_arith at M;simp! [Nat.reduceLT,Int.reduceLT,Int.reduceEq,uI,M,D,md e3 zD,c,ez];rfl⟩
 |9,_ =>
  obtain⟨_,⟨s,rfl,ns⟩,es⟩:=jy (L3 (Q:=Px) ⟨"CROWN",rfl,gR⟩ ⟨"",rfl,Qm⟩ ⟨Txt.mul "c" 13,rfl,y9 _ zS⟩) h3
  exact⟨.follow w s,⟨nw,ns⟩,by simp_arith at M;simp! [Nat.reduceLT,Int.reduceLT,Int.reduceEq,uI,M,D,md e3 zD,T3,es];rfl⟩
 |10,_=>exact⟨.hand w 1 (1+(r20:Int)) [o,Txt.mul "d" 13],⟨nw,zD,gI zL,zS,Ci no (y9 _ zS)⟩,by simp_arith at M;simp! [Nat.reduceLT,Int.reduceLT,Int.reduceEq,uI,M,D,md e20 zD,T4];rfl⟩
 |11,_ =>
  obtain⟨_,⟨s,rfl,ns⟩,es⟩:=jy (l:=[.str o,.str (Txt.mul "e" 13)]) (Q:=Px) (by simpa using⟨⟨o,rfl,no⟩,_,rfl,y9 _ zS⟩) h2
  exact⟨.follow s w,⟨ns,nw⟩,by simp_arith at M;simp! [Nat.reduceLT,Int.reduceLT,Int.reduceEq,uI,M,D,md e2 zD,T5,es];rfl⟩
 |0,h|1,h|2,h=>lia
structure Tl (x:Pt):Prop where
 t0:0<x.tr.length
 ok:dH x.tr=true
 ly:PyData.canLayAll0 (bO x.tr)=true
 dp:PyData.depthAll (bO x.tr)<=9
theorem vN:∀us vs:List W,dH (us++vs)=(dH us&&dH vs)
 |[],vs=>by simp[dH]
 |u::us,vs=>by rw[Z4,dH,dH,vN us vs,Bool.and_assoc]
theorem oZ:∀us vs:List W,bO (us++vs)=bO us++bO vs
 |[],vs=>by simp[bO]
 |u::us,vs=>by rw[Z4,bO,bO,oZ us vs,Z4]
theorem BF:∀us vs:List PyData,PyData.canLayAll0 (us++vs)=(PyData.canLayAll0 us&&PyData.canLayAll0 vs)
 |[],vs=>by simp[PyData.canLayAll0]
 |u::us,vs=>by rw[Z4,PyData.canLayAll0,PyData.canLayAll0,BF us vs,Bool.and_assoc]
theorem A7:∀us vs:List PyData,PyData.depthAll (us++vs)<=max (PyData.depthAll us) (PyData.depthAll vs)
 |[],vs=>Nat.le_max_right ..
 |u::us,vs=>by have:=A7 us vs;simp only[Z4,PyData.depthAll];lia
theorem Tl.bh{tr:List W}{dd nn:Nat}{s:Nat×Nat}{hs:List Str}(o:dH tr=true)(l:PyData.canLayAll0 (bO tr)=true)(d:PyData.depthAll (bO tr)<=9)(nm:∀s∈hs,aE s):Tl (je tr dd nn s hs):=by refine⟨by simp[je],?_,?_,?_⟩;show dH (tr++_)=true;rw[vN,o];simp[dH,rT,fF];show PyData.canLayAll0 (bO (tr++_))=true;rw[oZ,BF,l];simp[bO,fz,PyData.canLayAll0,PyData.canLay0,gB nm];show PyData.depthAll (bO (tr++_))<=9;rw[oZ];refine zf (A7 _ _) (Nat.max_le.mpr ⟨d,?_⟩);simp[bO,fz,PyData.depthAll,PyData.depth,fg]
theorem Hg{h:aa}{xs:List Pt}{n:Nat}(hxs:∀x∈xs,x.R n)(ht:∀x∈xs,Tl x):bD .Eq (.lst (xs.map aJ)) (.lst []) h=.ok (.bl (decide (xs=[]))) h:=by
 have a:dH (xs.map aJ)=true/\PyData.canLayAll0 (bO (xs.map aJ))=true/\PyData.depthAll (bO (xs.map aJ))<=11:=by
  induction xs with
  |nil=>simp[dH,bO,PyData.canLayAll0,PyData.depthAll]
  |cons x xs ih =>
   obtain⟨i1,i2,i3⟩:=ih (λy hy=>hxs y (zo _ hy)) (λy hy=>ht y (zo _ hy))
   have r:=hxs x zQ
   have t:=ht x zQ
   have:=t.dp
   refine⟨by simp[dH,i1,aJ,rT,fF,t.ok],by simp[bO,PyData.canLayAll0,i2,aJ,fz,PyData.canLay0,gB r.nm,t.ly],?_⟩
   simp only[zR,bO,PyData.depthAll,aJ,fz,PyData.depth,fg]
   lia
 have s:SeqAt.shaped (fz (.lst (xs.map aJ)))=true:=by
  rw[fz]
  unfold SeqAt.shaped
  rw[PyData.canLay0,a.2.1,PyData.depth,z0 zL];rfl
 have s0:SeqAt.shaped (fz (.lst []))=true:=rfl
 show(match sr h (.lst (xs.map aJ)) (.lst []) with|some b=>fH b h|none=>.stuck)=_
 have e:sr h (.lst (xs.map aJ)) (.lst [])=some (decide (xs=[])):=by
  simp only[sr,cH,rT,a.1,dH,s,s0,if_true,Bool.and_self]
  cases xs<;>simp[fz,bO,PyData.eqv,PyData.eqvAll]
 rw[e];rfl
noncomputable abbrev dS(a b:Int)(k:Nat)(P G:List Str)(xs:List Pt)(r6 r7 r8 r9 r10 r11 r12 r13 r14 r15:Option W):ai:=[some (.int a),some (.int b),some (.int k),some (.lst (P.map W.str)),some (.lst (G.map W.str)),some (.lst (xs.map aJ)),r6,r7,r8,r9,r10,r11,r12,r13,r14,r15]
theorem vx{us:List W}{k:Nat}{h:aa}:FA (.lst us) none (some (k:Int)) h=.ok (.lst (us.take k)) h:=by show Res.ok (W.lst (k8 us none (some ((k:Nat):Int)))) h=_;unfold k8;rw[HT.sIx_none,HT.sIx_nat];by_cases q:k<=us.length;rw[Nat.min_eq_left q];simp;rw[Nat.min_eq_right zL];simp[zzS (show us.length<=k by lia)]
theorem uP(x y:Nat)(hh:aa):bK .min [.int x,.int y] hh=.ok (.int (min x y:Nat)) hh:=by show jB (if(y:Int)<(x:Int) then(y:Int) else x) hh=_;by_cases q:y<x;rw[zF zL,Nat.min_eq_right zL];rfl;rw[zP zL,Nat.min_eq_left zL];rfl
theorem Ny{h:aa}{P G:List Str}{xs:List Pt}{n:Nat}(d:Nat)(a b:Int)(k:Nat)(p0:0<P.length)(p30:P.length<=30)(nP:∀y∈P,aE y)(hxs:∀x∈xs,x.R n)(ht:∀x∈xs,Tl x)(x60:xs.length<=60) :
  ∃D:Dd,D.Fit/\ae FW tb (d+2) 46 [.int a,.int b,.int k,.lst (P.map W.str),.lst (G.map W.str),.lst (xs.map aJ)] h=.ok D.L h:=by
 have pk:=λ(x0:0<xs.length) (al:Bool)=>Mc (h:=h) hxs x0 x60 d b al
 have sy:=λ{w o:Str} (nw:aE w) (no:aE o)=>M4 (h:=h) d b nw no (max 1 xs.length) zL zL
 rw[ah (g:=⟨6,16,uD,none⟩) rfl rfl]
 generalize ae FW tb (d+1)=cf at *
 suffices hh:∃D:Dd,D.Fit/\a9 cf FW uD (dS a b k P G xs none none none none none none none none none none) h=.ok (.ret D.L) h by obtain⟨D,f,e⟩:=hh;exact⟨D,f,bC (x:=a9 cf FW uD (dS a b k P G xs none none none none none none none none none none) h) e (k6 (j6 D (aC _)))⟩
 have mx (hh:aa):bK .max [.int 1,.int xs.length] hh=.ok (.int (max 1 xs.length:Nat)) hh:=by show jB (if(xs.length:Int)>1 then(xs.length:Int) else 1) hh=_;by_cases q:1<xs.length;rw[zF zL,Nat.max_eq_right zL];rfl;rw[zP zL,Nat.max_eq_left zL];rfl
 obtain⟨r,er,hr⟩:∃n:Nat,a.fmod 24=n/\n<24:=aQ _ zD
 obtain⟨r3,e3,h3⟩:∃n:Nat,(b.fdiv 3).fmod 3=n/\n<3:=aQ _ zD
 obtain⟨i20,e20,h20⟩:∃n:Nat,(b.fdiv 4+(k:Int)).fmod 20=n/\n<20:=aQ _ zD
 have M {hh}:dQ .Mod (.int a) (.int 24) hh=.ok (.int r) hh:=md er zD
 have V {hh}:dQ .FloorDiv (.int a) (.int 24) hh=.ok (.int (a.fdiv 24)) hh:=dv zD zD
 have V2 {hh}:dQ .FloorDiv (.int b) (.int 2) hh=.ok (.int (b.fdiv 2)) hh:=dv zD zD
 have V3 {hh}:dQ .FloorDiv (.int b) (.int 3) hh=.ok (.int (b.fdiv 3)) hh:=dv zD zD
 have V4 {hh}:dQ .FloorDiv (.int b) (.int 4) hh=.ok (.int (b.fdiv 4)) hh:=dv zD zD
 have m5 {hh}:dQ .Mod (.int r) (.int 5) hh=.ok (.int (r%5:Nat)) hh:=md (fk r 5) zD
 have m2 {hh}:dQ .Mod (.int r) (.int 2) hh=.ok (.int (r%2:Nat)) hh:=md (fk r 2) zD
 have m4 {hh}:dQ .FloorDiv (.int r) (.int 4) hh=.ok (.int (r/4:Nat)) hh:=(dv zD zD).trans (by rw[show(r:Int).fdiv 4=((r/4:Nat):Int) from jc r 4])
 have m6 {hh}:dQ .Mod (.int (r/4:Nat)) (.int 6) hh=.ok (.int (r/4%6:Nat)) hh:=md (fk (r/4) 6) zD
 have main {A:List Str} (a0:0<A.length) (a30:A.length<=30) (nA:∀y∈A,aE y):∃D:Dd,D.Fit/\a9 cf FW (uD.drop 2) (dS a b k P G xs none none none none none none none (some (.lst (A.map W.str))) none none) h=.ok (.ret D.L) h:=by
  have at_ (z:Int):∃s,aE s/\∃i:Nat,z.fmod (A.length:Int)=i/\∀hh,cU (.lst (A.map W.str)) (.int i) hh=.ok (.str s) hh:=by obtain⟨i,ei,hi⟩:=aQ z a0;exact⟨A[i],nA _ (zZ hi),i,ei,λhh=>cD rfl (by rw[Za,zK hi];rfl)⟩
  have AL:(A.length:Int)≠0:=zL;obtain⟨w,nw,i,ei,gw⟩:=at_ (a.fdiv 24+(k:Int));obtain⟨o,no,j,ej,go⟩:=at_ (a.fdiv 24+(k:Int)+1+b.fdiv 2);obtain⟨D0,f0,g0⟩:=sy nw no;have en:=Hg (h:=h) hxs ht;have big {j:Nat} (hj:j<xs.length):(((j+1:Nat):Int)).natAbs<10^100:=gI zL;have X {i:Nat} (hi:i<xs.length) {hh}:cU (.lst (xs.map aJ)) (.int i) hh=.ok (aJ xs[i]) hh:=cD rfl (oP hi);have X0 {i:Nat} (hi:i<xs.length) {hh}:aE (xs[i].hs[0]'(hxs _ (zZ hi)).h0)/\cU (.tup (xs[i].hs.map W.str)) (.int 0) hh=.ok (.str (xs[i].hs[0]'(hxs _ (zZ hi)).h0)) hh:=⟨(hxs _ (zZ hi)).nm _ (zZ _),rq (k:=0) (hxs _ (zZ hi)).h0 hh⟩;by_cases q1:r=9\/r=18\/xs=[];exact⟨D0,f0,by simp! [uD,Zw,Zz,M,V,V2,md ei AL,md ej AL,gw,go,en,q1,mx,g0]⟩;have x0:0<xs.length:=List.length_pos_iff.mpr λz=>q1 (.inr (.inr z));by_cases q2:r%5=3\/r=19;exact⟨.follow w o,⟨nw,no⟩,by simp! [uD,Zw,Zz,M,V,V2,md ei AL,md ej AL,gw,go,en,q1,m5,q2];rfl⟩;by_cases q3:r=4;obtain⟨i,e,hi⟩:=aQ b x0;exact⟨.die [xs[i].hs[0]'(hxs _ (zZ hi)).h0],⟨zS,by simpa using(X0 hi (hh:=[])).1⟩,by simp! [uD,Zw,Zz,M,V,V2,md ei AL,md ej AL,gw,go,en,q1,m5,q2,eq_true q3,md e (show(xs.length:Int)≠0 by lia),X hi,(X0 hi).2];rfl⟩;obtain⟨j1,l1,p1⟩:=pk x0 true;obtain⟨j2,l2,p2⟩:=pk x0 false;by_cases q4:r=10;have R:=hxs _ (zZ l2);have X2:=X l2 (hh:=h);generalize xs[j2]=x at R X2;obtain⟨hs,ehs⟩:∃hs,x.hs=hs:=⟨_,rfl⟩;have h1:=R.h1;have hnm:=R.nm;rw[ehs]at h1 hnm;let F:=(A.take r3).filter λs=>!aK s hs
  have c1:af cf (.compS [16] 1 (.sl sm none (some (.bin .Mod (.bin .FloorDiv V1 N3) N3))) [(.cmp .NotIn xJ GO)] xJ) (dS a b k P G xs (some (.int r)) (some (.str w)) (some (.str o)) none none none none (some (.lst (A.map W.str))) (some (.tup (hs.map W.str))) (some (.int (a.fdiv 24+k)))) h=.ok (.lst (F.map W.str)) h :=
   jf (p:=λs=>!aK s hs) (ss:=A.take r3) (x:=.lst ((A.take r3).map W.str)) (by simp! [V3,md e3 zD,vx,List.map_take]) rfl (by rw[Zo];lia) (λs _ hh=>pO (av (i:=16) rfl) (av (i:=14) rfl) rfl rfl) (by show 16<17;decide)
  have c2:af cf (.lrev GO) (dS a b k P G xs (some (.int r)) (some (.str w)) (some (.str o)) none none none none (some (.lst (A.map W.str))) (some (.tup (hs.map W.str))) (some (.int (a.fdiv 24+k)))) h=.ok (.lst (hs.reverse.map W.str)) h:=by rw[af,av (i:=14) (w:=.tup (hs.map W.str)) rfl,ag];dsimp only;rw[zF (by rw[zj];lia),List.map_reverse]
  have lF:F.length<=30:=zf (zz3 ..) (by rw[Zo];lia);have ad:dQ .Add (.lst (hs.reverse.map W.str)) (.lst (F.map W.str)) h=.ok (.lst ((hs.reverse++F).map W.str)) h:=(ky (by rw[zj,zj,List.length_reverse];lia)).trans (by rw[zY]);refine⟨.die (hs.reverse++F),⟨by rw[zM,List.length_reverse];lia,λs hs'=>?_⟩,?_⟩;rcases Ze.mp hs' with z|z;exact hnm s (List.mem_reverse.mp z);exact nA s (List.mem_of_mem_take (zzb.mp z).1);simp! [uD,Zw,Zz,M,V,V2,md ei AL,md ej AL,gw,go,en,q1,m5,q2,q3,eq_true q4,p2,X2,ehs,c2,c1,ad];rfl;by_cases q5:r%2=0\/r=5\/r=15\/r=21;obtain⟨tz,ntz,gz⟩:∃tz:Int,tz.natAbs<10^100/\((r=5\/r=15)/\tz=20\/¬(r=5\/r=15)/\tz=1+(i20:Int)):=by by_cases g:r=5\/r=15;exact⟨20,zD,.inl ⟨g,rfl⟩⟩;exact⟨1+(i20:Int),gI zL,.inr ⟨g,rfl⟩⟩
  obtain⟨_,⟨s6,rfl,l6⟩,g6⟩:=jy (l:=[.int 1,.int 2,.int 3,.int 3,.int 1,.int 6]) (Q:=λw=>∃s:Nat,w=.int s/\s<=6) (by simp only[List.forall_mem_cons,Zy,false_imp_iff,implies_true,and_true];exact⟨⟨1,rfl,zD⟩,⟨2,rfl,zD⟩,⟨3,rfl,zD⟩,⟨3,rfl,zD⟩,⟨1,rfl,zD⟩,6,rfl,zD⟩) (k:=r/4%6) (zzc _ zD);let F (j:Nat):Str:=(at_ (a.fdiv 24+(k:Int)+b+(j:Int))).choose;have c1 (r9:Nat):af cf (.compR [16] 1 [xS] [] (.ix sm (.bin .Mod (.bin .Add (.bin .Add KZ V1) xJ) (.blt .len [sm])))) (dS a b k P G xs (some (.int r)) (some (.str w)) (some (.str o)) (some (.int r9)) (some (.int tz)) (some (.int (min s6 A.length:Nat))) none (some (.lst (A.map W.str))) none (some (.int (a.fdiv 24+k)))) h=.ok (.lst (((List.range (min s6 A.length)).map F).map W.str)) h:=by refine(rA (m:=min s6 A.length) (F:=λj=>.str (F j)) (av (i:=11) rfl) zL (λj hj=>⟨rfl,λhh=>?_⟩)).trans (by rw[Z7];rfl);obtain⟨_,i2,e2,e3⟩:=(at_ (a.fdiv 24+(k:Int)+b+(j:Int))).choose_spec;exact jA rfl (du (av (i:=13) rfl) (CV (vq (vq (av (i:=15) rfl) (U1 rfl)) (av (i:=16) rfl)) ((cM (av (i:=13) rfl) rfl).trans (by rw[zj])) a0 e2) (e3 hh))
  refine⟨.hand (xs[j1].hs[0]'(hxs _ (zZ l1)).h0) ((j1+1:Nat):Int) tz ((List.range (min s6 A.length)).map F),⟨(X0 l1 (hh:=[])).1,big l1,ntz,by rw[zj,zzB];lia,λs hs=>?_⟩,?_⟩;obtain⟨j,_,rfl⟩:=Zs.mp hs;exact(at_ (a.fdiv 24+(k:Int)+b+(j:Int))).choose_spec.1;generalize (List.range (min s6 A.length)).map F=B at *;rcases gz with⟨g,rfl⟩|⟨g,rfl⟩<;>simp! [uD,Zw,Zz,M,V,V2,md ei AL,md ej AL,gw,go,en,q1,m5,q2,q3,q4,eq_true q5,m2,m4,m6,V4,md e20 (show(20:Int)≠0 by decide),g,g6,uP,c1,p1,X l1,(X0 l1).2]<;>rfl;have R:=hxs _ (zZ l2);obtain⟨i,e,hi⟩:=aQ (b.fdiv 3+(k:Int)) R.h0;exact⟨.sever xs[j2].hs[i] ((j2+1:Nat):Int),⟨R.nm _ (zZ hi),big l2⟩,by simp! [uD,Zw,Zz,M,V,V2,md ei AL,md ej AL,gw,go,en,q1,m5,q2,q3,q4,q5,m2,V3,md e (show(xs[j2].hs.length:Int)≠0 by have:=R.h0;lia),p2,X l2,show ∀hh,cU (.tup (xs[j2].hs.map W.str)) (.int i) hh=_ from rq hi];rfl⟩
 have wrap {A:List Str} (a0:0<A.length) (a30:A.length<=30) (nA:∀y∈A,aE y) (s2:a9 cf FW uD (dS a b k P G xs none none none none none none none none none none) h=a9 cf FW (uD.drop 2) (dS a b k P G xs none none none none none none none (some (.lst (A.map W.str))) none none) h):∃D:Dd,D.Fit/\a9 cf FW uD (dS a b k P G xs none none none none none none none none none none) h=.ok (.ret D.L) h:=by obtain⟨D,f,e⟩:=main a0 a30 nA;exact⟨D,f,s2.trans e⟩
 obtain⟨i17,e17,_⟩:∃n:Nat,b.fmod 17=n/\n<17:=aQ _ zD
 let p (s:Str):Bool:=!aK s G||decide (i17=16)
 have s1:aL cf FW (.asg 13 (.compS [16] 1 Y3 [(.or_ (.cmp .NotIn xJ v4) (.cmp .Eq (.bin .Mod V1 (.con (.int 17))) (.con (.int 16))))] xJ)) (dS a b k P G xs none none none none none none none none none none) h=.ok (.nx (dS a b k P G xs none none none none none none none (some (.lst ((P.filter p).map W.str))) none none)) h :=
  bV (jf (p:=p) (ss:=P) (U3 rfl) rfl zL (λs _ hh=>bY (by simp! [md e17 (show(17:Int)≠0 by decide)];rfl)) (by show 16<17;decide))
 have t2:=IV (cf:=cf) (us:=[]) (σ:=dS a b k P G xs none none none none none none none (some (.lst ((P.filter p).map W.str))) none none) (h:=h) (av (i:=13) rfl) (iG aA zD) (λs hs=>nP s (zzb.mp hs).1) (λs hs=>nomatch hs)
 by_cases e:P.filter p=[]
 ·rw[z0 e]at t2
  exact wrap p0 p30 nP ((ak s1).trans (ak ((pE t2).trans (Js (uA (U3 rfl))))))
 ·rw[zX e]at t2
  exact wrap (List.length_pos_iff.mpr e) (zf (zz3 ..) p30) (λy hy=>nP y (zzb.mp hy).1) ((ak s1).trans (ak (dk t2)))
variable {R:Rx}{ks P G:List Str}{q q':Sd}{nd n:Nat}{xs:List Pt}{heir:Str->Str}
theorem nZ{a b:Nat}(ha:0<a)(hb:0<b):0<(gy a b).1:=by
 obtain⟨h1,_,h3,_,_⟩:=A2 a b hb
 grind
noncomputable def xT(D:Dd)(k:Nat)(hs:List Str):Bool:=match D with
 |.sever _ z=>decide (z=(k:Int))
 |.hand _ z _ _=>decide (z=(k:Int))
 |.die ss=>hs.any λs=>aK s (srt ss)
 |_=>false
theorem DW{a:Str}{z tz:Int}{ss:List Str}(e:gC R ks q nd a z tz ss=.ok q'):1<=tz/\aK a ks=true/\∀x,q.xs[z.toNat-1]?=some x->x.hs=[a]:=by unfold gC at e;split at e;obtain⟨u,_,h3,e⟩:=dU e;split at e;cases e;split at e;cases e;rename_i x ex;split at e;cases e;rename_i g;split at e;cases e;rename_i b;obtain⟨tw,rfl,t1,t2⟩:=oQ (Zt _ |>.mp b);refine⟨zL,?_,λy hy=>?_⟩;unfold uO at u;simp at u;simp[u.1];rw[ex]at hy;cases hy;have:=Ab x.hs [a];unfold B4 at g;simp only[fz,PyData.eqv]at g;rw[this]at g;simpa using g;cases e
theorem FH:∀(xs:List Pt) (m i:Nat) (y:Pt),(xP heir G nd xs m)[i]?=some y->∃x∈xs,∃s,y=je x.tr nd (m+1+i) (nF x) [s]
 |[],m,i,y,e=>by simp[xP]at e
 |x::xs,m,i,y,e=>by rw[xP]at e;by_cases h:i<(Cg heir G nd m x).length;rw[zJ h]at e;unfold Cg at e;split at e;rw[ZM]at e;obtain⟨s,_,rfl⟩:=Zk.mp e;exact⟨x,zQ,_,rfl⟩;simp at e;rw[zE zL]at e;obtain⟨z,hz,s,e2⟩:=FH xs _ _ y e;exact⟨z,zo _ hz,s,by rw[e2];congr 1;lia⟩
theorem qX{s:Str}:∀xs:List Pt,(∀x∈xs,x.hs.Nodup)->gM [s] xs=0
 |[],_=>rfl
 |x::xs,h=>by
  rw[gM,qX xs λy hy=>h y (zo _ hy)];split;rename_i l;have nd:=h x zQ;have:x.hs.length<=[s].length:=dC nd λu hu=>by have e:=List.eq_nil_of_length_eq_zero l;unfold bu at e;have:=List.filter_eq_nil_iff.mp e u hu;simpa [br] using this
  simp at this;lia;rfl
def pA(x:Pt)(dd nn:Nat)(y:Pt):Prop:=∃s hs,0<s.1/\y=je x.tr dd nn s hs
structure Kept (D:Dd) (nd:Nat) (xs ys:List Pt):Prop where
 le:xs.length<=ys.length
 ct:match D with
  |.sever _ _=>ys.length=xs.length+1
  |.follow _ _=>ys.length=xs.length
  |.hand _ _ tz _=>ys.length=xs.length+if tz<20 then 1 else 0
  |.die ss=>ss.length=1->ys.length=xs.length
  |_=>True
 old:∀k x,xs[k]?=some x->if xT D (k+1) x.hs=true then x.hs≠[bc]/\∃y,ys[k]?=some y/\pA x (nd+1) (k+1) y else ys[k]?=some x
 new:∀k y,xs.length<=k->ys[k]?=some y->∃x∈xs,pA x (nd+1) (k+1) y
theorem o6{xs ys:List Pt}{x y:Pt}{k:Nat}(k1:1<=k)(hk:xs[k-1]?=some x)(f:pA x (nd+1) k y)(c:x.hs≠[bc]):∀j z,xs[j]?=some z->if decide ((k:Int)=((j+1:Nat):Int))=true then z.hs≠[bc]/\∃y',(xs.set (k-1) y++ys)[j]?=some y'/\pA z (nd+1) (j+1) y' else(xs.set (k-1) y++ys)[j]?=some z:=λj z hz=>by have l:=(ze.mp hz).1;rw[zJ (by rw[ZN];exact l)];by_cases g:k=j+1;obtain rfl:j=k-1:=zL;rw[hk]at hz;cases hz;rw[zF (by simp;lia)];exact⟨c,y,Zb l,by rw[Nat.sub_add_cancel k1];exact f⟩;rw[zP (by simp;lia),Zc zL,hz]
theorem y8{D:Dd}(ok:q.Ok P n)(p0:∀x∈q.xs,0<x.p)(hc:aK bc ks=false)(g:bt q.dw=false)(e:f6 R ks q nd D=.ok q'):Kept D nd q.xs q'.xs:=by
 cases D with
 |grant ss =>
  obtain⟨_,h2,_⟩:=ib e
  rw[g]at h2;cases h2
 |follow a b =>
  obtain⟨_,_,rfl⟩:=gh e
  exact⟨zC _,rfl,λk x hx=>by simpa [xT] using hx,λk y hk hy=>by
   have:=(ze.mp hy).1
   exact absurd this (by show ¬ k<q.xs.length;lia)⟩
 |sever a z =>
  obtain⟨_,_,_,x,k,rfl,k1,hk,nb,rfl⟩:=iu e
  have X:=zH hk
  have r:=ok.x1 x X
  have h2:2<=x.hs.length:=by unfold ow at nb;simp at nb;lia
  have f:pA x (nd+1) k _:=⟨gy (x.p*(x.hs.length-1)) (x.q*x.hs.length),yH x a,nZ (Z9 (p0 x X) zL) (Z9 r.q0 zL),rfl⟩
  refine⟨by rw[kM];lia,kM,o6 k1 hk f λc=>by rw[c]at h2;simp at h2,λj y hj hy=>?_⟩
  have hy:(q.xs.set (k-1) _++[je x.tr (nd+1) (q.xs.length+1) (gy (x.p*1) (x.q*x.hs.length)) [a]])[j]?=some y:=hy
  rw[zE (by rw[ZN];exact hj),ZN]at hy
  obtain⟨l,hy⟩:=ze.mp hy
  obtain rfl:j=q.xs.length:=by simp at l;lia
  exact⟨x,X,gy (x.p*1) (x.q*x.hs.length),[a],nZ (Z9 (p0 x X) zD) (Z9 r.q0 zL),by rw[<- hy,List.getElem_singleton]⟩
 |hand a z tz ss =>
  obtain⟨t1,am,hx1⟩:=DW e
  obtain⟨_,_,x,k,tw,rfl,rfl,t2,k1,hk,rfl⟩:=jq e
  have X:=zH hk
  have r:=ok.x1 x X
  have xa:=hx1 x (by simpa using hk)
  have c:x.hs≠[bc]:=λz=>by
   rw[xa]at z
   simp at z
   rw[z,hc]at am;cases am
  by_cases w:tw=20
  ·have ex:cj q.xs x k tw (srt ss) (nd+1)=q.xs.set (k-1) (je x.tr (nd+1) k (x.p,x.q) (srt ss))++[]:=by
    unfold cj
    rw[zF w,Zi]
   have f:pA x (nd+1) k _:=⟨(x.p,x.q),srt ss,p0 x X,rfl⟩
   refine⟨by show _<=(cj _ _ _ _ _ _).length;rw[dM];split<;>lia,?_,λj z hz=>?_,λj y hj hy=>?_⟩
   ·show(cj _ _ _ _ _ _).length=_+if(tw:Int)<20 then 1 else 0
    rw[dM,zF w,zP zL];rfl
   ·rw[show(Sd.mk _ (cj q.xs x k tw (srt ss) (nd+1)) q.ks q.vs q.G).xs=_ from ex]
    exact o6 k1 hk f c j z hz
   ·have:=(ze.mp (show(cj q.xs x k tw (srt ss) (nd+1))[j]?=some y from hy)).1
    rw[dM,zF w]at this
    lia
  ·have ex:cj q.xs x k tw (srt ss) (nd+1)=q.xs.set (k-1) (je x.tr (nd+1) k (gy (x.p*(20-tw)) (x.q*20)) x.hs)++[je x.tr (nd+1) (q.xs.length+1) (gy (x.p*tw) (x.q*20)) (srt ss)]:=by
    unfold cj
    rw[zP w]
   have f:pA x (nd+1) k _:=⟨gy (x.p*(20-tw)) (x.q*20),x.hs,nZ (Z9 (p0 x X) zL) (Z9 r.q0 zL),rfl⟩
   refine⟨by show _<=(cj _ _ _ _ _ _).length;rw[dM];split<;>lia,?_,λj z hz=>?_,λj y hj hy=>?_⟩
   ·show(cj _ _ _ _ _ _).length=_+if(tw:Int)<20 then 1 else 0
    rw[dM,zP w,zF zL]
   ·rw[show(Sd.mk _ (cj q.xs x k tw (srt ss) (nd+1)) q.ks q.vs q.G).xs=_ from ex]
    exact o6 k1 hk f c j z hz
   ·have hy:(cj q.xs x k tw (srt ss) (nd+1))[j]?=some y:=hy
    rw[ex,zE (by rw[ZN];exact hj),ZN]at hy
    obtain⟨l,hy⟩:=ze.mp hy
    obtain rfl:j=q.xs.length:=by simp at l;lia
    exact⟨x,X,gy (x.p*tw) (x.q*20),srt ss,nZ (Z9 (p0 x X) zL) (Z9 r.q0 zL),by rw[<- hy,List.getElem_singleton]⟩
 |die ss =>
  have who:∀s∈srt ss,aK s ks=true:=λs hs=>by
   have e:oU R ks q nd ss=.ok q':=e
   unfold oU at e
   split at e
   ·have u:=(dU e).1
    unfold uO at u
    simp at u
    simpa using u s hs
   ·cases e
  obtain⟨_,_,_,rfl⟩:=kN e
  refine⟨by show _<=(gN _ _ _ _).length;rw[lr];lia,λl=>?_,λk x hx=>?_,λk y hk hy=>?_⟩
  ·show(gN _ _ _ _).length=_
   obtain⟨s,rfl⟩:=List.length_eq_one_iff.mp l
   rw[lr,show srt [s]=[s] from List.perm_singleton.mp (bS [s]),qX _ ok.x3];rfl
  ·have l:=(ze.mp hx).1
   have X:=zH hx
   have r:=ok.x1 x X
   have e2:(gN (gL q.ks q.vs q.G (srt ss)) (srt ss) (nd+1) q.xs)[k]?=some (Fc (gL q.ks q.vs q.G (srt ss)) (srt ss) (nd+1) (k+1) x):=by
    unfold gN
    rw[zJ (by rw[Z6];exact l),ZM,hx];rfl
   have lf:(bu x.hs (srt ss)).length=x.hs.length↔(x.hs.any λs=>aK s (srt ss))=false:=by
    unfold bu
    rw[List.length_filter_eq_length_iff,zzx]
    simp
   by_cases t:(x.hs.any λs=>aK s (srt ss))=true
   ·rw[zF (show xT (.die ss) (k+1) x.hs=true from t)]
    refine⟨λc=>?_,_,e2,?_⟩
    ·obtain⟨s,hs,m⟩:=List.any_eq_true.mp t
     rw[c]at hs
     rw[zT.mp hs]at m
     rw[br]at m
     have:=who bc (Zd m)
     rw[hc]at this;cases this
    ·have nl:¬ (bu x.hs (srt ss)).length=x.hs.length:=λz=>by rw[lf.mp z]at t;cases t
     unfold Fc
     rw[zP nl]
     split
     ·exact⟨(x.p,x.q),_,p0 x X,rfl⟩
     ·exact⟨nF x,_,nZ (p0 x X) (Z9 r.q0 r.h0),rfl⟩
   ·rw[zP (show ¬ xT (.die ss) (k+1) x.hs=true from t)]
    refine e2.trans ?_
    unfold Fc
    rw[zF (lf.mpr (Zt _ |>.mp t))]
  ·have hy:(gN (gL q.ks q.vs q.G (srt ss)) (srt ss) (nd+1) q.xs)[k]?=some y:=hy
   unfold gN at hy
   rw[zE (by rw[Z6];exact hk),Z6]at hy
   obtain⟨x,X,s,rfl⟩:=FH _ _ _ _ hy
   have r:=ok.x1 x X
   exact⟨x,X,nF x,[s],nZ (p0 x X) (Z9 r.q0 r.h0),by congr 1;lia⟩
theorem Si:2^2010<=FW:=zC _
noncomputable def RX:Rx:={ gc:=8,lo:=9,pi:=10,be:=11,nu:=13,wp:=14,ck:=15,wi:=4,wh:=18,ph:=19,hp:=20,sp:=21,hr:=7,fa:=16,pa:=17,eNP:=6,eNH:=7,eBP:=8,eTP:=9,tw:=1,gp:=3,kn:=5,lv:=6,sf:=22,la:=24,nx:=25,pc:=26,gd:=27,kp:=28,fi:=12,gr:=29,sv:=30,hd:=31,fl:=32,di:=33,eBG:=1,eUn:=2,eDe:=3,eNG:=4,eGB:=5,eTD:=10 }
theorem Nz:RX.In tb:=⟨⟨rfl,rfl,rfl,rfl,rfl,rfl,rfl,rfl,rfl,rfl,rfl,rfl⟩,⟨zD,rfl,rfl,rfl,rfl,rfl,rfl,rfl,rfl,rfl,rfl⟩,rfl,rfl,rfl,rfl,rfl,rfl⟩
theorem LZ:RX.toIx.Dh tb:=⟨rfl,rfl,rfl⟩
abbrev PP(m how shift:Nat):List Str:=Cf m how shift
abbrev KK(m how shift:Nat):List Str:=srt (Cf m how shift)
variable {m how shift n:Nat}{q q':Sd}{h:aa}{C:List Sd}{Ds:List Dd}{P ks:List Str}
theorem kP:∀y∈KK m how shift,y∈PP m how shift:=λy hy=>cJ.mp hy
theorem nP:∀y∈PP m how shift,aE y:=G6
theorem kS(s:Str):aK s (KK m how shift)=aK s (PP m how shift):=lR s _
theorem kC:aK bc (KK m how shift)=false:=by rw[kS,br,zX λz=>xY (qC _ z) rfl]
theorem Pc:∀c∈oF,[0,1,2,3,4,5,6,7,8,9,10,11].contains c=true:=zD
abbrev Dx:Sd:=⟨.non,[],[],[],[]⟩
theorem AH:Dx.Ok P 0:=⟨rfl,(λx hx=>nomatch hx),zS,(λx hx=>nomatch hx),rfl,zS,(λx hx=>nomatch hx),(λx hx=>nomatch hx),zS⟩
def BY:Dd->List Str
 |.die ss=>srt ss
 |_=>[]
def bP(Ds:List Dd):List Str:=Ds.flatMap BY
inductive Cw (ks:List Str):List Sd->Sd->List Dd->Prop
 |nil:Cw ks [] Dx []
 |step {C:List Sd}{q q':Sd}{Ds:List Dd} (D:Dd):Cw ks C q Ds->D.Fit->f6 RX ks q C.length D=.ok q'->Cw ks (C++[q]) q' (Ds++[D])
structure Rw (P:List Str) (C:List Sd) (q:Sd) (Ds:List Dd):Prop where
 ok:q.Ok P C.length
 cl:Ds.length=C.length
 c2:C.length<=200
 hg:bt q.dw=decide (C.length=0)
 hG:q.G=bP Ds
 x0:0<C.length->0<q.xs.length
 tl:∀x∈q.xs,Tl x/\0<x.p
theorem qu{D:Dd}:ar D.T=true:=by rw[ar];exact j6 D (by rw[ar];exact aC _)
theorem tF{nd:Nat}{D:Dd}(e:f6 RX ks q nd D=.ok q'):q'.dw=D.T/\nd<200/\q'.G=q.G++BY D/\bt q'.dw=false:=by
 cases D with
 |grant ss=>obtain⟨h1,h2,rfl⟩:=ib e;exact⟨rfl,h1,(Zi _).symm,rfl⟩
 |sever a z=>obtain⟨h1,h2,_,x,k,_,_,_,_,rfl⟩:=iu e;exact⟨rfl,h1,(Zi _).symm,rfl⟩
 |hand a z tz ss=>obtain⟨h1,h2,x,k,tw,_,_,_,_,_,rfl⟩:=jq e;exact⟨rfl,h1,(Zi _).symm,rfl⟩
 |follow a b=>obtain⟨h1,h2,rfl⟩:=gh e;exact⟨rfl,h1,(Zi _).symm,rfl⟩
 |die ss=>obtain⟨h1,h2,_,rfl⟩:=kN e;exact⟨rfl,h1,rfl,rfl⟩
theorem Kept.tl{D:Dd}{nd:Nat}{xs ys:List Pt}(k:Kept D nd xs ys)(h:∀x∈xs,Tl x/\0<x.p)(r:∀y∈ys,y.R n):∀y∈ys,Tl y/\0<y.p:=λy hy=>by
 have fr {x:Pt}{dd nn} (X:x∈xs) (f:pA x dd nn y):Tl y/\0<y.p:=by obtain⟨s,hs,p0,e⟩:=f;have t:=(h x X).1;have nm:=(r y hy).nm;rw[e]at nm ⊢;exact⟨Tl.bh t.ok t.ly t.dp nm,p0⟩
 obtain⟨j,hj,e⟩:=List.mem_iff_getElem.mp hy;have ey:ys[j]?=some y:=by rw[zK hj,e]
 by_cases l:j<xs.length;have o:=k.old j xs[j] (zK l);split at o;obtain⟨_,y',e2,f⟩:=o;rw[ey]at e2;cases e2;exact fr (zZ l) f;rw[ey]at o;cases o;exact h _ (zZ l);obtain⟨x,X,f⟩:=k.new j y zL ey;exact fr X f
theorem Rw.step(r:Rw P C q Ds)(nP:∀y∈P,aE y)(hk:∀y∈ks,y∈P)(hc:aK bc ks=false){D:Dd}(fit:D.Fit)(e:f6 RX ks q C.length D=.ok q'):Rw P (C++[q]) q' (Ds++[D]):=by
 obtain⟨e1,e2,e3,e4⟩:=tF e;have ok:=vO (R:=RX) (nd:=C.length) (D:=D) r.ok nP hk fit;rw[e]at ok;have tx:(∀x∈q'.xs,Tl x/\0<x.p)/\0<q'.xs.length:=by
  by_cases z:C.length=0;have g:bt q.dw=true:=by rw[r.hg,z0 z]
  have n0:∀{o},bt q.dw=false->o:=λf=>by rw[g]at f;cases f
  cases D with
  |grant ss=>obtain⟨h1,h2,rfl⟩:=ib e;refine⟨λx hx=>?_,by show 0<1;decide⟩;have nm:=(ok.1.x1 x hx).nm;rw[zT.mp hx]at nm ⊢;exact⟨Tl.bh rfl rfl (ZD _) nm,Nat.one_pos⟩
  |sever a z=>obtain⟨h1,h2,_⟩:=iu e;exact n0 h2
  |hand a z tz ss=>obtain⟨h1,h2,_⟩:=jq e;exact n0 h2
  |follow a b=>obtain⟨h1,h2,_⟩:=gh e;exact n0 h2
  |die ss=>obtain⟨h1,h2,_⟩:=kN e;exact n0 h2
  have k:=y8 r.ok (λx hx=>(r.tl x hx).2) hc (by rw[r.hg,zX z]) e;exact⟨k.tl r.tl ok.1.x1,zG (r.x0 zL) k.le⟩
 refine⟨by rw[zM];exact ok.1,by rw[zM,zM,r.cl];rfl,by rw[zM];exact e2,?_,?_,λ_=>tx.2,tx.1⟩;rw[e4,zM,zX (by show ¬ C.length+1=0;lia)];rw[e3,r.hG];simp[bP]
theorem Cw.rec'(c:Cw ks C q Ds)(nP:∀y∈P,aE y)(hk:∀y∈ks,y∈P)(hc:aK bc ks=false):Rw P C q Ds:=by
 induction c with
 |nil=>exact⟨AH,rfl,ZD _,rfl,rfl,λz=>absurd z zS,λx hx=>nomatch hx⟩
 |step D _ fit e ih=>exact ih.step nP hk hc fit e
noncomputable abbrev lG : List S := [.if_ (.cmp .Eq (.ix Y3 N0) (.con (.str "follow"))) [.setix V1 (.ix Y3 N1) (.ix Y3 N2)] [],
 .if_ (.cmp .Eq (.ix Y3 N0) (.con (.str "die"))) [.asg 2 (.bin .Add Y2 (.blt .list [(.ix Y3 N1)]))] []]
theorem LX(d:Nat)(hl:Ds.length<=200)(gl:(bP Ds).length<=30):∃w,ar w=true/\ae FW tb (d+1) 52 [.lst (Ds.map Dd.T)] h=.ok (.lst [w,.lst ((bP Ds).map W.str)]) h:=by
 rw[ah (g:=⟨1,4,NJ,none⟩) rfl rfl];generalize ae FW tb d=cf
 obtain⟨σ,H,lp,ks,vs,r3,rfl,rfl,kl,_⟩:=mn (is:=[3]) (body:=a9 cf FW lG)
  (Iv:=λi σ H=>∃ks vs r3,σ=[some (.lst (Ds.map Dd.T)),some (.ref h.length),some (.lst ((bP (Ds.take i)).map W.str)),r3]/\H=h++[.dic ks (vs.map W.str)]/\ks.length=vs.length/\ks.length<=i) (Ds.map Dd.T) 0 [some (.lst (Ds.map Dd.T)),some (.ref h.length),some (.lst []),none] (h++[.dic [] []]) (λi w σ H hw iv=>by
   obtain⟨ks,vs,r3,rfl,rfl,kl,k2⟩:=iv
   rw[Za]at hw
   obtain⟨D,eD,rfl⟩:=Zk.mp hw
   rw[zzT]at *
   have il:i<Ds.length:=(ze.mp eD).1
   have tk:bP (Ds.take (i+1))=bP (Ds.take i)++BY D:=by
    rw[List.take_succ,eD];simp[bP]
   have tl:(bP (Ds.take i)).length+(BY D).length<=30:=by
    rw[<- zM,<- tk]
    refine zf ?_ gl
    have:bP Ds=bP (Ds.take (i+1))++bP (Ds.drop (i+1)):=by unfold bP;rw[<- List.flatMap_append,List.take_append_drop]
    rw[this,zM];lia
   suffices hh:∃ks' vs':List Str,a9 cf FW lG [some (.lst (Ds.map Dd.T)),some (.ref h.length),some (.lst ((bP (Ds.take i)).map W.str)),some D.T] (h++[.dic ks (vs.map W.str)])=.ok (.nx [some (.lst (Ds.map Dd.T)),some (.ref h.length),some (.lst ((bP (Ds.take i)++BY D).map W.str)),some D.T]) (h++[.dic ks' (vs'.map W.str)])/\ks'.length=vs'.length/\ks'.length<=i+1 by
    obtain⟨ks',vs',e,l1,l2⟩:=hh
    exact⟨_,_,_,rfl,e,ks',vs',_,by rw[tk],rfl,l1,l2⟩
   cases D with
   |follow a b =>
    obtain⟨k2',us,e,l1,l2,_⟩:=pV ks vs a b kl
    refine⟨k2',us,?_,l1,zL⟩
    simp! [lG,mM,show ∀hh,cU (.tup [.str "follow",.str a,.str b]) (.int 0) hh=_ from λhh=>Hf,show ∀hh,cU (.tup [.str "follow",.str a,.str b]) (.int 1) hh=_ from λhh=>Hn,show ∀hh,cU (.tup [.str "follow",.str a,.str b]) (.int 2) hh=_ from λhh=>B6,BY,Zi,Dd.T,Dd.row,ar,show ks.length<16777216 by lia,e]
   |die ss =>
    refine⟨ks,vs,?_,kl,zL⟩
    have tl:(bP (Ds.take i)).length+(srt ss).length<=30:=tl
    have ad:dQ .Add (.lst ((bP (Ds.take i)).map W.str)) (.lst ((srt ss).map W.str)) (h++[.dic ks (vs.map W.str)])=_:=ky (by rw[zj,zj];lia)
    simp! [lG,mM,BY,Dd.T,Dd.row,Dd.grp,ad,zY]
   |grant ss=>exact⟨ks,vs,by simp! [lG,mM,BY,Dd.T,Dd.row,Zi],kl,zL⟩
   |sever a z=>exact⟨ks,vs,by simp! [lG,mM,BY,Dd.T,Dd.row,Zi],kl,zL⟩
   |hand a z tz ss=>exact⟨ks,vs,by simp! [lG,mM,BY,Dd.T,Dd.row,Zi],kl,zL⟩) ⟨[],[],none,rfl,rfl,rfl,zC _⟩
 simp only[zzT,zj,zzm]at lp;refine⟨.dic ks (vs.map W.str),by rw[ar];exact aC _,?_⟩;refine bC (x:=a9 cf FW NJ [some (.lst (Ds.map Dd.T)),none,none,none] h) (by simp! [NJ,lp];rfl) ?_;have p:fQ (h++[.dic ks (vs.map W.str)]) h.length ((bP Ds).map W.str)=some ((bP Ds).map W.str):=cX _ (aC _);simp[J.fin,iE,fQ,p]
variable {m how shift n:Nat}{q q':Sd}{h:aa}{C:List Sd}{Ds:List Dd}{P ks:List Str}
abbrev RG(m how shift:Nat):W:=i5 (KK m how shift) 0
abbrev CH(m how shift:Nat):=Cw (KK m how shift)
abbrev i6(Ds:List Dd):W:=.lst (Ds.map Dd.T)
theorem CH.rw(c:CH m how shift C q Ds):Rw (PP m how shift) C q Ds:=c.rec' nP kP kC
theorem Rw.gl(r:Rw (PP m how shift) C q Ds)(m30:m<=30):(bP Ds).length<=30:=by rw[<- r.hG];exact zf (dC r.ok.g2 r.ok.g1) (by rw[cP];exact m30)
theorem same(d:Nat)(w:W)(h:aa)(hd:jM w<d)(ho:jZ w=true):ae FW tb d 51 [w,w] h=.ok (.bl true) h:=ql rfl d w h hd ho
theorem F1(d:Nat)(k:Nat)(h:aa):ae FW tb (d+1) 51 [.int k,.int k] h=.ok (.bl true) h:=same (d+1) _ h (Nat.zero_lt_succ _) rfl
theorem Qx(d:Nat)(r:Rw (PP m how shift) C q Ds)(m30:m<=30){D:Dd}{t g:W}(ht:Seq t (D.row g))(hg:Seq g (D.grp.map W.str))(fit:D.Fit)(hn:h[0]?=some (.lst (C.map Sd.W++[q.W]))):ae FW tb (d+9) 48 [RG m how shift,t] h=OL 0 (C.map Sd.W) q h (f6 RX (KK m how shift) q C.length D):=by have:=S4  (tb:=tb) (f:=48) (cl:=47) (R:=RX)  Nz LZ rfl Si d rfl Pc rfl D r.ok hn (zf r.c2 zD) (by rw[zj];exact zf r.c2 zD) (by rw[cP];exact m30) nP kP (t:=t) ht hg fit;simp_all
theorem mT{o:Ob}(hn:h[0]?=some o)(o':Ob):(h.set 0 o')[0]?=some o':=Zb (ze.mp hn).1
theorem Q0(r:Rw P C q Ds):aj [q.dw,.lst (q.xs.map aJ),.dic q.ks (q.vs.map W.str),.lst (q.G.map W.str)]=true:=by have:=Sd.pw r.ok;rwa [ar]at this
theorem FQ(d:Nat)(r:Rw (PP m how shift) C q Ds){ws:List W}(hn:h[0]?=some (.lst (ws++[q.W]))):ae FW tb (d+3) 49 [RG m how shift] h=if C.length=0 then .ok (.tup [.str "NothingDone"]) h else .ok q.dw (h.set 0 (.lst ws)):=by have c:=y4 (fw:=FW) (tb:=tb) (f:=34) (c:=11) (la:=24) rfl rfl d (KK m how shift) 0 ws q.dw [.lst (q.xs.map aJ),.dic q.ks (q.vs.map W.str),.lst (q.G.map W.str)] h hn (Q0 r);by_cases z:C.length=0;rw[r.hg,z0 z,zF rfl]at c;rw[zF z];exact bC ((ak (bV ax)).trans ((ak (CB (mf (U0 rfl) aA c) rfl)).trans (aH (aU (kd (aq (U1 rfl) aA) zS))))) (fW rfl);rw[r.hg,zX z,zP zD]at c;rw[zP z];refine bC ((ak (bV ax)).trans (aH (HE (mf (U0 rfl) aA c)))) ?_;unfold J.fin;dsimp only;rw[eI _ r.ok.d2];dsimp only;rw[iW]
theorem sI(d:Nat)(r:Rw (PP m how shift) C q Ds){ws:List W}(hn:h[0]?=some (.lst (ws++[q.W]))):ae FW tb (d+2) 35 [RG m how shift] h=.ok (.lst (q.xs.map aJ)) h :=
 w6 (fw:=FW) (tb:=tb) (f:=35) (la:=24) rfl rfl d (KK m how shift) 0 ws q.dw (q.xs.map aJ) [.dic q.ks (q.vs.map W.str),.lst (q.G.map W.str)] h hn (Q0 r)
theorem NB(d:Nat)(r:Rw P C q Ds):ae FW tb (d+2) 42 [.lst (q.xs.map aJ)] h=.ok (.bl true) h :=
 xu (fw:=FW) (tb:=tb) (f:=42) (is:=40) (ig:=41) rfl rfl rfl d q.xs (λx hx=>⟨r.ok.x1 x hx,(r.tl x hx).2⟩) r.ok.x2
inductive Tn (ks:List Str) (C:List Sd) (q:Sd) (Ds:List Dd):List Sd->Sd->List Dd->Prop
 |no:Tn ks C q Ds C q Ds
 |back {C0 q0 Ds0 D}:C=C0++[q0]->Ds=Ds0++[D]->Tn ks C q Ds C0 q0 Ds0
 |deed {D q'}:f6 RX ks q C.length D=.ok q'->Tn ks C q Ds (C++[q]) q' (Ds++[D])
theorem JY{us:List W}{x:W}{h:aa}:FA (.lst (us++[x])) none (some (-1)) h=.ok (.lst us) h:=by
 show Res.ok (W.lst (k8 (us++[x]) none (some (-((1:Nat):Int))))) h=_
 unfold k8
 rw[HT.sIx_none,Zz,Nat.sub_zero]
 have:HT.sIx (us++[x]).length (us++[x]).length (some (-((1:Nat):Int)))=us.length:=by
  show(if(-((1:Nat):Int))<0 then((-((1:Nat):Int))+(((us++[x]).length:Nat):Int)).toNat else min (-((1:Nat):Int)).toNat (us++[x]).length)=us.length
  grind
 rw[this,List.take_left]
theorem LF:aj (Ds.map Dd.T)=true:=by
 induction Ds with
 |nil=>rfl
 |cons D Ds ih=>rw[zR,aj,ih,qu];rfl
theorem tE(a b:Int)(k:Nat)(m1:0<m)(m30:m<=30)(c:CH m how shift C q Ds)(hn:h[0]?=some (.lst (C.map Sd.W++[q.W]))) :
  ∃C' q' Ds' h',CH m how shift C' q' Ds'/\h'[0]?=some (.lst (C'.map Sd.W++[q'.W]))/\Tn (KK m how shift) C q Ds C' q' Ds' /\
   ae FW tb 39 53 [RG m how shift,.int a,.int b,.int k,.lst ((PP m how shift).map W.str),.lst (q.xs.map aJ),i6 Ds] h=.ok (i6 Ds') h':=by
 have r:=c.rw
 obtain⟨rr,er,hr⟩:∃r:Nat,a.fmod 24=r/\r<24:=aQ _ zD
 have M {hh}:dQ .Mod (.int a) (.int 24) hh=.ok (.int rr) hh:=md er zD
 suffices hh:∃C' q' Ds' h',CH m how shift C' q' Ds'/\h'[0]?=some (.lst (C'.map Sd.W++[q'.W]))/\Tn (KK m how shift) C q Ds C' q' Ds'/\h'.length=h.length /\
   a9 (ae FW tb 38) FW Gv [some (RG m how shift),some (.int a),some (.int b),some (.int k),some (.lst ((PP m how shift).map W.str)),some (.lst (q.xs.map aJ)),some (i6 Ds),none,none,none] h=.ok (.ret (i6 Ds')) h' by
  obtain⟨C',q',Ds',h',x1,x2,x3,x4,e⟩:=hh
  refine⟨C',q',Ds',h',x1,x2,x3,bC (x:=a9 (ae FW tb 38) FW Gv _ h) e ?_⟩
  rw[<- x4]
  exact k6 (by rw[ar];exact LF)
 by_cases b7:rr=11
 ·cases c with
  |nil =>
   have bk:=FQ 35 r (h:=h) (ws:=[]) hn
   rw[zF (show([]:List Sd).length=0 from rfl)]at bk
   refine⟨[],Dx,[],h,.nil,hn,.no,rfl,?_⟩
   simp! [Gv,i6,ZG,M,eq_true b7,show ae FW tb 38 49 [RG m how shift] h=_ from bk,same 38 (.tup [.str "NothingDone"]) h (by show 1<38;decide) rfl,show FA (.lst []) none (some (-1)) h=.ok (.lst []) h from rfl]
  | @step C0 q0 _ Ds0 D c0 fit e =>
   have bk:=FQ 35 r hn
   obtain⟨H,eH⟩:∃H,h.set 0 (.lst ((C0++[q0]).map Sd.W))=H:=⟨_,rfl⟩
   rw[zP (show ¬ (C0++[q0]).length=0 by simp),(tF e).1,eH]at bk
   have TQ:=D.T_Q fit.len
   refine⟨C0,q0,Ds0,H,c0,by rw[<- eH,mT hn,zY];rfl,.back rfl rfl,by rw[<- eH,ZN],?_⟩
   simp! [Gv,i6,show 0<Ds0.length+1 from Nat.succ_pos _,M,eq_true b7,zY,show ae FW tb 38 49 [RG m how shift] h=_ from bk,show cU (.lst (Ds0.map Dd.T++[D.T])) (.int (-1)) h=.ok D.T h from GI f7,JY,same 38 D.T H (Zf TQ.2 zD) TQ.1]
 ·obtain⟨w,pw,e52⟩:=LX (h:=h) 37 (Ds:=Ds) (by rw[r.cl];exact r.c2) (r.gl m30)
  obtain⟨D,fit,e46⟩:=Ny (h:=h) (P:=PP m how shift) (G:=bP Ds) 36 a b k (by rw[cP];exact m1) (by rw[cP];exact m30) nP r.ok.x1 (λx hx=>(r.tl x hx).1) r.ok.x2
  have dd:=Qx 29 r m30 (t:=D.L) (.inl rfl) (.inl rfl) fit hn
  cases e:f6 RX (KK m how shift) q C.length D with
  |no cc =>
   rw[e]at dd
   refine⟨C,q,Ds,h,c,hn,.no,rfl,?_⟩
   simp! [Gv,M,b7,show ae FW tb 38 52 [i6 Ds] h=_ from e52,show ae FW tb 38 46 [.int a,.int b,.int k,.lst ((PP m how shift).map W.str),.lst ((bP Ds).map W.str),.lst (q.xs.map aJ)] h=_ from e46,show ae FW tb 38 48 [RG m how shift,D.L] h=.ok (.tup [.str (EB.getD (cc-1) Str.empty)]) h from dd,show ∀w,[Ty.tuple].mapM (bz h (.tup w))=some [true] from λw=>rfl,show [true].any id=true from rfl]
  |ok q' =>
   rw[e]at dd
   obtain⟨H,eH⟩:∃H,h.set 0 (.lst (C.map Sd.W++[q.W]++[q'.W]))=H:=⟨_,rfl⟩
   have ol:(C.map Sd.W).length=Ds.length:=by rw[zj,r.cl]
   have ad:dQ .Add (i6 Ds) (.lst [D.T]) H=.ok (i6 (Ds++[D])) H:=(ky (by rw[zj,r.cl];have:=r.c2;show C.length+1<=_;lia)).trans (by rw[i6,zY];rfl)
   refine⟨C++[q],q',Ds++[D],H,.step D c fit e,by rw[<- eH,mT hn,zY];rfl,.deed e,by rw[<- eH,ZN],?_⟩
   simp! [Gv,M,b7,show ae FW tb 38 52 [i6 Ds] h=_ from e52,show ae FW tb 38 46 [.int a,.int b,.int k,.lst ((PP m how shift).map W.str),.lst ((bP Ds).map W.str),.lst (q.xs.map aJ)] h=_ from e46,show ae FW tb 38 48 [RG m how shift,D.L] h=.ok (.int (Ds.length+1:Nat)) H from dd.trans (by rw[<- eH,<- ol];rfl),show ∀w,[Ty.tuple].mapM (bz H (.int w))=some [false] from λw=>rfl,show [false].any id=false from rfl,F1,L5 (fw:=FW) (tb:=tb) (f:=50) (h:=H) rfl 37 D fit.len,ad]
variable {n nd:Nat}{h:aa}{xs ys:List Pt}{x:Pt}
theorem Pf(h1:∀s∈hs,aE s)(h2:∀s∈us,aE s):bD .Eq (.tup (hs.map W.str)) (.tup (us.map W.str)) h=.ok (.bl (B4 hs us)) h:=by
 have d1:∀zs:List Str,cH h (.tup (zs.map W.str))=some (.tup (zs.map W.str)):=λzs=>by simp[cH,rT,fF]
 have e:sr h (.tup (hs.map W.str)) (.tup (us.map W.str))=some (B4 hs us):=by simp only[sr,d1,eQ h1,eQ h2];rfl
 show(match sr h (.tup (hs.map W.str)) (.tup (us.map W.str)) with|some b=>fH b h|none=>.stuck)=_;rw[e];rfl
theorem jN{r:Res W}:GB (.bl false) r h=.ok (.bl false) h:=rfl
theorem yy(d:Nat)(D:Dd)(k:Nat)(hs:List Str)(h6:hs.length<=6):ae FW tb (d+1) 54 [D.T,.int k,.tup (hs.map W.str)] h=.ok (.bl (xT D k hs)) h:=by
 rw[ah (g:=⟨3,3,GF,none⟩) rfl rfl];generalize ae FW tb d=cf;cases D with
 |die ss=>
  have c:af cf (.compS [3] 1 Y2 [(.cmp .In Y3 (.ix V0 N1))] Y3) [some (.tup [.str "die",.tup ((srt ss).map W.str)]),some (.int k),some (.tup (hs.map W.str))] h=.ok (.lst ((hs.filter λs=>aK s (srt ss)).map W.str)) h :=
   jf (p:=λs=>aK s (srt ss)) (ss:=hs) (U2 rfl) rfl zL (λs _ hh=>bY (by simp! [])) (by show 3<4;decide)
  have e:decide (0<(hs.filter λs=>aK s (srt ss)).length)=xT (.die ss) k hs:=by rw[Bool.eq_iff_iff,Zm,List.length_pos_iff,ne_eq,List.filter_eq_nil_iff];simp[xT]
  simp! [GF,Dd.T,Dd.row,Dd.grp,mM,c,e,zzL]
 |grant ss=>simp! [GF,Dd.T,Dd.row,Dd.grp,mM,xT,ZP,jN]
 |follow a b=>simp! [GF,Dd.T,Dd.row,Dd.grp,mM,xT,ZP,jN]
 |sever a z=>simp! [GF,Dd.T,Dd.row,Dd.grp,mM,xT]
 |hand a z tz ss=>simp! [GF,Dd.T,Dd.row,Dd.grp,mM,xT]
theorem Dg{us:List W}{x:W}{h:aa}:FA (.tup (us++[x])) none (some (-1)) h=.ok (.tup us) h:=by
 have k:HT.sIx (us++[x]).length (us++[x]).length (some (-((1:Nat):Int)))=us.length:=by
  show(if(-((1:Nat):Int))<0 then((-((1:Nat):Int))+(((us++[x]).length:Nat):Int)).toNat else min (-((1:Nat):Int)).toNat (us++[x]).length)=us.length
  grind
 show(if HT.sIx (us++[x]).length 0 none=0/\HT.sIx (us++[x]).length (us++[x]).length (some (-((1:Nat):Int)))=(us++[x]).length then Res.stuck else .ok (W.tup (k8 (us++[x]) none (some (-((1:Nat):Int))))) h)=_
 unfold k8
 rw[k,zP zS,HT.sIx_none,Zz,Nat.sub_zero,List.take_left]
theorem sW(r:x.R n)(hn:n<=400):jZ (aJ x)=true/\jM (aJ x)<=6/\jZ (.tup x.tr)=true/\jM (.tup x.tr)<=5:=by have:=r.tl;have:=r.h1;have:=r.dp;have t:decide (x.tr.length<=100000)=true:=z0 zL;have s:decide (x.hs.length<=100000)=true:=z0 zL;refine⟨by simp[aJ,jZ,dr,dX,r.oq];lia,by simp[aJ,jM,dz,dZ];lia,by simp[jZ,r.oq];lia,by simp[jM];lia⟩
theorem Bu{dd nn:Nat}{s:Nat×Nat}{hs:List Str}(h6:hs.length<=6):jZ (.tup [aw dd,aw nn,mO s,.tup (hs.map W.str)])=true/\jM (.tup [aw dd,aw nn,mO s,.tup (hs.map W.str)])<=2:=by refine⟨by simp[jZ,dr,dX];lia,by simp[jM,dz,dZ]⟩
theorem vo(d:Nat)(w:W)(h:aa)(hd:jM w<=6)(ho:jZ w=true):ae FW tb (d+7) 51 [w,w] h=.ok (.bl true) h:=same (d+7) w h zL ho
theorem G1(d:Nat){y:Pt}{dd nn:Nat}(rx:x.R n)(ry:y.R (n+1))(hn:n<=300)(f:pA x dd nn y):ae FW tb (d+8) 55 [aJ x,aJ y,.int nn,.int dd] h=.ok (.bl true) h:=by rw[ah (g:=⟨4,6,NX,none⟩) rfl rfl];obtain⟨_,_,q1,q2⟩:=sW rx zL;obtain⟨s,hs,_,rfl⟩:=f;obtain⟨q3,q4⟩:=Bu (dd:=dd) (nn:=nn) (s:=s) (hs:=hs) ry.h1;have t:∀hh,cU (aJ (je x.tr dd nn s hs)) (.int 2) hh=.ok (.tup (x.tr++[.tup [aw dd,aw nn,mO s,.tup (hs.map W.str)]])) hh:=λhh=>B6;obtain⟨st,est⟩:∃st,W.tup [aw dd,aw nn,mO s,.tup (hs.map W.str)]=st:=⟨_,rfl⟩;rw[est]at t q3 q4;simp! [NX,show ∀hh,cU (aJ x) (.int 2) hh=_ from λhh=>B6,t,Dg,vo d _ h (zf q2 zD) q1,show cU (.tup (x.tr++[st])) (.int (-1)) h=_ from dm (.inr rfl) f7,show W.tup [.int dd,.int nn,sh (je x.tr dd nn s hs).p (je x.tr dd nn s hs).q,.tup ((je x.tr dd nn s hs).hs.map W.str)]=st from est,vo d _ h (zf q4 zD) q3]
theorem yU{cf:CF}{is:List Nat}{a c:E}{b:List S}{σ:ai}{h:aa}{i j:Nat}(ea:af cf a σ h=.ok (aw i) h)(ec:af cf c σ h=.ok (aw j) h)(hi:i<=1000)(hj:j<=1000):aL cf FW (.for_ is (.rng [a,c]) b) σ h=fo is (a9 cf FW b) ((List.range (j-i)).map λ(k:Nat)=>aw (i+k)) σ h:=by
 rw[aL,BO ea ec,ag];have z:kG [aw i,aw j]=some ((List.range (j-i)).map λ(k:Nat)=>aw (i+k)):=by rw[cQ];unfold jR;dsimp only;rw[zF zL,show((j:Int)-(i:Int)).toNat=j-i by lia];rfl
 rw[z]
noncomputable abbrev PB:List S:=[.if_ (.call 54 [Y2,(.bin .Add V5 N1),(.ix (.ix V0 V5) N1)]) [.if_ (.or_ (.cmp .Eq (.ix (.ix V0 V5) N1) (.tup [(.con (.str "CROWN"))])) (.not_ (.call 55 [(.ix V0 V5),(.ix V1 V5),(.bin .Add V5 N1),Y3]))) [.ret (.con (.bl false))] []] [.if_ (.not_ (.call 51 [(.ix V1 V5),(.ix V0 V5)])) [.ret (.con (.bl false))] []]]
noncomputable abbrev HJ : List S := [.unp [6, 7, 8] (.ix V1 V5),
 .if_ (.or_ (.cmp .Lt (.blt .len [V8]) N2) (.not_ (.call 51 [(.ix V8 (.neg N1)), (.tup [Y3, (.bin .Add V5 N1), v6, V7])]))) [.ret (.con (.bl false))] []]
noncomputable abbrev Cb(xs ys:List Pt)(D:Dd)(nd:Nat)(c r5 r6 r7 r8:Option W):ai:=[some (.lst (xs.map aJ)),some (.lst (ys.map aJ)),some D.T,some (.int (nd+1:Nat)),c,r5,r6,r7,r8]
theorem L8(d:Nat){D:Dd}(K:Kept D nd xs ys)(rx:∀x∈xs,x.R n)(tl:∀x∈xs,Tl x)(ry:∀y∈ys,y.R (n+1))(hn:n<=300)(lx:xs.length<=60)(ly:ys.length<=60):ae FW tb (d+9) 56 [.lst (xs.map aJ),.lst (ys.map aJ),D.T,.int (nd+1:Nat)] h=.ok (.bl true) h:=by
 rw[ah (g:=⟨4,9,xf,none⟩) rfl rfl]
 have X {ys:List Pt}{i:Nat} (hi:i<ys.length):∀{hh},cU (.lst (ys.map aJ)) (.int i) hh=.ok (aJ ys[i]) hh:=cD rfl (oP hi)
 obtain⟨c,pre⟩:∃c,∀R,a9 (ae FW tb (d+8)) FW (xf.take 4++R) (Cb xs ys D nd none none none none none) h=a9 (ae FW tb (d+8)) FW R (Cb xs ys D nd (some c) none none none none) h:=by
  have le:=K.le
  have ct:=K.ct
  refine⟨W.int (ys.length-xs.length),λR=>?_⟩
  cases D with
  |sever a z =>
   have ct:(ys.length:Int)-xs.length=1:=by have:ys.length=xs.length+1:=ct;lia
   simp! [xf,Zr,ZW,Dd.T,Dd.row,Dd.grp,mM,ct,eq_self,zz0,zzK,zzL,ZP,jN,zzJ];rfl
  |follow a b =>
   have ct:(ys.length:Int)-xs.length=0:=by have:ys.length=xs.length:=ct;lia
   simp! [xf,Zr,ZW,Dd.T,Dd.row,Dd.grp,mM,ct,eq_self,zz0,zzK,zzL,ZP,jN,zzJ];rfl
  |hand a z tz ss =>
   have ct:ys.length=xs.length+if tz<20 then 1 else 0:=ct
   by_cases t:tz<20
   ·rw[zF t]at ct
    have ct:(ys.length:Int)-xs.length=1:=zL
    simp! [xf,Zr,ZW,Dd.T,Dd.row,Dd.grp,mM,ct,eq_self,zz0,zzK,zzL,ZP,jN,zzJ,show ∀hh,cU (.tup [.str "hand",.str a,.int z,.int tz,.tup ((srt ss).map W.str)]) (.int 3) hh=.ok (.int tz) hh from λhh=>cD (k:=3) rfl rfl,t];rfl
   ·rw[zP t]at ct
    have ct:(ys.length:Int)-xs.length=0:=zL
    simp! [xf,Zr,ZW,Dd.T,Dd.row,Dd.grp,mM,ct,eq_self,zz0,zzK,zzL,ZP,jN,zzJ,show ∀hh,cU (.tup [.str "hand",.str a,.int z,.int tz,.tup ((srt ss).map W.str)]) (.int 3) hh=.ok (.int tz) hh from λhh=>cD (k:=3) rfl rfl,t];rfl
  |die ss =>
   by_cases t:ss.length=1
   ·have ct:(ys.length:Int)-xs.length=0:=by have:ys.length=xs.length:=ct t;lia
    simp! [xf,Zr,ZW,Dd.T,Dd.row,Dd.grp,mM,ct,eq_self,zz0,zzK,zzL,ZP,jN,zzJ,bT,t];rfl
   ·have ct:=show ¬ (ys.length:Int)-xs.length<0 by lia
    simp! [xf,Zr,ZW,Dd.T,Dd.row,Dd.grp,mM,ct,eq_self,zz0,zzK,zzL,ZP,jN,zzJ,bT,t];rfl
  |grant ss=>simp! [xf,Zr,ZW,Dd.T,Dd.row,Dd.grp,mM,zzL,ZP,jN,zzJ];rfl
 have o1:=ik (i:=5) (body:=a9 (ae FW tb (d+8)) FW PB) (σ:=Cb xs ys D nd (some c) none none none none) (h:=h) ((List.range xs.length).map λ(k:Nat)=>W.int (0+(k:Int))) none λw hw=>by
  obtain⟨k,hk,rfl⟩:=Zs.mp hw
  have hk:=ZE.mp hk
  rw[Int.zero_add]
  have R:=rx _ (zZ hk)
  have ld:k<ys.length:=zG hk K.le
  have t:=yy (d+7) (h:=h) D (k+1) xs[k].hs R.h1
  have o:=K.old k xs[k] (zK hk)
  by_cases g:xT D (k+1) xs[k].hs=true
  ·rw[zF g]at o
   obtain⟨oc,y,ey,f⟩:=o
   obtain⟨_,ey⟩:=ze.mp ey
   have gr:=G1 (n:=n) d (h:=h) R (ry _ (zZ ld)) hn (ey▸f)
   have eq:=Pf (h:=h) (us:=[bc]) R.nm (by simpa using gR)
   simp_arith at eq
   rw[g]at t
   have:B4 xs[k].hs [bc]=false:=(Ab _ _).trans (zX oc)
   simp! [X hk,X ld,t,gr,eq,this]
  ·rw[zP g]at o
   obtain⟨_,o⟩:=ze.mp o
   rw[Zt _ |>.mp g]at t
   obtain⟨q1,q2,_⟩:=sW R zL
   simp! [X hk,X ld,t,o,vo (d+1) _ h q2 q1]
 obtain⟨r5,o1⟩:=o1
 simp_arith at o1
 have rg:aL (ae FW tb (d+8)) FW (.for_ [5] (.rng [(.blt .len [V0]),(.blt .len [V1])]) HJ) (Cb xs ys D nd (some c) r5 none none none) h=fo [5] (a9 (ae FW tb (d+8)) FW HJ) ((List.range (ys.length-xs.length)).map λ(k:Nat)=>aw (xs.length+k)) (Cb xs ys D nd (some c) r5 none none none) h :=
  yU ((cM (U0 rfl) rfl).trans (by rw[zj])) ((cM (U1 rfl) rfl).trans (by rw[zj])) zL zL
 obtain⟨σ,H,o2,iv⟩:=mn (is:=[5]) (body:=a9 (ae FW tb (d+8)) FW HJ) (Iv:=λ_ σ H=>H=h/\∃r5 r6 r7 r8,σ=Cb xs ys D nd (some c) r5 r6 r7 r8) ((List.range (ys.length-xs.length)).map λ(k:Nat)=>aw (xs.length+k)) 0 (Cb xs ys D nd (some c) r5 none none none) h (λi w σ H hw iv=>by
  obtain⟨rfl,r5,r6,r7,r8,rfl⟩:=iv
  rw[Za]at hw
  obtain⟨k',ek,rfl⟩:=Zk.mp hw
  have il:=(ze.mp ek).1
  rw[zzB]at il
  obtain rfl:i=k':=by rw[List.getElem?_range il]at ek;exact z9 ek
  obtain⟨k,ekk⟩:∃k,xs.length+i=k:=⟨_,rfl⟩
  have lk:k<ys.length:=zL
  obtain⟨x,hx,s,hs,_,e⟩:=K.new k ys[k] zL (zK lk)
  have R:=ry _ (zZ lk)
  have t0:=(tl x hx).t0
  rw[e]at R
  obtain⟨q3,q4⟩:=Bu (dd:=nd+1) (nn:=k+1) (s:=s) (hs:=hs) R.h1
  obtain⟨st,est⟩:∃st,W.tup [aw (nd+1),aw (k+1),mO s,.tup (hs.map W.str)]=st:=⟨_,rfl⟩
  rw[est]at q3 q4
  have Y:∀hh,cU (.lst (ys.map aJ)) (.int k) hh=.ok (.tup [mO s,.tup (hs.map W.str),.tup (x.tr++[st])]) hh:=λhh=>(X lk).trans (by rw[e,<- est];rfl)
  refine⟨_,Cb xs ys D nd (some c) (some (aw k)) (some (mO s)) (some (.tup (hs.map W.str))) (some (.tup (x.tr++[st]))),H,rfl,?_,rfl,_,_,_,_,rfl⟩
  rw[ekk]
  simp! [Y,show ¬ x.tr.length+1<2 by lia,show cU (.tup (x.tr++[st])) (.int (-1)) H=_ from dm (.inr rfl) f7,est,vo (d+1) _ H (zf q4 zD) q3]) ⟨rfl,r5,none,none,none,rfl⟩
 obtain⟨rfl,r6,r7,r8,r9,rfl⟩:=iv
 refine bC (x:=a9 (ae FW tb (d+8)) FW xf (Cb xs ys D nd none none none none none) H) ((pre (xf.drop 4)).trans ?_) aF
 simp! [xf,Zw,Zz,wj (show xs.length<2^62 by lia),o1]
 exact(congrArg (λr=>vE (ae FW tb (d+8)) FW [.ret (.con (.bl true))] r) (rg.trans o2)).trans (aH (cf:=ae FW tb (d+8)) (fw:=FW) (ss:=[]) (σ:=Cb xs ys D nd (some c) r6 r7 r8 r9) (aU ax))
variable {m how shift n:Nat}{q q':Sd}{h:aa}{C:List Sd}{Ds:List Dd}{ns:List Int}
theorem LU{k:Nat}(hk:k<m):aR how shift k∈PP m how shift:=Zs.mpr ⟨k,ZE.mpr hk,rfl⟩
abbrev pn(m how shift:Nat)(x:Int):Str:=(PP m how shift).getD (x.fmod (m:Int)).toNat bc
theorem qh(m1:0<m)(x:Int):pn m how shift x∈PP m how shift/\∃i:Nat,x.fmod (m)=(i)/\i<m/\((PP m how shift).map W.str)[i]?=some (.str (pn m how shift x)):=by
 obtain⟨i,ei,hi⟩:=aQ x m1;have hl:i<(PP m how shift).length:=by rw[cP];exact hi
 exact⟨by simp_all,i,ei,hi,by simp_all⟩
noncomputable def iD(P:List Str)(p0:Str)(b:Bool)(j:Nat):Dd->Prop
 |.grant ss=>j=0/\1<=ss.length/\ss.length<=6/\ss.Nodup/\(∀s∈ss,s∈P)/\(b=true->ss=[p0])
 |.hand a z tz ss=>1<=j/\b=true/\a=p0/\z=1/\(∃pc:Nat,tz=(pc:Int)/\1<=pc/\pc<20)/\1<=ss.length/\ss.length<=6/\ss.Nodup/\∀s∈ss,s∈P
 |.follow a c=>1<=j/\b=false/\a∈P/\c∈P
 |_=>False
def kj(P:List Str)(p0:Str)(b:Bool)(Ds:List Dd):Prop:=∀j D,Ds[j]?=some D->iD P p0 b j D
theorem kj.snoc{P:List Str}{p0:Str}{b:Bool}{D:Dd}(a:kj P p0 b Ds)(r:iD P p0 b Ds.length D):kj P p0 b (Ds++[D]):=λj D' e=>by
 by_cases h:j<Ds.length
 ·rw[zJ h]at e;exact a j D' e
 ·rw[zE zL]at e
  have:=(ze.mp e).1
  simp at this
  rw[this]at e
  obtain rfl:j=Ds.length:=zL
  grind
noncomputable abbrev G2(ns:List Int)(m how shift h1 h2:Nat)(r4 r5 r6 r7 r8 r9 r10:Option W):ai:=[some (.scr (ns.map W.int)),some (.lst ((PP m how shift).map W.str)),some (.int h1),some (.int h2),r4,r5,r6,r7,r8,r9,r10]
noncomputable abbrev Pg : List S := [.asg 6 (.blt .sorted [(.compR [11] 1 [(.blt .min [(.bin .Add N1 (.bin .Mod (.bin .Add V7 V8) N3)), V9])] [] (.ix V1 (.bin .Mod (.bin .Add (.bin .Add sA (.bin .Mult V8 (.bin .Add N1 (.bin .Mod V7 N3)))) xS) V9)))]),
 .exp (.meth .append V5 [(.tup [(.con (.str "hand")), (.ix V1 N0), N1, (.bin .Add N1 (.bin .Mod (.bin .Add V7 V8) BZ)), (.blt .tuple [v6])])])]
noncomputable abbrev Pa:List S:=[.exp (.meth .append V5 [(.tup [(.con (.str "follow")),(.ix V1 (.bin .Mod V8 V9)),(.ix V1 (.bin .Mod (.bin .Add (.bin .Add V8 N1) (.bin .Mod V7 N5)) V9))])])]
theorem KQ{ss:List Str}{hh:aa}(hl:ss.length<64):bK .sorted [.lst (ss.map W.str)] hh=.ok (.lst ((srt ss).map W.str)) hh:=by
 have:=wd (cf:=λ_ _ _=>.stuck) (a:=.con (.lst (ss.map W.str))) (σ:=[]) (h:=hh) ax hl
 rwa [af,aq ax aA,ag]at this
noncomputable abbrev Cd(ns:List Int)(m how shift h1 h2 sz:Nat)(h:aa)(mo:Nat)(x y:Option W):ai:=G2 ns m how shift h1 h2 (some (.int sz)) (some (.ref h.length)) x (some (.int (cell ns 3))) y (some (.int m)) (some (.int mo))
theorem Jl(d h1 h2:Nat)(m1:0<m)(m30:m<=30)(l1:h1<=59)(l2:h2<=199):∃Ds b,kj (PP m how shift) (aR how shift 0) b Ds/\(b=true->Ds.length<=60)/\Ds.length<=200/\ae FW tb (d+2) 43 [.scr (ns.map W.int),.lst ((PP m how shift).map W.str),.int h1,.int h2] h=.ok (i6 Ds) h:=by
 have hc:∀(k:Nat) (h:aa),ae FW tb (d+1) 38 [.scr (ns.map W.int),.int (k:Int)] h=.ok (.int (cell ns k)) h:=λk h=>yC rfl d ns k h;rw[ah (g:=⟨4,11,rE,none⟩) rfl rfl];generalize ae FW tb (d+1)=cf at *;obtain⟨mo,emo,hmo⟩:∃n:Nat,((cell ns 3).fdiv 18+cell ns 2).fmod 60=n/\n<60:=aQ _ zD;obtain⟨g,eg,hg⟩:∃n:Nat,((cell ns 3).fdiv 6).fmod 3=n/\n<3:=aQ _ zD;obtain⟨s6,es,hs⟩:∃n:Nat,(cell ns 3).fmod 6=n/\n<6:=aQ _ zD;obtain⟨u3,eu,hu⟩:∃n:Nat,(cell ns 3).fmod 3=n/\n<3:=aQ _ zD;obtain⟨u5,eu5,hu5⟩:∃n:Nat,(cell ns 3).fmod 5=n/\n<5:=aQ _ zD;have C3:∀hh,cf 38 [.scr (ns.map W.int),.int 3] hh=_:=hc 3;have C2:∀hh,cf 38 [.scr (ns.map W.int),.int 2] hh=_:=hc 2;have V18 {hh}:dQ .FloorDiv (.int (cell ns 3)) (.int 18) hh=.ok (.int ((cell ns 3).fdiv 18)) hh:=dv zD zD;have V6 {hh}:dQ .FloorDiv (.int (cell ns 3)) (.int 6) hh=.ok (.int ((cell ns 3).fdiv 6)) hh:=dv zD zD;have mu (x y:Nat) (hy:y<1000) (hh:aa):dQ .Mult (.int x) (.int y) hh=.ok (.int (x*y:Nat)) hh:=BP hh (B3 zL);have d59 (x:Nat) (hh:aa):dQ .FloorDiv (.int x) (.int 59) hh=.ok (.int (x/59:Nat)) hh:=(dv zD zD).trans (by rw[show(x:Int).fdiv 59=((x/59:Nat):Int) from jc x 59]);let sz:Nat:=if g=1 then 1 else min (1+s6) m
 have z1:1<=sz:=by show 1<=if g=1 then 1 else min (1+s6) m;split<;>lia
 have z6:sz<=6:=by show(if g=1 then 1 else min (1+s6) m)<=6;split<;>lia
 have zm:sz<=m:=by show(if g=1 then 1 else min (1+s6) m)<=m;split<;>lia
 let D0:Dd:=.grant ((PP m how shift).take sz);let p0:=aR how shift 0;have l0:((PP m how shift).take sz).length=sz:=by rw[Zo,cP];lia
 have ok0:kj (PP m how shift) p0 (decide (g=1)) [D0]:=λj D e=>by have l:=(ze.mp e).1;simp at l;subst l;cases e;refine⟨rfl,zL,zL,(sO zL).sublist (List.take_sublist _ _),λs hs=>List.mem_of_mem_take hs,λb=>?_⟩;have:sz=1:=zF (Zd b);rw[this];obtain⟨k,rfl⟩:∃k,m=k+1:=⟨m-1,zL⟩;simp[Cf,List.range_succ_eq_map,p0]
 have SR {hh}:=KQ (hh:=hh) (ss:=(PP m how shift).take sz) zL;have T:=vx (us:=(PP m how shift).map W.str) (k:=sz) (h:=h);rw[<- List.map_take]at T;have st:∀R,a9 cf FW (rE.take 5++R) (G2 ns m how shift h1 h2 none none none none none none none) h=a9 cf FW R (Cd ns m how shift h1 h2 sz h mo none none) (h++[.lst ([D0].map Dd.T)]):=λR=>by
  have a:∀R,a9 cf FW (rE.take 4++R) (G2 ns m how shift h1 h2 none none none none none none none) h=a9 cf FW R (G2 ns m how shift h1 h2 (some (.int sz)) none none (some (.int (cell ns 3))) none (some (.int m)) (some (.int mo))) h:=λR=>by by_cases g1:g=1;rw[show sz=1 from zF g1];simp! [rE,Zr,ZW,C3,C2,V18,V6,cP,md emo (show(60:Int)≠0 by decide),md eg (show(3:Int)≠0 by decide),eq_true g1];rfl;rw[show sz=min (1+s6) m from zP g1];simp! [rE,Zr,ZW,C3,C2,V18,V6,cP,md emo (show(60:Int)≠0 by decide),md eg (show(3:Int)≠0 by decide),md es (show(6:Int)≠0 by decide),g1,show ∀hh,bK .min [.int (1+(s6:Int)),.int m] hh=_ from uP (1+s6) m]
  refine(a (((rE.drop 4).take 1)++R)).trans ?_;have pT:=qu (D:=D0);simp! [rE,Zr,ZW,Zw,Zz,T,SR];exact(zF (by show aj [D0.T]=true;rw[aj,pT];rfl)).trans rfl
 have app {D:Dd}{Ds:List Dd} (hl:Ds.length<=200):jr .append (.ref h.length) [D.T] (h++[.lst (Ds.map Dd.T)])=.ok .non (h++[.lst ((Ds++[D]).map Dd.T)]):=rN.trans (by rw[zF ⟨qu,by rw[zj,Zq];lia⟩,zY];rfl);have at_ (x:Nat):∃i:Nat,(x:Int).fmod (m:Int)=i/\∀hh,cU (.lst ((PP m how shift).map W.str)) (.int i) hh=.ok (.str (pn m how shift x)) hh:=by obtain⟨_,i,e,_,e3⟩:=qh (how:=how) (shift:=shift) m1 x;exact⟨i,e,λhh=>cD rfl e3⟩
 have mz:(m:Int)≠0:=zL;have hand (k:Nat) (hk:k<=59) (Ds:List Dd) (hl:Ds.length=k+1) (r6:Option W):∃D r6',iD (PP m how shift) p0 true Ds.length D/\a9 cf FW Pg (Cd ns m how shift h1 h2 sz h mo r6 (some (.int k))) (h++[.lst (Ds.map Dd.T)])=.ok (.nx (Cd ns m how shift h1 h2 sz h mo r6' (some (.int k)))) (h++[.lst ((Ds++[D]).map Dd.T)]):=by
  obtain⟨v,ev,hv⟩:∃n:Nat,(cell ns 3+(k:Int)).fmod 3=n/\n<3:=aQ _ zD;obtain⟨p,ep,hp⟩:∃n:Nat,(cell ns 3+(k:Int)).fmod 12=n/\n<12:=aQ _ zD;let S:Nat:=mo+k*(1+u3);let to:List Str:=(List.range (min (1+v) m)).map λ(j:Nat)=>pn m how shift ((S+j:Nat):Int);have lt:to.length=min (1+v) m:=by show((List.range _).map _).length=_;rw[zj,zzB]
  have c (hh:aa):af cf (.compR [11] 1 [(.blt .min [(.bin .Add N1 (.bin .Mod (.bin .Add V7 V8) N3)),V9])] [] (.ix V1 (.bin .Mod (.bin .Add (.bin .Add sA (.bin .Mult V8 (.bin .Add N1 (.bin .Mod V7 N3)))) xS) V9))) (Cd ns m how shift h1 h2 sz h mo r6 (some (.int k))) hh=.ok (.lst (to.map W.str)) hh:=by refine(rA (m:=min (1+v) m) (F:=λj=>.str (pn m how shift ((S+j:Nat):Int))) (by simp! [md ev (show(3:Int)≠0 by decide),show ∀hh,bK .min [.int (1+(v:Int)),.int m] hh=_ from uP (1+v) m]) zL (λj hj=>⟨rfl,λhh=>jA rfl ?_⟩)).trans (by rw[Z7];rfl);obtain⟨i,e1,e2⟩:=at_ (S+j);simp! [md eu (show(3:Int)≠0 by decide),show ∀hh,dQ .Mult (.int k) (.int (1+(u3:Int))) hh=_ from mu k (1+u3) zL,show ∀hh,dQ .Mod (.int ((mo+k*(1+u3)+j:Nat):Int)) (.int m) hh=_ from λhh=>md e1 mz,e2]
  have sw {hh}:=KQ (hh:=hh) (ss:=to) zL;have a:=app (D:=.hand p0 1 (1+(p:Int)) to) (Ds:=Ds) zL;have p0at:∀hh,cU (.lst ((PP m how shift).map W.str)) (.int 0) hh=.ok (.str p0) hh:=λhh=>cD (k:=0) rfl (by simp[Cf,m1,p0]);refine⟨.hand p0 1 (1+(p:Int)) to,some (.lst ((srt to).map W.str)),⟨zL,rfl,rfl,rfl,⟨1+p,rfl,zL,zL⟩,zL,zL,?_,λs hs=>?_⟩,?_⟩;refine tu (P:=PP m how shift) (G:=λj=>(((S+j:Nat):Int).fmod (m:Int)).toNat) (sO zL) (λj hj=>?_) (λj hj k hk e=>AD (S:=S) m1 zL zL e);obtain⟨_,i,ei,hi,_⟩:=qh (how:=how) (shift:=shift) m1 ((S+j:Nat):Int);show(((S+j:Nat):Int).fmod (m:Int)).toNat<_;rw[ei,cP];exact hi;obtain⟨j,_,rfl⟩:=Zs.mp hs;exact(qh m1 _).1;generalize to=to at *;simp! [Pg,c,sw,md ep (show(12:Int)≠0 by decide),p0at];rw[zF ⟨qu (D:=.hand p0 1 (1+(p:Int)) to),zL⟩,zY];rfl
 have foll (k:Nat) (hk:k<=199) (Ds:List Dd) (hl:Ds.length=k+1) (r6:Option W):∃D,iD (PP m how shift) p0 false Ds.length D/\a9 cf FW Pa (Cd ns m how shift h1 h2 sz h mo r6 (some (.int k))) (h++[.lst (Ds.map Dd.T)])=.ok (.nx (Cd ns m how shift h1 h2 sz h mo r6 (some (.int k)))) (h++[.lst ((Ds++[D]).map Dd.T)]):=by obtain⟨i,e1,e2⟩:=at_ k;obtain⟨j,f1,f2⟩:=at_ (k+1+u5);refine⟨.follow (pn m how shift k) (pn m how shift ((k+1+u5:Nat):Int)),⟨zL,rfl,(qh m1 _).1,(qh m1 _).1⟩,?_⟩;simp! [Pa,md e1 mz,e2,md eu5 (show(5:Int)≠0 by decide),show ∀hh,dQ .Mod (.int ((k+1+u5:Nat):Int)) (.int m) hh=_ from λhh=>md f1 mz,f2];rw[zF ⟨qu (D:=.follow (pn m how shift k) (pn m how shift ((k+1+u5:Nat):Int))),zL⟩,zY];rfl
 have fin_ {Ds:List Dd}:J.fin h.length (.ok (.ret (.ref h.length)) (h++[.lst (Ds.map Dd.T)]))=.ok (i6 Ds) h:=v8;by_cases g1:g=1
 obtain⟨σ,H,lp,r6,r8,Ds,rfl,rfl,ll,ok⟩:=sP (i:=8) (n:=mo*h1/59) (body:=a9 cf FW Pg) (σ:=Cd ns m how shift h1 h2 sz h mo none none) (h:=h++[.lst ([D0].map Dd.T)])
  (Iv:=λk σ H=>∃r6 r8 Ds,σ=Cd ns m how shift h1 h2 sz h mo r6 r8/\H=h++[.lst (Ds.map Dd.T)]/\Ds.length=k+1/\kj (PP m how shift) p0 true Ds) (λk σ H hk iv=>by
   obtain⟨r6,r8,Ds,rfl,rfl,ll,ok⟩:=iv
   have:mo*h1/59<=59:=zf (Nat.div_le_div_right (zzp (show mo<=59 by lia) l1)) zD
   obtain⟨D,r6',ro,e⟩:=hand k zL Ds ll r6
   exact⟨_,_,e,r6',_,Ds++[D],rfl,rfl,by rw[zM,ll];rfl,ok.snoc ro⟩) ⟨none,none,[D0],rfl,rfl,rfl,by simpa [g1] using ok0⟩
 have:mo*h1/59<=59:=zf (Nat.div_le_div_right (zzp (show mo<=59 by lia) l1)) zD;refine⟨Ds,true,ok,λ_=>zL,zL,bC (x:=a9 cf FW rE (G2 ns m how shift h1 h2 none none none none none none none) h) ((st (rE.drop 5)).trans ?_) fin_⟩;simp only[zR,zzl]at lp;simp! [rE,Zw,Zz,V6,md eg (show(3:Int)≠0 by decide),eq_true g1,show ¬ g=2 by lia,mu mo h1 zL,d59,wj (show mo*h1/59<2^62 by lia),lp];by_cases g2:g=2;have b2:mo*h2/59<=199:=zf (Nat.div_le_div_right (zzp (show mo<=59 by lia) l2)) zD
 obtain⟨σ,H,lp,r8,Ds,rfl,rfl,ll,ok⟩:=sP (i:=8) (n:=mo*h2/59) (body:=a9 cf FW Pa) (σ:=Cd ns m how shift h1 h2 sz h mo none none) (h:=h++[.lst ([D0].map Dd.T)])
  (Iv:=λk σ H=>∃r8 Ds,σ=Cd ns m how shift h1 h2 sz h mo none r8/\H=h++[.lst (Ds.map Dd.T)]/\Ds.length=k+1/\kj (PP m how shift) p0 false Ds) (λk σ H hk iv=>by
   obtain⟨r8,Ds,rfl,rfl,ll,ok⟩:=iv
   obtain⟨D,ro,e⟩:=foll k zL Ds ll none
   exact⟨_,_,e,_,Ds++[D],rfl,rfl,by rw[zM,ll];rfl,ok.snoc ro⟩) ⟨none,[D0],rfl,rfl,rfl,by simpa [g1] using ok0⟩
 refine⟨Ds,false,ok,(λz=>by cases z),zL,bC (x:=a9 cf FW rE (G2 ns m how shift h1 h2 none none none none none none none) h) ((st (rE.drop 5)).trans ?_) fin_⟩;simp only[zR,zzl]at lp;simp! [rE,Zw,Zz,V6,md eg (show(3:Int)≠0 by decide),g1,eq_true g2,mu mo h2 zL,d59,wj (show mo*h2/59<2^62 by lia),lp];refine⟨[D0],false,by simpa [g1] using ok0,(λz=>by cases z),zS,bC (x:=a9 cf FW rE (G2 ns m how shift h1 h2 none none none none none none none) h) ((st (rE.drop 5)).trans ?_) fin_⟩;simp! [rE,Zw,Zz,V6,md eg (show(3:Int)≠0 by decide),g1,g2]
theorem uU{s:Str}:srt [s]=[s]:=List.perm_singleton.mp (bS [s])
theorem ED(D:List Str):srt (srt D)=srt D:=jL yQ (iw ot tR _) (iw ot tR _) (bS _)
theorem qr{ks:List Str}{q:Sd}{ss:List Str}{o:Out}(h1:uO ks ss=false)(h2:A0 q ss=false)(h3:bt q.dw=false):first RX ks q ss o=o:=by
 unfold first
 grind
theorem pP{q:Sd}{ss:List Str}(h:q.G=[]):A0 q ss=false:=by unfold A0;rw[h,zzx];intro s _;rw[br];simp
variable {m how shift n:Nat}{q q':Sd}{h:aa}{C:List Sd}{Ds:List Dd}{ns:List Int}{p0:Str}{b:Bool}
theorem tO{ss:List Str}(h:∀s∈ss,s∈PP m how shift):uO (KK m how shift) ss=false:=by
 unfold uO
 rw[zzx]
 intro s hs
 rw[kS,br]
 grind
def sM:Dd->Dd
 |.grant ss=>.grant (srt ss)
 |.hand a z t ss=>.hand a z t (srt ss)
 |.die ss=>.die (srt ss)
 |D=>D
theorem IK{D:Dd}:(sM D).T=D.T/\Seq D.T ((sM D).row (.tup ((sM D).grp.map W.str))):=by cases D<;>simp[sM,Dd.T,Dd.row,Dd.grp,ED,J.Seq]
theorem iD.srt{P:List Str}{j:Nat}{D:Dd}(r:iD P p0 b j D):iD P p0 b j (sM D):=by
 cases D with
 |grant ss=>obtain⟨r1,r2,r3,r4,r5,r6⟩:=r;exact⟨r1,by rw[bT];exact r2,by rw[bT];exact r3,jU r4,λs hs=>r5 s (cJ.mp hs),λe=>by rw[r6 e,uU]⟩
 |hand a z tz ss=>obtain⟨r1,r2,r3,r4,r5,r6,r7,r8,r9⟩:=r;exact⟨r1,r2,r3,r4,r5,by rw[bT];exact r6,by rw[bT];exact r7,jU r8,λs hs=>r9 s (cJ.mp hs)⟩
 |follow a c=>exact r
 |_=>exact r.elim
theorem iD.fit{j:Nat}{D:Dd}(hp:p0∈PP m how shift)(r:iD (PP m how shift) p0 b j D):D.Fit:=by
 cases D with
 |grant ss=>obtain⟨_,r2,r3,r4,r5,_⟩:=r;exact⟨zL,λs hs=>nP _ (r5 s hs)⟩
 |hand a z tz ss=>obtain⟨_,_,rfl,rfl,⟨pc,rfl,_,h3⟩,_,h6,_,h8⟩:=r;exact⟨nP _ hp,zD,gI zL,zL,λs hs=>nP _ (h8 s hs)⟩
 |follow a c=>exact⟨nP _ r.2.2.1,nP _ r.2.2.2⟩
 |_=>exact r.elim
structure Su (p0:Str) (b:Bool) (q:Sd) (j:Nat):Prop where
 G:q.G=[]
 d:bt q.dw=false
 l:q.xs.length<=j
 x:b=true->∃x,q.xs[0]?=some x/\x.hs=[p0]
theorem sH{j:Nat}{D:Dd}(hp:p0∈PP m how shift)(hj:j<200)(hb:b=true->j<60)(r:iD (PP m how shift) p0 b j D)(s:j=0->q=Dx)(s1:0<j->Su p0 b q j) :
  ∃q',f6 RX (KK m how shift) q j D=.ok q'/\Su p0 b q' (j+1):=by
 cases D with
 |grant ss =>
  obtain⟨rfl,r2,r3,r4,r5,r6⟩:=r
  obtain rfl:=s rfl
  refine⟨⟨.tup [.str "grant",.tup ((srt ss).map W.str)],[je [] 1 1 (1,1) (srt ss)],[],[],[]⟩,?_,rfl,rfl,zC 1,λe=>⟨_,rfl,by rw[r6 e,uU];rfl⟩⟩
  show eZ RX (KK m how shift) Dx 0 ss=_
  unfold eZ
  rw[zF ⟨r2,r3,r4⟩,tO λs hs=>r5 s (cJ.mp hs),zP zD,pP rfl,zP zD,zP (show ¬ bt W.non=false from λz=>by cases z)]
  unfold eK
  rw[zP zD]
 |hand a z tz ss =>
  obtain⟨h1,rfl,rfl,rfl,⟨pc,rfl,h3,h4⟩,h5,h6,h7,h8⟩:=r
  obtain⟨uG,ud,ul,ux⟩:=s1 h1
  obtain⟨x,ux,uh⟩:=ux rfl
  have e:B4 x.hs [a]=true:=(Ab _ _).trans (by rw[uh,z0 rfl])
  have lx:1<=q.xs.length:=(ze.mp ux).1
  have:=hb rfl
  refine⟨⟨.tup [.str "hand",.str a,.int 1,.int (pc:Int),.tup ((srt ss).map W.str)],cj q.xs x 1 pc (srt ss) (j+1),q.ks,q.vs,q.G⟩,?_,uG,rfl,?_,λ_=>?_⟩
  ·show gC RX (KK m how shift) q j a 1 (pc:Int) ss=_
   unfold gC
   rw[zF ⟨h5,h6,h7⟩,qr (tO λs hs=>?_) (pP uG) ud,zP (show ¬ gT 1 q.xs.length=true by unfold gT;rw[zzw,Zm,Zm];lia)]
   ·show(match q.xs[(1:Int).toNat-1]? with|none=>_|some x=>_)=_
    rw[show q.xs[(1:Int).toNat-1]?=some x from ux]
    dsimp only
    rw[e,zP zD,zP (show ¬ k9 (pc:Int)=true by unfold k9;rw[zzw,Zm,Zm];lia),zP zL]
    unfold eK
    rw[zP zL,ZT]
    rfl
   ·rcases zV.mp hs with rfl|hs
    ·exact hp
    ·exact h8 s (cJ.mp hs)
  ·show(cj q.xs x 1 pc (srt ss) (j+1)).length<=_
   rw[dM,zP zL]
   lia
  ·unfold cj
   dsimp only
   rw[zP zL]
   refine⟨je x.tr (j+1) 1 (gy (x.p*(20-pc)) (x.q*20)) x.hs,?_,uh⟩
   rw[zJ (by rw[ZN];exact lx),Zb lx]
 |follow a c =>
  obtain⟨h1,rfl,h2,h3⟩:=r
  obtain⟨uG,ud,ul,ux⟩:=s1 h1
  refine⟨⟨.tup [.str "follow",.str a,.str c],q.xs,(xU q.ks q.vs a c).1,(xU q.ks q.vs a c).2,q.G⟩,?_,uG,rfl,by show q.xs.length<=_;lia,ux⟩
  show fI RX (KK m how shift) q j a c _ _=_
  unfold fI
  rw[qr (tO λs hs=>?_) (pP uG) ud]
  ·unfold eK
   rw[zP zL]
  ·simp only[zV,Zy,zz7]at hs
   rcases hs with rfl|rfl
   ·exact h2
   ·exact h3
 |_=>exact r.elim
variable {m how shift n:Nat}{q q':Sd}{h:aa}{C:List Sd}{Ds:List Dd}{ns:List Int}{p0:Str}{b:Bool}
theorem Dn{xs:List Pt}(hx:∀x∈xs,x.R n)(hn:n<=400)(hl:xs.length<=60):jZ (.lst (xs.map aJ))=true/\jM (.lst (xs.map aJ))<=7:=by
 have a:dr (xs.map aJ)=true/\dz (xs.map aJ)<=6:=by
  clear hl;induction xs with
  |nil=>exact⟨rfl,ZD _⟩
  |cons x xs ih=>obtain⟨i1,i2⟩:=ih λy hy=>hx y (zo _ hy);obtain⟨o1,o2,_⟩:=sW (hx x zQ) hn;rw[zR,dr,dz,i1,o1];exact⟨rfl,Nat.max_le.mpr ⟨o2,i2⟩⟩
 refine⟨?_,?_⟩;rw[jZ,a.1,zj,z0 zL];rfl;rw[jM];lia
noncomputable abbrev lS(ns:List Int)(m how shift:Nat)(r4 r5 r6 r7 r8:Option W):ai:=[some (.scr (ns.map W.int)),some (.int m),some (.lst ((PP m how shift).map W.str)),some (RG m how shift),r4,r5,r6,r7,r8]
abbrev Kp:List S:=[.if_ (.not_ (.call 51 [(.call 48 [Y3,(.ix v4 V5)]),(.bin .Add V5 N1)])) [.ret (.con (.bl false))] []]
noncomputable abbrev EZ : List S := [.asg 6 (.mth 35 Y3 []),
 .if_ (.not_ (.call 42 [v6])) [.ret (.con (.bl false))] [],
 .asg 7 v4,
 .asg 4 (.call 53 [Y3,(.ix V0 V5),(.ix V0 (.bin .Add V5 N1)),V5,Y2,v6,v4]),
 .asg 8 (.mth 35 Y3 []),
 .if_ (.or_ (.cmp .Is v4 (.con .non)) (.not_ (.call 42 [V8]))) [.ret (.con (.bl false))] [],
 .if_ (.and_ (.cmp .Eq (.blt .len [v4]) (.blt .len [V7])) (.not_ (.call 51 [V8,v6]))) [.ret (.con (.bl false))] [],
 .if_ (.and_ (.cmp .Gt (.blt .len [v4]) (.blt .len [V7])) (.cmp .Gt (.blt .len [V7]) N0)) [.if_ (.not_ (.call 56 [v6, V8, (.ix v4 (.neg N1)), (.blt .len [v4])])) [.ret (.con (.bl false))] []] []]
theorem HQ(m30:m<=30)(hp:p0∈PP m how shift)(ok:kj (PP m how shift) p0 b Ds)(l60:b=true->Ds.length<=60)(l200:Ds.length<=200)(k:Nat)(hk:k<Ds.length){Es:List Dd}(c:CH m how shift C q Es)(et:Es.map Dd.T=(Ds.take k).map Dd.T)(s1:0<k->Su p0 b q k)(hn:h[0]?=some (.lst (C.map Sd.W++[q.W])))(r5:Option W) :
  ∃C' q' Es' h',CH m how shift C' q' Es'/\Es'.map Dd.T=(Ds.take (k+1)).map Dd.T/\Su p0 b q' (k+1)/\h'[0]?=some (.lst (C'.map Sd.W++[q'.W]))/\a9 (ae FW tb 39) FW Kp (lS ns m how shift (some (i6 Ds)) (some (aw k)) none none none) h=.ok (.nx (lS ns m how shift (some (i6 Ds)) (some (aw k)) none none none)) h':=by
 have r:=c.rw
 have ck:C.length=k:=by have:=congrArg List.length et;rw[zj,zj,Zo,r.cl]at this;lia
 obtain⟨D,eD⟩:∃D,Ds[k]?=some D:=⟨_,zK hk⟩
 have ro:=(ok k D eD).srt
 have fit:=ro.fit hp
 obtain⟨q',e,su⟩:=sH hp zL (λz=>by have:=l60 z;lia) ro (λz=>by
  subst z
  cases c with
  |nil=>rfl
  |step D c f e=>simp at ck) s1
 rw[<- ck]at e
 obtain⟨t1,t2⟩:=IK (D:=D)
 have dd:=Qx 30 r m30 t2 (.inr rfl) fit hn
 rw[e]at dd
 obtain⟨H,eH⟩:∃H,h.set 0 (.lst (C.map Sd.W++[q.W]++[q'.W]))=H:=⟨_,rfl⟩
 refine⟨C++[q],q',Es++[sM D],H,.step _ c fit e,?_,su,by rw[<- eH,mT hn,zY];rfl,?_⟩
 ·rw[zY,et,List.take_succ,eD,zY]
  show _++[(sM D).T]=_++[D.T]
  rw[t1]
 ·simp! [show cU (i6 Ds) (.int k) h=.ok D.T h from cD rfl (by rw[Za,eD];rfl),show ae FW tb 39 48 [RG m how shift,D.T] h=.ok (.int (k+1:Nat)) H from dd.trans (by rw[<- eH,<- ck,<- zj (f:=Sd.W)];rfl),F1]
theorem Rk(m1:0<m)(m30:m<=30)(k:Nat)(hk:k+1<ns.length)(c:CH m how shift C q Ds)(hn:h[0]?=some (.lst (C.map Sd.W++[q.W])))(r6 r7 r8:Option W) :
  ∃C' q' Ds' h' r6 r7 r8,CH m how shift C' q' Ds'/\h'[0]?=some (.lst (C'.map Sd.W++[q'.W]))/\a9 (ae FW tb 39) FW EZ (lS ns m how shift (some (i6 Ds)) (some (aw k)) r6' r7' r8') h=.ok (.nx (lS ns m how shift (some (i6 Ds')) (some (aw k)) r6 r7 r8)) h':=by
 have r:=c.rw
 have X {j:Nat} (hj:j<ns.length) {hh}:cU (.scr (ns.map W.int)) (.int j) hh=.ok (.int ns[j]) hh:=cD (k:=j) rfl (by rw[Za,zK hj];rfl)
 obtain⟨C',q',Ds',H,c',hn',tn,e⟩:=tE ns[k] ns[k+1] k m1 m30 c hn
 have r':=c'.rw
 have p1:=sI 37 r hn
 have p2:=sI 37 r' hn'
 have a1:=NB 37 (h:=h) r
 have a2:=NB 37 (h:=H) r'
 refine⟨C',q',Ds',H,some (.lst (q.xs.map aJ)),some (i6 Ds),some (.lst (q'.xs.map aJ)),c',hn',?_⟩
 have nn:bD .Is (i6 Ds') .non H=.ok (.bl false) H:=rfl
 cases tn with
 |no =>
  have Q:=Dn r.ok.x1 (by have:=r.c2;lia) r.ok.x2
  simp! [p1,p2,a1,a2,e,X (show k<ns.length by lia),X hk,nn,same 39 (.lst (q.xs.map aJ)) H zL Q.1,ZG,zzJ,ZP,jN]
 |back eC eD =>
  have l:Ds.length=Ds'.length+1:=by rw[eD];simp
  simp! [p1,p2,a1,a2,e,X (show k<ns.length by lia),X hk,nn,show ¬ Ds'.length=Ds.length by lia,show ¬ Ds.length<Ds'.length by lia,zzJ,ZP,jN]
 | @deed D q' e0 =>
  have l:(Ds++[D]).length=Ds.length+1:=zS
  have ix:cU (i6 (Ds++[D])) (.int (-1)) H=.ok D.T H:=GI (by rw[zY];exact f7)
  by_cases z:Ds.length=0
  ·simp! [p1,p2,a1,a2,e,X (show k<ns.length by lia),X hk,nn,z,ZG,zzJ,show ¬ 1=0 by decide,and_false,ZP,jN]
  ·have K:=y8 r.ok (λx hx=>(r.tl x hx).2) kC (by rw[r.hg,zX (by rw[<- r.cl];exact z)]) e0
   have kp:=L8 (n:=C.length) (h:=H) 30 K r.ok.x1 (λx hx=>(r.tl x hx).1) (by have:=r'.ok.x1;rwa [zM]at this) (by have:=r.c2;lia) r.ok.x2 r'.ok.x2
   rw[<- r.cl]at kp
   simp! [p1,p2,a1,a2,e,X (show k<ns.length by lia),X hk,nn,show ¬ Ds.length+1=Ds.length by lia,show Ds.length<Ds.length+1 by lia,show 0<Ds.length by lia,ix,show ae FW tb 39 56 [.lst (q.xs.map aJ),.lst (q'.xs.map aJ),D.T,.int (Ds.length+1:Nat)] H=.ok (.bl true) H from kp,ZP,jN,zzJ]
theorem run(ns:List Int)(hl:ns.length<=63):ae FW (xK ds gl) 40 57 [.scr (ns.map W.int)] []=.ok (.bl true) []:=by
 rw[M8,ah (g:=⟨1,9,HG,none⟩) rfl rfl]
 obtain⟨m12,e0,h0⟩:∃n:Nat,(cell ns 0).fmod 12=n/\n<12:=aQ _ zD
 obtain⟨z5,e5,h5⟩:∃n:Nat,((cell ns 0).fdiv 12).fmod 5=n/\n<5:=aQ _ zD
 obtain⟨how,e1,h1⟩:∃n:Nat,(cell ns 1).fmod 363=n/\n<363:=aQ _ zD
 obtain⟨shift,e2,h2⟩:∃n:Nat,(cell ns 2).fmod 676=n/\n<676:=aQ _ zD
 obtain⟨m,em,m1,m30⟩:∃m:Nat,(∀hh,cU (.lst [.int (1+(m12:Int)),.int 30]) (.int (if z5=1 then 1 else 0)) hh=.ok (.int m) hh)/\0<m/\m<=30:=by
  by_cases g:z5=1
  ·exact⟨30,λhh=>by rw[zF g];exact Ht,zD,zD⟩
  ·exact⟨1+m12,λhh=>by rw[zP g];exact DF,zL,zL⟩
 have c:∀(k:Nat) (h:aa),ae FW tb 39 38 [.scr (ns.map W.int),.int (k:Int)] h=.ok (.int (cell ns k)) h:=λk h=>yC (d:=38) rfl ns k h
 have pe:ae FW tb 39 39 [.int m,.int how,.int shift] []=.ok (.lst ((PP m how shift).map W.str)) []:=tJ (d:=38) rfl m how shift [] zL zL
 have rn:ae FW tb 39 2023 [.lst ((PP m how shift).map W.str)] []=.ok (RG m how shift) [.lst [Ee]]:=Eh (fw:=FW) (tb:=tb) (f:=23) (sf:=22) (cn:=2) (c:=0) (isn:=0) (tw:=1) rfl rfl rfl rfl rfl zD 36 (.lst ((PP m how shift).map W.str)) (PP m how shift) [] (.inl rfl) (by rw[cP];exact m1) (by rw[cP];lia) qC (sO zL)
 obtain⟨Ds,b,ok,l60,l200,bg⟩:=Jl (m:=m) (how:=how) (shift:=shift) (ns:=ns) (h:=[.lst [Ee]]) 37 20 40 m1 m30 zD zD
 obtain⟨σ,H,o1,C,q,Es,r5,rfl,cc,et,ck,hn,su⟩:=sP (i:=5) (n:=Ds.length) (body:=a9 (ae FW tb 39) FW Kp) (σ:=lS ns m how shift (some (i6 Ds)) none none none none) (h:=[.lst [Ee]])
  (Iv:=λk σ H=>∃C q Es r5,σ=lS ns m how shift (some (i6 Ds)) r5 none none none/\CH m how shift C q Es/\Es.map Dd.T=(Ds.take k).map Dd.T/\C.length=k/\H[0]?=some (.lst (C.map Sd.W++[q.W]))/\(0<k->Su (aR how shift 0) b q k)) (λk σ H hk iv=>by
   obtain⟨C,q,Es,r5,rfl,cc,et,ck,hn,su⟩:=iv
   obtain⟨C',q',Es',H',c',et',su',hn',e⟩:=HQ m30 (LU m1) ok l60 l200 k hk cc et su hn r5
   have l':=c'.rw.cl
   have:=congrArg List.length et'
   rw[zj,zj,Zo]at this
   exact⟨_,_,e,C',q',Es',_,rfl,c',et',zL,hn',λ_=>su'⟩) ⟨[],Dx,[],none,rfl,.nil,rfl,rfl,rfl,λz=>absurd z zD⟩
 rw[zzm]at et
 have te:i6 Ds=i6 Es:=congrArg W.lst et.symm
 obtain⟨cf,ecf⟩:∃cf,cf=ae FW tb 39:=⟨_,rfl⟩
 have ln {hh}:bK .len [.scr (ns.map W.int)] hh=.ok (.int ns.length) hh:=by
  have:=cM (cf:=cf) (a:=.con (.scr (ns.map W.int))) (σ:=[]) (h:=hh) (us:=ns.map W.int) ax rfl
  rwa [af,aq ax aA,ag,zj]at this
 have rg:aL (ae FW tb 39) FW (.for_ [5] (.rng2 false N4 (.bin .Sub (.blt .min [(.blt .len [V0]),Ho]) N1)) EZ) (lS ns m how shift (some (i6 Es)) r5 none none none) H=fo [5] (a9 (ae FW tb 39) FW EZ) ((List.range ((((min ns.length 60:Nat):Int)-1-4+2-1)/2).toNat).map λ(k:Nat)=>W.int (4+(k:Int)*2)) (lS ns m how shift (some (i6 Es)) r5 none none none) H:=by
  have e:af (ae FW tb 39) (.bin .Sub (.blt .min [(.blt .len [V0]),Ho]) N1) (lS ns m how shift (some (i6 Es)) r5 none none none) H=.ok (.int (((min ns.length 60:Nat):Int)-1)) H:=by
   simp! [ln,show ∀hh,bK .min [.int ns.length,.int 60] hh=_ from uP ns.length 60]
  rw[aL,ax,ag,e,ag]
  dsimp only
  rw[zF zL]
  rfl
 obtain⟨σ,H2,o2,C,q,Ds2,r5',r6,r7,r8,rfl,cc,hn⟩:=mn (is:=[5]) (body:=a9 (ae FW tb 39) FW EZ) (Iv:=λ_ σ H=>∃C q Ds r5 r6 r7 r8,σ=lS ns m how shift (some (i6 Ds)) r5 r6 r7 r8/\CH m how shift C q Ds/\H[0]?=some (.lst (C.map Sd.W++[q.W]))) ((List.range ((((min ns.length 60:Nat):Int)-1-4+2-1)/2).toNat).map λ(k:Nat)=>W.int (4+(k:Int)*2)) 0 (lS ns m how shift (some (i6 Es)) r5 none none none) H (λi w σ H hw iv=>by
   obtain⟨C,q,Ds,r5,r6,r7,r8,rfl,cc,hn⟩:=iv
   obtain⟨k,hk,rfl⟩:=Zs.mp (zH hw)
   have hk:=ZE.mp hk
   rw[show(4:Int)+(k:Int)*2=((4+2*k:Nat):Int) by lia]
   obtain⟨C',q',Ds',h',r6',r7',r8',c',hn',e⟩:=Rk (r6':=r6) (r7':=r7) (r8':=r8) (ns:=ns) m1 m30 (4+2*k) zL cc hn none none none
   exact⟨_,_,_,rfl,e,C',q',Ds',_,r6',r7',r8',rfl,c',hn'⟩) ⟨C,q,Es,r5,none,none,none,rfl,cc,hn⟩
 have r:=cc.rw
 have pr:=sI 37 r hn
 suffices S:a9 (ae FW tb 39) FW HG [some (.scr (ns.map W.int)),none,none,none,none,none,none,none,none] []=.ok (.ret (.bl true)) H2 by
  show J.fin 0 (a9 (ae FW tb 39) FW HG [some (.scr (ns.map W.int)),none,none,none,none,none,none,none,none] [])=_
  rw[S]
  rfl
 have fn:a9 (ae FW tb 39) FW [.ret (.or_ (.cmp .Eq (.blt .len [v4]) N0) (.cmp .Gt (.blt .len [(.mth 35 Y3 [])]) N0))] (lS ns m how shift (some (i6 Ds2)) r5' r6 r7 r8) H2=.ok (.ret (.bl true)) H2:=by
  by_cases z:Ds2.length=0
  ·simp! [z,pr];rfl
  ·simp! [z,pr,r.x0 (by rw[<- r.cl];lia),zzL,ZP];rfl
 have st:∀R,a9 (ae FW tb 39) FW (HG.take 4++R) [some (.scr (ns.map W.int)),none,none,none,none,none,none,none,none] []=a9 (ae FW tb 39) FW R (lS ns m how shift (some (i6 Ds)) none none none none) [.lst [Ee]]:=λR=>by
  simp! [HG,Zr,ZW,show ∀hh,ae FW tb 39 38 [.scr (ns.map W.int),.int 0] hh=_ from c 0,show ∀hh,ae FW tb 39 38 [.scr (ns.map W.int),.int 1] hh=_ from c 1,show ∀hh,ae FW tb 39 38 [.scr (ns.map W.int),.int 2] hh=_ from c 2,md e0 (show(12:Int)≠0 by decide),λhh=>show dQ .FloorDiv (.int (cell ns 0)) (.int 12) hh=_ from dv zD zD,md e5 (show(5:Int)≠0 by decide),md e1 (show(363:Int)≠0 by decide),md e2 (show(676:Int)≠0 by decide),em,pe,rn,show ae FW tb 39 43 [.scr (ns.map W.int),.lst ((PP m how shift).map W.str),.int 20,.int 40] [.lst [Ee]]=_ from bg]
 refine(st (HG.drop 4)).trans ((ak ((tX (n:=Ds.length) ((cM (x:=i6 Ds) (us:=Ds.map Dd.T) (U4 rfl) rfl).trans (by rw[zj])) zL).trans o1)).trans ?_)
 rw[te]
 exact(ak (rg.trans o2)).trans fn
end Law
namespace PySem.W.Fast
def tw9487581390674652843:=0
def tw2395471160290791327:=0
def tw13013165780424179001:=0
def tw6216899173729406256:=0
def tw3745922248577312953:=0
def tw7205076413315733946:=0
def tw3625349162562880512:=0
def tw833709665869809392:=0
def tw5483331066755319470:=0
def tw2623008085635351779:=0
def tw14833215716379159344:=0
def tw5550302651890137997:=0
def tw4963308748103891882:=0
def tw16768483102554466126:=0
def tw5971055793664672479:=0
def tw9013302385010271739:=0
def tw378729335589347331:=0
def tw12651740333641436563:=0
def tw4029677137709723113:=0
def tw8357894512054659307:=0
def tw14772187933541092948:=0
def tw192377489924029457:=0
def tw1293941669977355674:=0
def tw14507400786731056144:=0
def tw13419152211791912366:=0
def tw207386890638941898:=0
def tw14968299255874499151:=0
def tw3624311767831357773:=0
def tw15487318516945900285:=0
def tw2914917207321258100:=0
def tw342977266764792300:=0
def tw9104648696060707830:=0
def tw12471938365625066671:=0
def tw1946078041799482037:=0
def tw1265247868413343390:=0
def tw7386147817993308626:=0
def tw9219130161929501904:=0
def tw14747979842826126240:=0
def tw16027957298247849867:=0
def tw12316760402061303941:=0
def tw16513560846594786314:=0
def tw8862137006046821782:=0
def tw7540046485137036681:=0
def tw4062995207454123810:=0
def tw404404548158968306:=0
def tw12603759661205782720:=0
def tw7736708343465406435:=0
def tw13807282455485077382:=0
def tw13735345585767770854:=0
def tw16687596793223910061:=0
def tw13263008443800891593:=0
def tw602124550240743967:=0
def tw70830201433762077:=0
def tw6731459169298944645:=0
def tw10163086865890974373:=0
def tw7238760440966998163:=0
def tw10944807669265725725:=0
def tw9909395249152641096:=0
def tw14276783514310504757:=0
def tw14566787469601499182:=0
def tw6027967950691777334:=0
def tw5766286890426534335:=0
def tw2184752099542439610:=0
def tw5399587291726408865:=0
def tw15328983676551724913:=0
def tw17201076324902560760:=0
def tw16850690074991998260:=0
def tw5387032796801782552:=0
def tw10646186864574445903:=0
def tw5951201632047519388:=0
def tw11552147537192523390:=0
def tw15412252268189229402:=0
def tw2030518162003459102:=0
def tw6418153903190710333:=0
def tw1082309412352409807:=0
def tw3278899283272336479:=0
def tw16916229960826708401:=0
def tw3853293532275193961:=0
def tw1108945853936444582:=0
def tw1371681702991965227:=0
def tw7387328152777616417:=0
def tw11537747012837392632:=0
def tw10271821303722040457:=0
def tw10233677856623173288:=0
def tw5298066260429197953:=0
def tw4633639989241577925:=0
def tw2186153350390200686:=0
def tw4592152705433884789:=0
def tw4022330907715973405:=0
def tw18324334241391113947:=0
def tw12448266289791683832:=0
def tw17597285309853627048:=0
def tw7677741307541130663:=0
def tw9570331384563561821:=0
def tw17221539480421319213:=0
def tw6354959563917607591:=0
def tw13953223019090172597:=0
def tw13301854563877834920:=0
def tw7819086490873174299:=0
def tw1584278994107171766:=0
def tw13376489734064784015:=0
def tw6149397033125219014:=0
def tw12611876880694262836:=0
def tw16546664384738427475:=0
def tw15249718254912468221:=0
def tw7222726899287068792:=0
def tw18255340295750075748:=0
def tw13713798121974573418:=0
def tw7911378586502262833:=0
def tw4687413674953943637:=0
def tw12367334225362945239:=0
def tw10825813809273092617:=0
def tw18079104218538030390:=0
def tw6510099760708089139:=0
def tw1791839869931106636:=0
def tw14927958337861066315:=0
def tw8259776689371647794:=0
def tw11181304157503365901:=0
def tw16039942178521915895:=0
def tw2095023980775656101:=0
def tw2294947177625272385:=0
def tw1915235230844534026:=0
def tw4152034894296247660:=0
def tw2593124911017519953:=0
def tw1999647852279821602:=0
def tw13605475477748894819:=0
def tw8340779032873642956:=0
def tw14089041578161623136:=0
def tw2338442009625428163:=0
def tw4834713454572974579:=0
def tw9942404908339565971:=0
def tw1729103611140198785:=0
def tw9509818843564932994:=0
def tw18398959236162682735:=0
def tw8034701985879513568:=0
def tw3501407002881996205:=0
def tw8552425266867959929:=0
def tw3232228153361966126:=0
def tw16148056279316259870:=0
def tw2023661671084155550:=0
def tw13516102629100881314:=0
def tw10961749813288533924:=0
def tw3771924613169936633:=0
def tw3164336075155399044:=0
def tw2595231147563982374:=0
def tw4706770369323522262:=0
def tw7521089613454664603:=0
def tw4092153708987166344:=0
def tw4004504814091738678:=0
def tw8343972104458104537:=0
def tw1070277364113635463:=0
def tw8547750981425345734:=0
def tw15919590515981743990:=0
def tw15597749292721219659:=0
def tw11677796619772142003:=0
def tw15658993252803434321:=0
def tw11895501452346023509:=0
def tw12941143554469112219:=0
def tw18289497460692776065:=0
def tw15137066731210454790:=0
def tw14458017762381218683:=0
def tw14445602019286252524:=0
def tw2838775876813075679:=0
def tw12192749621145293572:=0
def tw3931674478112966553:=0
def tw1666735937572528108:=0
def tw5430557342822084301:=0
def tw1225739740059709740:=0
def tw2158697194149501030:=0
def tw12819987983215187488:=0
def tw12878245796143056847:=0
def tw13173164070968542689:=0
def tw15311552898019072039:=0
def tw1987626662045960116:=0
def tw13918426901046713:=0
def tw13370424292577049464:=0
def tw4056737836229017961:=0
def tw6998427931688174473:=0
def tw16106194900026424410:=0
def tw15832166987946570905:=0
def tw3496946684710994884:=0
def tw12614739754211532810:=0
def tw8466540662416816990:=0
def tw44283250862048862:=0
def tw840628133264909095:=0
def tw17968222521212092847:=0
def tw6156225236883437967:=0
def tw1816728418160264458:=0
def tw10171492945919272419:=0
def tw4348392251561425906:=0
def tw7386191222406943211:=0
def tw6671854377120877051:=0
def tw167150619761086576:=0
def tw1513802440561308601:=0
def tw8079679549150904249:=0
def tw11621737741944280784:=0
def tw15915275854511722483:=0
def tw3097138639518285123:=0
def tw2398544837847257214:=0
def tw3886089523062962688:=0
def tw924045816520786783:=0
def tw9326400595587508285:=0
def tw5392120666509007635:=0
def tw3017535410912399610:=0
def tw2579041097457227542:=0
def tw12945367242782221100:=0
def tw8347435449084836346:=0
def tw4544238972454885631:=0
def tw3192480343624568724:=0
def tw12814992468536874459:=0
def tw9962417636181813306:=0
def tw13448584705659619373:=0
def tw9200758517541026646:=0
def tw12671021346787707242:=0
def tw15131086991686101963:=0
def tw4077162606168667221:=0
def tw5386443163344175790:=0
def tw2191889845268959066:=0
def tw11796638184349277489:=0
def tw9106754758400707614:=0
def tw17625271865286768426:=0
def tw2228094726583768248:=0
def tw697728653732249018:=0
def tw4694738013855214191:=0
def tw14552066565033005204:=0
def tw10569066873686705032:=0
def tw16726836424525891293:=0
def tw17619585755546075679:=0
def tw9002965132502712564:=0
def tw4988109096059212241:=0
def tw18441838904866603038:=0
def tw8024228071146011225:=0
def tw10502856372993508465:=0
def tw14146151698960680236:=0
def tw18387597621504018141:=0
def tw8154054342449262270:=0
def tw3261675106540131154:=0
def tw3234801521669547036:=0
def tw14766104950646090758:=0
def tw3388995744755988860:=0
def tw926784108704155589:=0
def tw6521146184535492562:=0
def tw4863616422015119361:=0
def tw11527090962879277499:=0
def tw9650511153403314844:=0
def tw8193059520586478579:=0
def tw1255392324797801610:=0
def tw1798678506501372452:=0
def tw17606321028511261501:=0
def tw14983059479065877919:=0
end PySem.W.Fast
open PySem PySem.W PyProof.Rows
set_option maxRecDepth 100000 in
set_option maxHeartbeats 0 in
theorem PySem.Challenge.cw_jointhold_k33_whole_parts_stay_holds : PySem.Challenge.rw_jointhold_k33_whole_parts_stay.Holds := by
  w_on;o_law;k_head;(case hw=>w_witness2)
  k_fill
  refine J.walk (l:=PySem.Challenge.rw_jointhold_k33_whole_parts_stay) (i:=57) (df:=Law.d57) rfl rfl (fun w h Y=>PySem.W.kIn_of Y) (J.made_ok Law.made) rfl rfl rfl rfl ?L (fun ns hl=>Law.run ns hl)
  intro w mg fa h KX G hmg
  refine' J.with_ocl KX (J.ocl0 ?zn ?zi ?zh ?zp ?zs ?zf0 ?zf1 ?zf2 ?zf3) fun O0=>?M0;(case zn=>k_is);(case zi=>k_is);(case zh=>k_is);(case zp=>k_is);(case zs=>k_is);(case zf0=>k_is);(case zf1=>k_is);(case zf2=>k_is);(case zf3=>k_is)
  refine' J.with_ocl KX (J.ocl1 ?zn ?zi ?zh ?zp ?zs ?zf0 ?zf1) fun O1=>?M1;(case zn=>k_is);(case zi=>k_is);(case zh=>k_is);(case zp=>k_is);(case zs=>k_is);(case zf0=>k_is);(case zf1=>k_is)
  refine' J.laid_all (Cs:=[_,_,_,_,_,_,_,_,_,_,_,_]) KX G ?D ?Z ?zg ?zu
  (case D=>simp only [Law.ds,J.AllP,and_true];refine' ⟨?_,?_,?_,?_,?_,?_,?_,?_,?_,?_,?_,?_,?_,?_,?_,?_,?_,?_,?_,?_,?_,?_,?_,?_,?_,?_,?_,?_,?_,?_,?_,?_,?_,?_,?_,?_,?_,?_,?_,?_,?_,?_,?_,?_,?_,?_,?_,?_,?_,?_,?_,?_,?_,?_,?_,?_,?_,?_⟩;(iterate 22 (refine' J.laid_mk KX G rfl ?zb ?za ?zl ?zc ?zk;(case za=>k_is);(case zl=>k_is);(case zc=>k_is);(case zk=>k_is);(case zb=>first | exact J.bo1 rfl (by intros;rfl) | exact J.bo2 rfl (by intros;rfl) | exact J.bo3 rfl (by intros;rfl) | exact J.bo4 rfl (by intros;rfl) | exact J.bo5 rfl (by intros;rfl) | exact J.bo6 rfl (by intros;rfl) | exact J.bo7 rfl (by intros;rfl))));(refine' J.laid_ini KX G (d:=Law.d22) O0 (by decide) ?zm ?zi ?zb ?za ?zl ?zc ?zk ?zt;(case zm=>k_is);(case zi=>k_is);(case za=>k_is);(case zl=>k_is);(case zc=>k_is);(case zk=>k_is);(case zb=>first | exact J.bo1 rfl (by intros;rfl) | exact J.bo2 rfl (by intros;rfl) | exact J.bo3 rfl (by intros;rfl) | exact J.bo4 rfl (by intros;rfl) | exact J.bo5 rfl (by intros;rfl) | exact J.bo6 rfl (by intros;rfl) | exact J.bo7 rfl (by intros;rfl));(case zt=>k_is));(refine' J.laid_ini KX G (d:=Law.d23) O1 (by decide) ?zm ?zi ?zb ?za ?zl ?zc ?zk ?zt;(case zm=>k_is);(case zi=>k_is);(case za=>k_is);(case zl=>k_is);(case zc=>k_is);(case zk=>k_is);(case zb=>first | exact J.bo1 rfl (by intros;rfl) | exact J.bo2 rfl (by intros;rfl) | exact J.bo3 rfl (by intros;rfl) | exact J.bo4 rfl (by intros;rfl) | exact J.bo5 rfl (by intros;rfl) | exact J.bo6 rfl (by intros;rfl) | exact J.bo7 rfl (by intros;rfl));(case zt=>k_is));(iterate 14 (refine' J.laid_mth O1 rfl (by decide +kernel) ?zb ?za ?zl ?zc ?zk ?zt;(case za=>k_is);(case zl=>k_is);(case zc=>k_is);(case zk=>k_is);(case zb=>first | exact J.bo1 rfl (by intros;rfl) | exact J.bo2 rfl (by intros;rfl) | exact J.bo3 rfl (by intros;rfl) | exact J.bo4 rfl (by intros;rfl) | exact J.bo5 rfl (by intros;rfl) | exact J.bo6 rfl (by intros;rfl) | exact J.bo7 rfl (by intros;rfl));(case zt=>k_is)));(iterate 20 (refine' J.laid_mk KX G rfl ?zb ?za ?zl ?zc ?zk;(case za=>k_is);(case zl=>k_is);(case zc=>k_is);(case zk=>k_is);(case zb=>first | exact J.bo1 rfl (by intros;rfl) | exact J.bo2 rfl (by intros;rfl) | exact J.bo3 rfl (by intros;rfl) | exact J.bo4 rfl (by intros;rfl) | exact J.bo5 rfl (by intros;rfl) | exact J.bo6 rfl (by intros;rfl) | exact J.bo7 rfl (by intros;rfl)))))
  (case Z=>simp only [J.bltNames,J.AllP,and_true];refine' ⟨?_,?_,?_,?_,?_,?_,?_,?_,?_,?_,?_,?_,?_,?_,?_,?_,?_,?_,?_⟩ <;> k_is)
  (case zg=>simp only [Law.gl,J.AllP,J.GlAt,and_true,true_and,List.getD_cons_zero,List.getD_cons_succ];refine' ⟨?_,?_,?_,?_,?_,?_,?_,?_,?_,?_,?_,?_,?_,?_,?_,?_,?_,?_,?_,?_,?_⟩;(refine' J.con_str (PySem.W.mg_of KX G ?zq);(case zq=>k_is));(iterate 3 (refine' J.con_int (PySem.W.mg_of KX G ?zq);(case zq=>k_is)));(refine' J.con_tup (is:=[1,1]) (PySem.W.mg_of KX G ?zq) ?zp ?zv ?zz;(case zq=>k_is);(case zp=>k_is);(case zv=>exact .cons ⟨_,rfl⟩ (.cons ⟨_,rfl⟩ (.nil)));(case zz=>decide));(iterate 3 (refine' J.con_int (PySem.W.mg_of KX G ?zq);(case zq=>k_is)));(iterate 12 (refine' ⟨Nat.le_of_ble_eq_true rfl,J.err_mk KX G ?zx ?zy ?zv ?zw,?zr,?zs,?zt⟩;(case zx=>k_is);(case zy=>k_is);(case zv=>k_exc);(case zw=>rfl);(case zr=>unfold J.FE;k_is);(case zs=>unfold J.FE;k_is);(case zt=>unfold J.FE;k_is)));(refine' J.bas_mk KX G ?zx ?zy ?zv ?zw;(case zx=>k_is);(case zy=>k_is);(case zv=>k_exc);(case zw=>rfl)))
  (case zu=>decide)
