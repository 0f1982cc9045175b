import PyProof.Rows.All
import Wide.All
import OpenK.AllK
import Wide.FinOn
import Lean
import PyProof.EqAt
import PyProof.EqKinds
import PyProof.TupleCall
import PySem.Challenge.RW_jointhold_k21_sixty_parts
theorem ZzD{p:Prop}(h:p:=by decide):p:=h
theorem ZzO{p:Prop}(h:p:=by omega):p:=h
theorem ZzL{p:Prop}(h:p:=by lia):p:=h
theorem ZzS{p:Prop}(h:p:=by simp):p:=h
abbrev zd:=@PySem.wpAny_bind
abbrev ze:=@List.getElem?_eq_some_iff
abbrev zf:=@Nat.le_trans
abbrev zj:=@Nat.lt_of_lt_of_le
abbrev zo:=@List.length_map
abbrev zA:=@List.length_append
abbrev zB:=@List.mem_cons_of_mem
abbrev zC:=@List.mem_of_getElem?
abbrev zD:=@Nat.le_refl
abbrev zE:=@Bool.and_eq_true
abbrev zF:=@if_pos
abbrev zG:=@PySem.Heap.get?_push_size
abbrev zH:=@PySem.wpAny_pure
abbrev zI:=@List.getElem?_append_left
abbrev zJ:=@List.getElem?_eq_getElem
abbrev zK:=@List.getElem?_append_right
abbrev zL:=@PySem.Heap.lt_size
abbrev zM:=@if_neg
abbrev zN:=@List.mem_cons_self
abbrev zO:=@List.map_cons
abbrev zP:=@List.mem_singleton
abbrev zQ:=@Nat.lt_of_le_of_lt
abbrev zR:=@Bool.false_ne_true
abbrev zS:=@List.mem_cons
abbrev zT:=@List.getElem?_map
abbrev zU:=@Nat.ne_of_lt
abbrev zV:=@decide_eq_false
abbrev zW:=@Option.some.inj
abbrev zX:=@decide_eq_true
abbrev zY:=@List.getElem?_set_ne
abbrev zZ:=@List.getElem?_set_self
abbrev z0:=@List.length_cons
abbrev z9:=@Nat.pow_le_pow_right
abbrev Za:=@List.mem_append
abbrev Zb:=@List.mem_append_right
abbrev Zc:=@List.map_append
abbrev Zd:=@of_decide_eq_true
abbrev Ze:=@List.mem_append_left
abbrev Zf:=@List.append_nil
abbrev Zg:=@Option.map_eq_some_iff
abbrev Zh:=@List.size_toArray
abbrev Zi:=@List.exists_cons_of_length_eq_add_one
abbrev Zj:=@PySem.sizeLine_eq
abbrev Zk:=@List.length_take
abbrev Zl:=@decide_eq_true_eq
abbrev Zm:=@List.length_singleton
abbrev Zn:=@PySem.wpAny_field
abbrev Zo:=@List.mem_or_eq_of_mem_set
abbrev Zp:=@Bool.not_eq_true
abbrev Zq:=@PySem.wpAny_setField_rec
abbrev Zr:=@List.not_mem_nil
abbrev Zs:=@PySem.wpAny_loadPart_at
abbrev Zt:=@Int.toNat_natCast
abbrev Zu:=@PySem.wpAny_holding
abbrev Zv:=@List.lookup_cons
abbrev Zw:=@List.nodup_append
abbrev Zx:=@List.mem_map
abbrev Zy:=@List.map_nil
abbrev Zz:=@PySem.wpAny_callSpecial?_slot
abbrev ZA:=@PySem.wpAny_mono
abbrev ZB:=@List.all_cons
abbrev ZC:=@List.take_length
abbrev ZD:=@List.getElem?_eq_none_iff
abbrev ZE:=@PySem.wpAny_truthy_bool
abbrev ZF:=@List.mem_range
abbrev ZG:=@Option.isSome_iff_exists
abbrev ZH:=@PySem.W.of_hideAll
abbrev ZI:=@PySem.F.called_set
abbrev ZJ:=@List.length_mapIdx
abbrev ZK:=@Nat.le_succ
abbrev ZL:=@List.getElem?_mapIdx
abbrev ZM:=@List.getElem_mem
abbrev ZN:=@Nat.lt_irrefl
abbrev ZO:=@Nat.ne_of_gt
abbrev ZP:=@List.append_assoc
abbrev ZQ:=@Nat.zero_le
abbrev ZR:=@List.nodup_cons
abbrev ZS:=@PySem.wpAny_call_entry
abbrev ZT:=@List.pairwise_cons
abbrev ZU:=@Nat.mod_lt
abbrev ZV:=@Nat.zero_add
abbrev ZW:=@PySem.Heap.size_push
abbrev ZX:=@List.length_range
abbrev ZY:=@PySem.mem_of_lookup
abbrev ZZ:=@beq_eq_false_iff_ne
abbrev Z0:=@PyProof.Rows.F.plain_set_update_loop
abbrev Z1:=@PySem.wpAny_isSubtype_exc
abbrev Z2:=@PyProof.Rows.callWith_type1
abbrev Z3:=@List.take_of_length_le
abbrev Z4:=@PySem.F.isi_meta_tuple
abbrev Z5:=@List.all_eq_true
abbrev Z6:=@PySem.wpAny_Call_Name_kw
abbrev Z7:=@List.zip_cons_cons
abbrev Z8:=@Nat.mul_le_mul
abbrev Z9:=@PySem.F.slot_tuple_iterator_next
abbrev zza:=@PySem.wpAny_seqItems
abbrev zzb:=@PySem.F.isi_meta_bool
abbrev zzc:=@PySem.F.isi_meta_list
abbrev zzd:=@List.mem_filter
abbrev zze:=@PySem.wpAny_passesOwn
abbrev zzf:=@List.nil_append
abbrev zzg:=@PySem.codeAny_builtin
abbrev zzh:=@Bool.or_eq_true
abbrev zzi:=@Ne.symm
abbrev zzj:=@PySem.wpAny_newObj_type
abbrev zzk:=@Nat.lt_trans
abbrev zzl:=@PySem.codeAny_call_builtin
abbrev zzm:=@List.map_map
abbrev zzn:=@PySem.F.isi_meta_int
abbrev zzo:=@PySem.F.isi_meta_str
abbrev zzp:=@List.any_cons
abbrev zzq:=@PySem.W.mg_of
abbrev zzr:=@PyProof.Rows.slot_tuple_getitem
abbrev zzs:=@List.map_congr_left
abbrev zzt:=@Nat.lt_succ_self
abbrev zzu:=@List.drop_zero
abbrev zzv:=@List.mem_filterMap
abbrev zzw:=@PySem.codeAny_mono
abbrev zzx:=@PySem.tupleKind_room_in1
abbrev zzy:=@List.drop_eq_nil_of_le
abbrev zzz:=@PySem.Answers.of_false_tuple
abbrev zzA:=@Nat.pos_of_ne_zero
abbrev zzB:=@List.find?_cons
abbrev zzC:=@PyProof.Rows.boot_isinstance
abbrev zzD:=@PySem.Answers.of_true
abbrev zzE:=@List.mem_mapIdx
abbrev zzF:=@PySem.wpAny_standAt
abbrev zzG:=@PySem.F.slot_enumerate_next
abbrev zzH:=@PySem.Answers.of_false_list
abbrev zzI:=@List.any_eq_false
abbrev zzJ:=@PySem.wpAny_pyIter_list
abbrev zzK:=@PySem.W.hideAll_none
abbrev zzL:=@Array.mem_toList_iff
abbrev zzM:=@or_false
abbrev zzN:=@PySem.Answers.of_false_int
abbrev zzO:=@PySem.Answers.of_false_str
abbrev zzP:=@Nat.sub_self
abbrev zzQ:=@List.drop_length
abbrev zzR:=@List.drop_eq_getElem_cons
abbrev zzS:=@List.filterMap_cons
abbrev zzT:=@List.drop_succ_cons
abbrev zzU:=@List.getElem?_take_of_lt
abbrev zzV:=@PySem.F.args_tuple_add_2
abbrev zzW:=@PySem.AutoSeq1.wpAny_loadPart'
abbrev zzX:=@Nat.gcd_pos_of_pos_right
abbrev zzY:=@Bool.eq_iff_iff
abbrev zzZ:=@PySem.Calls.spliced_cons
abbrev zz0:=@PySem.Code.quiet_builtin
abbrev zz1:=@of_decide_eq_false
abbrev zz2:=@Bool.not_eq_false'
abbrev zz3:=@List.getElem?_replicate
abbrev zz4:=@PySem.F.entry_tuple_add
abbrev zz5:=@PySem.F.plainAttrs_list
abbrev zz6:=@Nat.le_of_lt
abbrev zz7:=@PySem.F.slot_tuple_add
abbrev zz9:=@PyProof.Rows.boot_list
abbrev Fg0:=PySem.W.Frag
abbrev hps0:=@PySem.Heap.get?_push_of_some
theorem obs {α β:Type _} {o:Option α} {f:α→Option β} {b:β} (h:o.bind f=some b):∃ a,o=some a∧f a=some b:=Option.bind_eq_some_iff.mp h
set_option genSizeOf false
set_option compiler.extract_closed false
set_option genSizeOf false
set_option compiler.extract_closed false
set_option Elab.async false
set_option linter.all false
set_option maxRecDepth 100000
namespace L2
open PySem PySem.Spec PyProof.Rows
abbrev bT:=Sum Int Str
noncomputable def mZ:bT->Value->Bool
 |.inl k,v=>Value.isInt k v
 |.inr x,v=>Value.isStrOf x v
noncomputable def NM(w:World):bT->Int
 |.inl k=>hashInt k
 |.inr x=>hashStr w x
theorem ba:∀{k:bT}{v:Value},mZ k v=true->(∃i t,k=Sum.inl i/\v=Value.int i t)\/(∃x t,k=Sum.inr x/\v=Value.str x t)
 |.inl i,v,h=>by obtain⟨t,e⟩:=Value.isInt_shape   h;simp_all
 |.inr x,v,h=>by obtain⟨t,e⟩:=Value.isStrOf_shape   h;simp_all
theorem xn(i)(t):mZ (.inl i) (.int i t)=true:=by simp[mZ,Value.isInt]
theorem vN(x)(t):mZ (.inr x) (.str x t)=true:=by simp[mZ,Value.isStrOf]
theorem Hj(a b):decide ((Sum.inl a:bT)=Sum.inl b)=(a==b):=by grind
theorem FA(a b):decide ((Sum.inr a:bT)=Sum.inr b)=decide (a=b):=ZzS
theorem FI(a)(b):decide ((Sum.inl a:bT)=Sum.inr b)=false:=zV (λq=>nomatch q)
theorem He(a)(b):decide ((Sum.inr a:bT)=Sum.inl b)=false:=zV (λq=>nomatch q)
noncomputable def bc(prog:Program)(w:World):PySem.KeyKind prog w bT where
 is:=mZ
 hash:=NM w
 inj:=λv a b ha hb=>by rcases ba ha with⟨i,t,rfl,rfl⟩|⟨x,t,rfl,rfl⟩;rcases ba hb with⟨j,u,rfl,e⟩|⟨y,u,rfl,e⟩;injection e with e1 _;rw[e1];exact nomatch e;rcases ba hb with⟨j,u,rfl,e⟩|⟨y,u,rfl,e⟩;exact nomatch e;injection e with e1 _;rw[e1]
 byValue:=λk v h=>by rcases ba h with⟨i,t,rfl,rfl⟩|⟨x,t,rfl,rfl⟩<;>rfl
 pyHash:=λhv h=>by rcases ba hv with⟨i,t,rfl,rfl⟩|⟨x,t,rfl,rfl⟩;exact wpAny_pyHash_int h;exact wpAny_pyHash_str h
 eqBool:=λhu hv h=>by rcases ba hu with⟨i,t,rfl,rfl⟩|⟨x,t,rfl,rfl⟩;rcases ba hv with⟨j,u,rfl,rfl⟩|⟨y,u,rfl,rfl⟩;rw[Hj]at h;exact wpAny_eqBool_int h;rw[FI]at h;exact SeqAt.EqAt.int_str i t y u _ _ _ _ h;rcases ba hv with⟨j,u,rfl,rfl⟩|⟨y,u,rfl,rfl⟩;rw[He]at h;exact SeqAt.EqAt.str_int x t j u _ _ _ _ h;rw[FA]at h;exact wpAny_eqBool_str h
 «strs»:=λk x t v h=>by rcases ba h with⟨i,u,rfl,e⟩|⟨y,u,rfl,e⟩;exact nomatch e;injection e with e1 _;subst e1;cases v<;>rfl
theorem pP(prog)(w)(i)(t):(bc prog w).is (.inl i) (.int i t)=true:=xn i t
theorem qc(prog)(w)(x)(t):(bc prog w).is (.inr x) (.str x t)=true:=vN x t
inductive V where
 |non|bl (b:Bool)|int (i:Int)|str (x:Str)|byt (b:Array UInt8)|flt (b:UInt64)|ref (a:Addr)|ty (n:String)
 deriving DecidableEq
def RelV:V->Value->Prop
 |.non,u=>u=Value.none
 |.bl b,u=>u=Value.bool b
 |.int i,u=>∃t,u=Value.int i t
 |.str x,u=>∃t,u=Value.str x t
 |.byt b,u=>∃t,u=Value.bytes b t
 |.flt b,u=>∃t,u=Value.float b t
 |.ref a,u=>u=Value.ref a
 |.ty n,u=>u=Value.type n
abbrev Vals:List V->List Value->Prop:=Paired RelV
theorem Vals.length(r:Vals xs us):xs.length=us.length:=Paired.length r
theorem Vals.get:∀{xs:List V}{us:List Value}{i:Nat}{x:V},Vals xs us->xs[i]?=some x->∃u,us[i]?=some u/\RelV x u
 |_,_,_,_,.nil,e=>by simp at e
 |_,_,0,_,.cons r _,e=>by simp_all
 |_,_,i+1,x,.cons _ t,e=>by obtain⟨u,h1,h2⟩:=Vals.get   t (by assumption);simp_all
theorem Vals.set(r:RelV x u):∀{xs:List V}{us:List Value} (i:Nat),Vals xs us->Vals (xs.set i x) (us.set i u)
 |_,_,_,.nil=>.nil
 |_,_,0,.cons _ t=>.cons r t
 |_,_,i+1,.cons q t=>.cons q (Vals.set r i t)
theorem Vals.append:∀{xs ys:List V}{us ws:List Value},Vals xs us->Vals ys ws->Vals (xs++ys) (us++ws)
 |_,_,_,_,.nil,s=>s
 |_,_,_,_,.cons r t,s=>.cons r (Vals.append t s)
theorem Vals.take:∀{xs:List V}{us:List Value} (n:Nat),Vals xs us->Vals (xs.take n) (us.take n)
 |_,_,0,_=>.nil
 |_,_,_+1,.nil=>.nil
 |_,_,n+1,.cons r t=>.cons r (Vals.take n t)
theorem Vals.drop:∀{xs:List V}{us:List Value} (n:Nat),Vals xs us->Vals (xs.drop n) (us.drop n)
 |_,_,0,r=>r
 |_,_,_+1,.nil=>.nil
 |_,_,n+1,.cons _ t=>Vals.drop n t
def RelO:Option V->Option Value->Prop
 |some v,some u=>RelV v u
 |none,none=>True
 |_,_=>False
def KV{κ:Type}:List (κ×V)->List (κ×Value)->Prop:=Paired λ(p:κ×V) (q:κ×Value)=>p.1=q.1/\RelV p.2 q.2
noncomputable def kV:bT->V
 |.inl i=>.int i
 |.inr x=>.str x
inductive HO where
 /-- a list -/
 |lst (xs:List V)
 /-- a tuple (never changes) -/
 |tup (xs:List V)
 /-- a dict whose keys are ints and texts;one whose keys are tuples of ints and texts (the empty one is both) -/
 |dK (kvs:List (bT×V))|dT (kvs:List (List bT×V))
 /-- a set of ints: its members,its size -/
 |set (S:Int->Bool) (n:Nat)
 /-- an instance of the class at C,its dict at dx,its attributes -/
 |ins (C dx:Addr) (fs:List (Str×V))
 /-- the dict of the instance at x -/
 |own (x:Addr)
 /-- the dict of an exception -/
 |xd (fs:List (Str×V))
 /-- a bound method,f of x -/
 |met (f x:Addr)
 /-- a range object lo,lo+1,.. below hi -/
 |rng (lo hi:Int)
 /-- a thing that is known to the object (the script;a dict while a loop walks it): read,never written while it is so -/
 |frz (o:Obj) (u:HO)
 /-- a code object's table -/
 |tbl (ps:Array Value)
 /-- any other thing,by what is true of its one object (a def of one's own: SetO a S n:=HO.ext λh=>..) -/
 |ext (φ:Heap->Prop)
abbrev Hp:=Addr->Option HO
noncomputable def aW(H:Hp)(a:Addr)(o:HO):Hp:=λb=>if b=a then some o else H b
theorem aE:aW H a o a=some o:=by unfold aW;grind
theorem a6(h:b≠a):aW H a o b=H b:=by unfold aW;grind
theorem uU:aW (aW H a o) a u=aW H a u:=by unfold aW;grind
theorem J5{H:Hp}(h:H a=some o)(h':H b=some u)(d:o≠u):a≠b:=by intro e;subst e;rw[h]at h';exact d (zW h')
theorem aX{H:Hp}(h:H a=some o)(h':H b=none):a≠b:=by grind
section
variable (P:Program) (w:World)
def ObjOk(H:Hp)(h:Heap)(a:Addr):HO->Prop
 |.lst xs=>xs.length<=sizeLine/\∃(its:List Value) (n:Nat),Vals xs its/\h.get? a=some { cls:=.type "list",data:=.seq its.toArray n }
 |.tup xs=>xs.length<=sizeLine/\∃its:List Value,Vals xs its/\IsTup h a its.toArray
 |.dK kvs=>kvs.length<=sizeLine/\(a==sysModules)=false/\∃vs,KV kvs vs/\h.DictOf (bc P w) a vs
 |.dT kvs=>kvs.length<=sizeLine/\(a==sysModules)=false/\∃xs:List (List bT×Addr×Value),
  Paired (λ(p:List bT×V) (q:List bT×Addr×Value)=>p.1=q.1/\H q.2.1=some (.tup (p.1.map kV))/\RelV p.2 q.2.2) kvs xs /\
  ∃o es ep,h.get? a=some o/\o.ExactDict/\o.data=.dict es ep/\es.toList=xs.map (entryOfKey (tupleKind (bc P w)))/\(xs.map (·.1)).Nodup
 |.set S n=>h.SetOf (intKind P w) a S n
 |.ins C dx fs=>H dx=some (.own a)/\fs.length<=1000/\dx≠a/\h.get? a=some (PySem.W.instObj C dx) /\
  ∃mA,h.Ns1 dx mA/\(∀f,RelO (fs.lookup f) (mA f))/\PySem.Within mA (fs.map (·.1))
 |.own _=>∃o,h.get? a=some o
 |.xd fs=>∃mA,h.Ns1 a mA/\∀f,RelO (fs.lookup f) (mA f)
 |.rng lo hi=>∃t u v,h.get? a=some { cls:=.type "range",data:=.fields #[.int lo t,.int hi u,.int 1 v] }
 |.frz o u=>h.get? a=some o/\ObjOk H h a u
 |.tbl ps=>h.get? a=some { cls:=.none,data:=.fields ps }
 |.met f x=>h.get? a=some (PySem.W.methodObj (.ref f) (.ref x))
 |.ext φ=>φ h/\(∃o,h.get? a=some o)/\∀h1 h2:Heap,φ h1->(∀o,h1.get? a=some o->h2.get? a=some o)->φ h2
def HOk(H:Hp)(h:Heap):Prop:=∀a o,H a=some o->ObjOk P w H h a o
end
section
variable {P:Program}{w:World}{H H':Hp}{h h':Heap}{a:Addr}{o:HO}
theorem ObjOk.lt(x:ObjOk P w H h a o):a<h.objs.size:=by
 cases o with
 |lst xs=>obtain⟨_,_,_,_,e⟩:=x;exact zL e
 |tup xs=>obtain⟨_,_,_,p⟩:=x;exact p.lt
 |dK kvs=>obtain⟨_,_,_,_,o,_,_,e,_⟩:=x;exact zL e
 |dT kvs=>obtain⟨_,_,_,_,o,_,_,e,_⟩:=x;exact zL e
 |set S n=>obtain⟨o,_,_,_,e,_⟩:=x;exact zL e
 |ins C dx fs=>obtain⟨_,_,_,e,_⟩:=x;exact zL e
 |own y=>obtain⟨_,e⟩:=x;exact zL e
 |xd fs=>obtain⟨_,⟨_,_,_,e,_⟩,_⟩:=x;exact zL e
 |rng lo hi=>obtain⟨_,_,_,e⟩:=x;exact zL e
 |frz ob u=>obtain⟨e,_⟩:=x;exact zL e
 |tbl ps=>exact zL (x)
 |met f y=>exact zL (show h.get? a=some _ from x)
 |ext φ=>obtain⟨_,⟨_,e⟩,_⟩:=x;exact zL e
theorem Paired.mapP:∀{l₁:List α}{l₂:List β},Paired F l₁ l₂->(∀a b,F a b->G a b)->Paired G l₁ l₂
 |_,_,.nil,_=>.nil
 |_,_,.cons r t,f=>.cons (f _ _ r) (Paired.mapP t f)
theorem ObjOk.stay(x:ObjOk P w H h a o)(k:∀b u,(b=a\/H b=some (.own a))->h.get? b=some u->h'.get? b=some u)
  (ho:∀b,H b=some (.own a)->H' b=some (.own a)) (ht:∀b xs,H b=some (.tup xs)->H' b=some (.tup xs)):ObjOk P w H' h' a o:=by
 induction o with
 |lst xs=>obtain⟨z,its,n,r,e⟩:=x;exact⟨z,its,n,r,k _ _ (.inl rfl) e⟩
 |tup xs=>obtain⟨z,its,r,ob,e,c⟩:=x;exact⟨z,its,r,ob,k _ _ (.inl rfl) e,c⟩
 |dK kvs=>obtain⟨z,y,vs,r,ob,es,ep,e,c⟩:=x;exact⟨z,y,vs,r,ob,es,ep,k _ _ (.inl rfl) e,c⟩
 |dT kvs =>
  obtain⟨z,y,xs,r,ob,es,ep,e,c⟩:=x
  exact⟨z,y,xs,Paired.mapP r λp q z=>⟨z.1,ht _ _ z.2.1,z.2.2⟩,ob,es,ep,k _ _ (.inl rfl) e,c⟩
 |set S n=>obtain⟨ob,es,ep,t,e,c⟩:=x;exact⟨ob,es,ep,t,k _ _ (.inl rfl) e,c⟩
 |ins C dx fs =>
  obtain⟨d,z,ne,e,mA,⟨od,es,ep,e2,c⟩,r⟩:=x
  exact⟨ho _ d,z,ne,k _ _ (.inl rfl) e,mA,⟨od,es,ep,k _ _ (.inr d) e2,c⟩,r⟩
 |own y=>obtain⟨ob,e⟩:=x;exact⟨ob,k _ _ (.inl rfl) e⟩
 |xd fs=>obtain⟨mA,⟨od,es,ep,e,c⟩,r⟩:=x;exact⟨mA,⟨od,es,ep,k _ _ (.inl rfl) e,c⟩,r⟩
 |rng lo hi=>obtain⟨t,u,v,e⟩:=x;exact⟨t,u,v,k _ _ (.inl rfl) e⟩
 |frz ob u ih=>obtain⟨e,q⟩:=x;exact⟨k _ _ (.inl rfl) e,ih q⟩
 |tbl ps =>
  have e:h.get? a=some { cls:=.none,data:=.fields ps }:=x
  show h'.get? a=some { cls:=.none,data:=.fields ps }
  exact k a _ (.inl rfl) e
 |met f y =>
  have e:h.get? a=some (PySem.W.methodObj (.ref f) (.ref y)):=x
  show h'.get? a=some (PySem.W.methodObj (.ref f) (.ref y))
  exact k a _ (.inl rfl) e
 |ext φ=>obtain⟨p,⟨o,e⟩,st⟩:=x;exact⟨st _ _ p λo q=>k _ _ (.inl rfl) q,⟨o,k _ _ (.inl rfl) e⟩,st⟩
theorem HOk.lt(x:HOk P w H h)(e:H a=some o):a<h.objs.size:=(x a o e).lt
theorem HOk.fresh(x:HOk P w H h)(e:h.objs.size<=a):H a=none:=by
 cases q:H a with
 |none=>rfl
 |some u=>exact absurd (zj (x.lt q) e) (ZN _)
theorem HOk.kept(x:HOk P w H h)(k:∀b u,h.get? b=some u->h'.get? b=some u):HOk P w H h':=λa o e =>
 (x a o e).stay (λb u _ q=>k b u q) (λ_ q=>q) λ_ _ q=>q
theorem HOk.laid(x:HOk P w H h)(k:∀b u,h.get? b=some u->h'.get? b=some u)(hp:h.objs.size<=a)(new:ObjOk P w (aW H a o) h' a o):HOk P w (aW H a o) h':=λb u e=>by have hn:=x.fresh hp;by_cases hb:b=a;subst hb;rw[aE]at e;cases e;exact new;rw[a6 hb]at e;exact(x b u e).stay (λc v _ q=>k c v q) (λc q=>by rw[a6 (aX q hn)];exact q) λc xs q=>by rw[a6 (aX q hn)];exact q
end
def Rd(H:Hp)(a:Addr)(u:HO):Prop:=H a=some u\/∃o,H a=some (.frz o u)
theorem Rd.ok(r:Rd H a u)(x:HOk P w H h):ObjOk P w H h a u:=by
 rcases r with r|⟨o,r⟩
 ·exact x a u r
 ·obtain⟨_,q⟩:=x a _ r
  lia
def JS:Option HO->Prop
 |some (.lst _)=>True
 |some (.dK _)=>True
 |some (.dT _)=>True
 |some (.set _ _)=>True
 |some (.ins _ _ _)=>True
 |some (.ext _)=>True
 |_=>False
section
variable {P:Program}{w:World}{H:Hp}{h h':Heap}{x e:Addr}{o':HO}
theorem HOk.write(ok:HOk P w H h)(mu:JS (H x))(he:e=x\/H e=some (.own x))(k:∀b u,b≠e->h.get? b=some u->h'.get? b=some u)(heo:∃u,h'.get? e=some u)
  (new:ObjOk P w (aW H x o') h' x o'):HOk P w (aW H x o') h':=λb u q=>by
 have nown:∀c y,H c=some (.own y)->c≠x:=λc y r z=>by subst z;rw[r]at mu;exact mu
 have ntup:∀c xs,H c=some (.tup xs)->c≠x:=λc xs r z=>by subst z;rw[r]at mu;exact mu
 by_cases hb:b=x
 ·subst hb;rw[aE]at q;cases q;exact new
 ·rw[a6 hb]at q
  by_cases hbe:b=e
  ·have q':H b=some (.own x):=by rcases he with z|z;exact absurd (hbe.trans z) hb;rw[hbe];exact z
   rw[q]at q';cases q'
   obtain⟨v,hv⟩:=heo
   exact⟨v,by rw[hbe];exact hv⟩
  ·refine(ok b u q).stay (λc v hc r=>k c v ?_ r) (λc r=>by rw[a6 (nown c b r)];exact r) λc xs r=>by rw[a6 (ntup c xs r)];exact r
   rcases hc with rfl|hc
   ·exact hbe
   ·rintro rfl
    rcases he with z|z
    ·exact nown c b hc z
    ·rw[hc]at z;cases z;exact hb rfl
end
structure Un (fs ex:List Addr) (H H':Hp) (h h':Heap):Prop where
 keep:∀b o,h.get? b=some o->H b=none->b∉fs->b∉ex->h'.get? b=some o
 slot:∀b o,h.get? b=some o->H b=none->b∈fs->b∉ex->∃sl,h'.get? b=some { o with slots:=sl }
 free:∀b o,h.get? b=some o->H b=none->b∉ex->H' b=none
 there:∀b o,h.get? b=some o->b∉ex->∃o',h'.get? b=some o'
 tups:∀b xs,H b=some (.tup xs)->H' b=some (.tup xs)
 frzs:∀b o u,H b=some (.frz o u)->H' b=some (.frz o u)
 tbls:∀b ps,H b=some (.tbl ps)->∃more,H' b=some (.tbl (ps++more))
section
variable {fs fs' ex ex':List Addr}{H H1 H2:Hp}{h h1 h2 h':Heap}{a x e:Addr}{o:HO}
theorem Un.any(u:Un fs ex H H1 h h1)(q:h.get? b=some ob)(n:H b=none)(hx:b∉ex):∃sl,h1.get? b=some { ob with slots:=sl }:=by by_cases hb:b∈fs;exact u.slot b ob q n hb hx;exact⟨ob.slots,u.keep b ob q n hb hx⟩
theorem Un.kept(k:∀b u,h.get? b=some u->h'.get? b=some u):Un fs ex H H h h' :=
 ⟨λb ob q _ _ _=>k b ob q,λb ob q _ _ _=>⟨ob.slots,k b ob q⟩,λ_ _ _ n _=>n,λb ob q _=>⟨ob,k b ob q⟩,λ_ _ q=>q,λ_ _ _ q=>q,λ_ ps q=>⟨#[],by simp_all⟩⟩
theorem Un.refl:Un fs ex H H h h:=Un.kept λ_ _ q=>q
theorem Un.laid(k:∀b u,h.get? b=some u->h'.get? b=some u)(hp:h.objs.size<=a)(hn:H a=none):Un fs ex H (aW H a o) h h' where
 keep:=λb u q _ _ _=>k b u q
 slot:=λb u q _ _ _=>⟨u.slots,k b u q⟩
 free:=λb u q n _=>by rw[a6 (zU (zj (zL q) hp))];lia
 there:=λb u q _=>⟨u,k b u q⟩
 tups:=λb xs q=>by rw[a6 (aX q hn)];lia
 frzs:=λb u xs q=>by rw[a6 (aX q hn)];lia
 tbls:=λb ps q=>⟨#[],by rw[a6 (aX q hn),q];rfl⟩
theorem Un.write(mu:JS (H x))(he:e=x\/H e=some (.own x))(k:∀b u,b≠e->h.get? b=some u->h'.get? b=some u)(heo:∃u,h'.get? e=some u):Un fs ex H (aW H x o) h h':=by
 have hx:∀b,H b=none->b≠x:=λb n z=>by subst z;rw[n]at mu;exact mu
 have hb:∀b,H b=none->b≠e:=λb n z=>by grind
 have hm:∀b u,H b=some u->¬ JS (some u)->b≠x:=λb u q nm z=>by grind
 refine⟨λb u q n _ _=>k b u (hb b n) q,λb u q n _ _=>⟨u.slots,k b u (hb b n) q⟩,λb u q n _=>by rw[a6 (hx b n)];exact n,λb u q _=>?_,
  λb xs q=>by rw[a6 (hm b _ q λz=>z)];exact q,λb u xs q=>by rw[a6 (hm b _ q λz=>z)];exact q,λb ps q=>⟨#[],by rw[a6 (hm b _ q λz=>z),q];simp⟩⟩
 grind
end
noncomputable def trk(h:Heap)(H:Hp):List Addr:=(List.range h.objs.size).filter λa=>(H a).isSome
noncomputable def om(h:Heap)(H:Hp):Heap:=PySem.W.hideAll h (trk h H)
theorem wM(h)(H):(om h H).objs.size=h.objs.size:=PySem.W.hideAll_size _ _
theorem y9(e:h.get? b=some o)(n:H b=none):(om h H).get? b=some o :=
 PySem.W.hideAll_get _ e λhm=>by
  have q :=(zzd.mp hm).2
  grind
theorem DG(e:(om h H).get? b=some o):h.get? b=some o/\H b=none:=by
 have e' :=ZH (trk h H) e
 refine⟨e',?_⟩
 cases q:H b with
 |none=>rfl
 |some x =>
  have hm:b∈trk h H:=zzd.mpr ⟨ZF.mpr (zL e'),by simp[q]⟩
  have z:(om h H).get? b=none:=zzK (trk h H) hm
  grind
noncomputable def Cm(g h:Heap)(L:Addr):List (Addr×Obj):=(List.range h.objs.size).filterMap λa=>if a=L\/(g.get? a).isSome=true then none else(h.get? a).map λo=>(a,o)
noncomputable def cz(g h:Heap)(L d:Addr):List (Addr×Obj):=(Cm g h L).filter λp=>decide (p.1≠d)
structure Mod (K:Fg0) (mg:Str->Option Value) (base:Heap):Prop where
 kin:K.In base
 glob:base.Ns mainGlobals mg
 blt:∃mb,base.Ns builtinsNs mb/\∀x:Str,x≠"__name__"->mb x=bootBuiltins x
 nolimit:base.NoLimit
structure Cx where
 prog:Program
 w:World
 K:Fg0
 mg:Str->Option Value
 base:Heap
 A:Around
 N:List Str
 s₀:Shared
 H₀:Hp
 env:Env
 outer:List Env
 stack:List Env
 ex:List Addr
 fn:Str->Bool
 calm:Bool
 pn:List (Addr×Obj)
 xe:Value->Shared->Prop
noncomputable def fU(l:List Env):List Addr:=l.filterMap (·.frame)
noncomputable abbrev Cx.fs(X:Cx):List Addr:=fU X.outer
def va(sc:Scope)(x:Str):Prop:=sc.names.lookup x=some .local\/sc.names.lookup x=some .cell\/sc.names.lookup x=some .free
def sJ(sc:Scope)(x:Str):Prop:=sc.names.lookup x=some .local\/sc.names.lookup x=some .cell
def Nq(env:Env)(h:Heap)(m:Str->Option Value)(x:Str)(u:Value):Prop :=
 (env.kindOf x=some .local/\m x=some u)\/((env.kindOf x=some .cell\/env.kindOf x=some .free)/\∃c,env.cells.lookup x=some c/\h.IsCell c (some u))
structure Cx.Ok (X:Cx):Prop where
 mod:Mod X.K X.mg X.base
 kind:X.env.scope.kind=.function
 glob:X.env.globals=mainGlobals
 blt:X.env.builtins=builtinsNs
 above:X.s₀.heap.objs.size<=X.env.locals
 inj:∀x y c,X.env.cells.lookup x=some c->X.env.cells.lookup y=some c->x=y
 has:∀x,(X.env.kindOf x=some .cell\/X.env.kindOf x=some .free)->∃c,X.env.cells.lookup x=some c
 cab:∀x c,X.fn x=true->X.env.cells.lookup x=some c->X.s₀.heap.objs.size<=c
 hd:X.calm=true->X.A.handled=none
 frames:X.A.frames=some X.stack
 stk:X.stack=X.outer\/(X.stack=X.env::X.outer/\X.env.frame=some X.env.locals)
 exf:∀b∈X.ex,b≠X.env.locals/\∀x c,X.env.cells.lookup x=some c->c≠b
 bs:∀b o,X.base.get? b=some o->X.s₀.heap.get? b=some o/\X.H₀ b=none
 bsz:X.base.objs.size<=X.s₀.heap.objs.size
 noex:∀b o,X.base.get? b=some o->b∉X.ex
 exfs:∀b∈X.ex,b∉X.fs
 funs:X.s₀.heap.FunFrames X.base X.outer
 frf:∀b∈X.fs,X.H₀ b=none
structure Inv (X:Cx) (pins:List (Addr×Obj)) (σ:List (Option V)) (H:Hp) (s:Shared):Prop where
 ok:X.Ok
 os:s.os=X.s₀.os
 bare:AllBare s.gens
 base:Un X.fs X.ex X.H₀ H X.s₀.heap s.heap
 loc:∃m,s.heap.Ns X.env.locals m/\∀(i:Nat) (x:Str) (v:V),X.N[i]?=some x->σ[i]?=some (some v)->va X.env.scope x->∃u,RelV v u/\Nq X.env s.heap m x u
 cell:∀x c,X.env.cells.lookup x=some c->∃v,s.heap.IsCell c v
 free:H X.env.locals=none
 freeC:∀x c,X.env.cells.lookup x=some c->H c=none
 pin:∀p∈X.pn++pins,s.heap.get? p.1=some p.2/\H p.1=none/\p.1≠X.env.locals/\p.1∉X.fs/\∀v,p.2.data≠.cell v
 hok:HOk X.prog X.w H s.heap
 len:σ.length=X.N.length
section
variable {X:Cx}{pins:List (Addr×Obj)}{σ:List (Option V)}{H H':Hp}{s:Shared}{h':Heap}
theorem Cx.Ok.nofr(ok:X.Ok)(e:X.base.get? b=some o):b∉X.fs:=λhb=>by
 have:=(ok.funs.mem hb).1
 grind
theorem Inv.bs(I:Inv X pins σ H s):∀b o,X.base.get? b=some o->s.heap.get? b=some o/\H b=none:=λb o e =>
 ⟨I.base.keep b o (I.ok.bs b o e).1 (I.ok.bs b o e).2 (I.ok.nofr e) (I.ok.noex b o e),I.base.free b o (I.ok.bs b o e).1 (I.ok.bs b o e).2 (I.ok.noex b o e)⟩
theorem Inv.bk(I:Inv X pins σ H s):∀b o,X.base.get? b=some o->s.heap.get? b=some o:=λb o e=>(I.bs b o e).1
theorem Inv.mod(I:Inv X pins σ H s):Mod X.K X.mg X.base:=I.ok.mod
theorem Inv.kIn(I:Inv X pins σ H s):X.K.In s.heap:=I.ok.mod.kin.keeps I.bk
theorem Inv.lt(I:Inv X pins σ H s):X.env.locals<s.heap.objs.size:=let ⟨_,hn,_⟩:=I.loc;hn.lt
theorem Inv.sz(I:Inv X pins σ H s):X.s₀.heap.objs.size<=s.heap.objs.size:=zf I.ok.above (zz6 I.lt)
theorem Inv.nofs(I:Inv X pins σ H s){a:Addr}(h:s.heap.objs.size<=a):a∉X.fs:=λhb=>by obtain⟨_,o,ho,_⟩:=I.ok.funs.mem hb;exact absurd (zj (zL ho) (zf I.sz h)) (ZN _)
theorem Inv.cne(I:Inv X pins σ H s):∀x c,X.env.cells.lookup x=some c->c≠X.env.locals:=λx c e z=>by
 obtain⟨v,o,ho,hd⟩:=I.cell x c e
 obtain⟨m,⟨o',es,ep,ho',hd',_⟩,_⟩:=I.loc
 grind
theorem Inv.funs(I:Inv X pins σ H s):s.heap.FunFrames X.base X.outer:=by
 have all:∀(l:List Env),(∀b∈fU l,b∈X.fs)->X.s₀.heap.FunFrames X.base l->s.heap.FunFrames X.base l:=by
  intro l;induction l with
  |nil=>intro _ _;trivial
  |cons env r ih=>intro hs hl;obtain⟨hk,⟨L,o,hf,hn,ho,hd⟩,hr⟩:=hl;have hL :=hs L (by unfold fU;simp_all);obtain⟨sl,e⟩:=I.base.slot L o ho (I.ok.frf L hL) hL λz=>I.ok.exfs L z hL;exact⟨hk,⟨L,_,hf,hn,e,hd⟩,ih (λb hb=>hs b (by unfold fU;rw[zzS,hf];exact zB _ hb)) hr⟩
 exact all X.outer (λ_ hb=>hb) I.ok.funs
theorem Inv.stack(I:Inv X pins σ H s):s.heap.FunFrames X.base X.stack:=by rcases I.ok.stk with e|⟨e,hf⟩;rw[e];exact I.funs;rw[e];obtain⟨m,hn,_⟩:=I.loc;refine .cons (by rw[I.ok.kind];decide) hf hn ?_ I.funs;exact Heap.get?_none_of_le (zf I.ok.bsz I.ok.above)
theorem Inv.stkSub(I:Inv X pins σ H s):∀b∈fU X.stack,b∈X.env.locals::X.fs:=λb hb=>by
 rcases I.ok.stk with e|⟨e,hf⟩
 ·grind
 ·rw[e]at hb
  unfold fU at hb
  rw[zzS,hf]at hb
  exact hb
theorem Inv.stkFree(I:Inv X pins σ H s):∀b∈fU X.stack,H b=none:=λb hb=>by rcases zS.mp (I.stkSub b hb) with e|hb;rw[e];exact I.free;obtain⟨_,o,ho,_⟩:=I.ok.funs.mem hb;exact I.base.free b o ho (I.ok.frf b hb) λz=>I.ok.exfs b z hb
theorem Inv.step{g':Array GenState}{t':Nat}{d':Drawn}{ch:List Addr}(I:Inv X pins σ H s)
  (hch:∀b∈ch,(b∈X.ex\/X.s₀.heap.objs.size<=b)/\b≠X.env.locals/\(∀x c,X.env.cells.lookup x=some c->c≠b)/\∀p∈X.pn++pins,p.1≠b)
  (keep:∀b o,b≠X.env.locals->b∉X.fs->b∉ch->s.heap.get? b=some o->H b=none->h'.get? b=some o)
  (slot:∀b o,b≠X.env.locals->b∈X.fs->b∉ch->s.heap.get? b=some o->H b=none->∃sl,h'.get? b=some { o with slots:=sl }) (free:∀b o,b∉ch->s.heap.get? b=some o->H b=none->H' b=none)
  (there:∀b o,b∉ch->s.heap.get? b=some o->∃o',h'.get? b=some o')
  (tups:∀b xs,H b=some (.tup xs)->H' b=some (.tup xs)) (frzs:∀b o u,H b=some (.frz o u)->H' b=some (.frz o u)) (tbls:∀b ps,H b=some (.tbl ps)->∃more,H' b=some (.tbl (ps++more)))
  (ns:∀m,s.heap.Ns X.env.locals m->h'.Ns X.env.locals m) (hok:HOk X.prog X.w H' h') (hg:AllBare g') :
  Inv X pins σ H' { s with heap:=h',gens:=g',drawn:=d',toks:=t' }:=by
 have neL:∀b o,X.s₀.heap.get? b=some o->b≠X.env.locals:=λb o e=>zU (zj (zL e) I.ok.above)
 have neC:∀b o,X.s₀.heap.get? b=some o->b∉X.ex->b∉ch:=λb o e hx hb=>by rcases(hch b hb).1 with z|z;exact hx z;exact absurd (zj (zL e) z) (ZN _)
 have cellK:∀x c,X.env.cells.lookup x=some c->∀v,s.heap.IsCell c v->h'.IsCell c v:=λx c e v zq=>by obtain⟨o,ho,hd⟩:=zq;have nch:c∉ch:=λz=>(hch c z).2.2.1 x c e rfl;by_cases hc:c∈X.fs;obtain⟨sl,q⟩:=slot c o (I.cne x c e) hc nch ho (I.freeC x c e);exact⟨_,q,hd⟩;exact⟨o,keep c o (I.cne x c e) hc nch ho (I.freeC x c e),hd⟩
 refine⟨I.ok,I.os,hg,⟨λb o e n hb hx=>?_,λb o e n hb hx=>?_,λb o e n hx=>?_,λb o e hx=>?_,λb xs e=>tups b xs (I.base.tups b xs e),λb o xs e=>frzs b o xs (I.base.frzs b o xs e),λb ps e=>?_⟩,?_,λx c e=>?_,?_,λx c e=>?_,λp hp=>?_,hok,I.len⟩
 ·exact keep b o (neL b o e) hb (neC b o e hx) (I.base.keep b o e n hb hx) (I.base.free b o e n hx)
 ·obtain⟨sl,e1⟩:=I.base.slot b o e n hb hx
  obtain⟨sl',e2⟩:=slot b _ (neL b o e) hb (neC b o e hx) e1 (I.base.free b o e n hx)
  exact⟨sl',e2⟩
 ·obtain⟨o',e1⟩:=I.base.there b o e hx
  exact free b o' (neC b o e hx) e1 (I.base.free b o e n hx)
 ·obtain⟨o',e1⟩:=I.base.there b o e hx
  exact there b o' (neC b o e hx) e1
 ·obtain⟨m1,e1⟩:=I.base.tbls b ps e
  obtain⟨m2,e2⟩:=tbls b _ e1
  exact⟨m1++m2,by rw[e2,Array.append_assoc]⟩
 ·obtain⟨m,hn,hl⟩:=I.loc
  refine⟨m,ns m hn,λi x v e1 e2 e3=>?_⟩
  obtain⟨u,r,l⟩:=hl i x v e1 e2 e3
  refine⟨u,r,?_⟩
  rcases l with l|⟨k,c,e,z⟩
  ·exact .inl l
  ·exact .inr ⟨k,c,e,cellK x c e _ z⟩
 ·obtain⟨v,z⟩:=I.cell x c e
  exact⟨v,cellK x c e v z⟩
 ·obtain⟨m,⟨o,_,_,ho,_⟩,_⟩:=I.loc
  exact free _ o (λz=>(hch _ z).2.1 rfl) ho I.free
 ·obtain⟨v,o,ho,hd⟩:=I.cell x c e
  exact free c o (λz=>(hch c z).2.2.1 x c e rfl) ho (I.freeC x c e)
 ·obtain⟨e,n,ne,nf,d⟩:=I.pin p hp
  have nch:p.1∉ch:=λz=>(hch p.1 z).2.2.2 p hp rfl
  exact⟨keep p.1 p.2 ne nf nch e n,free p.1 p.2 nch e n,ne,nf,d⟩
theorem Inv.un{t':Nat}(I:Inv X pins σ H s)(u:Un X.fs [] H H' s.heap h')(hok:HOk X.prog X.w H' h'):Inv X pins σ H' { s with heap:=h',toks:=t' }:=by
 obtain⟨m,⟨o,es,ep,ho,r⟩,_⟩:=id I.loc;obtain⟨sl,hL⟩:=u.any ho I.free ZzS
 exact I.step (g':=s.gens) (d':=s.drawn) (ch:=[]) (λ_ z=>nomatch z) (λb o _ hb _ e n=>u.keep b o e n hb ZzS) (λb o _ hb _ e n=>u.slot b o e n hb ZzS) (λb o _ e n=>u.free b o e n ZzS) (λb o _ e=>u.there b o e ZzS) u.tups u.frzs u.tbls (λm' hm=>by
  obtain⟨o',es',ep',ho',r'⟩:=hm
  rw[ho]at ho';cases ho'
  exact⟨_,es',ep',hL,r'⟩) hok I.bare
theorem Inv.call(I:Inv X pins σ H s)(u:Un (fU X.stack) ch H H' s.heap h')(hok:HOk X.prog X.w H' h')(hg:AllBare g')
  (hch:∀b∈ch,(b∈X.ex\/X.s₀.heap.objs.size<=b)/\b≠X.env.locals/\(∀x c,X.env.cells.lookup x=some c->c≠b)/\∀p∈X.pn++pins,p.1≠b) :
  Inv X pins σ H' { s with heap:=h',gens:=g',drawn:=d',toks:=t' }:=by
 obtain⟨m,⟨o,es,ep,ho,r⟩,_⟩:=id I.loc
 obtain⟨sl,hL⟩:=u.any ho I.free λz=>(hch _ z).2.1 rfl
 exact I.step (ch:=ch) hch (λb o hL hb hc e n=>u.keep b o e n (λz=>(zS.mp (I.stkSub b z)).elim hL hb) hc) (λb o _ _ hc e n=>u.any e n hc) (λb o hc e n=>u.free b o e n hc) (λb o hc e=>u.there b o e hc) u.tups u.frzs u.tbls (λm' hm=>by
  obtain⟨o',es',ep',ho',r'⟩:=hm
  rw[ho]at ho';cases ho'
  exact⟨_,es',ep',hL,r'⟩) hok hg
theorem Inv.turned{t':Nat}{it:Addr}(I:Inv X pins σ H s)(k:∀b o,b≠it->s.heap.get? b=some o->h'.get? b=some o)(hn:H it=none)(hL:it≠X.env.locals)
  (h1:it∈X.ex\/X.s₀.heap.objs.size<=it) (h2:∀x c,X.env.cells.lookup x=some c->c≠it) (h3:∀p∈X.pn++pins,p.1≠it):Inv X pins σ H { s with heap:=h',toks:=t' }:=by
 have nit:∀b u,H b=some u->b≠it:=λb u e z=>by rw[z,hn]at e;cases e
 refine I.step (g':=s.gens) (d':=s.drawn) (ch:=[it]) (λb hb=>?_) (λb o _ _ hc e _=>k b o (λz=>hc (by simp[z])) e) (λb o _ _ hc e _=>⟨o.slots,k b o (λz=>hc (by simp[z])) e⟩) (λ_ _ _ _ n=>n)
  (λb o hc e=>⟨o,k b o (λz=>hc (by simp[z])) e⟩) (λ_ _ e=>e) (λ_ _ _ e=>e) (λb ps e=>⟨#[],by rw[e];simp⟩) (λm hm=>?_) (λb u e=>?_) I.bare
 ·have e:b=it:=by simpa using hb
  subst e
  exact⟨h1,hL,h2,h3⟩
 ·obtain⟨o,es,ep,ho,r⟩:=hm
  exact⟨o,es,ep,k _ o (zzi hL) ho,r⟩
 ·refine(I.hok b u e).stay (λc v hc q=>k c v ?_ q) (λ_ q=>q) λ_ _ q=>q
  rcases hc with z|z
  ·rw[z];exact nit b u e
  ·exact nit c _ z
theorem Inv.tok(I:Inv X pins σ H s)(t):Inv X pins σ H { s with toks:=t }:=I.un   Un.refl I.hok
theorem Inv.kept{t':Nat}(I:Inv X pins σ H s)(k:∀b u,s.heap.get? b=some u->h'.get? b=some u):Inv X pins σ H { s with heap:=h',toks:=t' }:=I.un (Un.kept k) (I.hok.kept k)
theorem Inv.laid{a:Addr}{o:HO}{t':Nat}(I:Inv X pins σ H s)(k:∀b u,s.heap.get? b=some u->h'.get? b=some u)(hp:s.heap.objs.size<=a)(new:ObjOk X.prog X.w (aW H a o) h' a o) :
 Inv X pins σ (aW H a o) { s with heap:=h',toks:=t' }:=I.un (Un.laid k hp (I.hok.fresh hp)) (I.hok.laid k hp new)
theorem Inv.write(I:Inv X pins σ H s)(mu:JS (H x))(he:e=x\/H e=some (.own x))(k:∀b u,b≠e->s.heap.get? b=some u->h'.get? b=some u)(heo:∃u,h'.get? e=some u)
 (new:ObjOk X.prog X.w (aW H x o) h' x o):Inv X pins σ (aW H x o) { s with heap:=h',toks:=t' }:=I.un (Un.write mu he k heo) (I.hok.write mu he k heo new)
theorem Inv.pins_of(I:Inv X pins σ H s)(h:∀p∈pins',s.heap.get? p.1=some p.2/\H p.1=none/\p.1≠X.env.locals/\p.1∉X.fs/\∀v,p.2.data≠.cell v):Inv X pins' σ H s :=
 ⟨I.ok,I.os,I.bare,I.base,I.loc,I.cell,I.free,I.freeC,λp hp=>(Za.mp hp).elim (λz=>I.pin p (Ze _ z)) (h p),I.hok,I.len⟩
theorem iM{N:List Str}(hN:N.Nodup){i j:Nat}(a:N[i]?=some x)(b:N[j]?=some x):i=j:=by obtain⟨h1,e1⟩:=ze.mp a;obtain⟨h2,e2⟩:=ze.mp b;exact(List.getElem_inj hN).mp (e1.trans e2.symm)
theorem nh{M:Model}{E:Value->Shared->Prop}(I:Inv X pins σ H s)(hN:X.N.Nodup)(hi:X.N[i]?=some x)(hx:sJ X.env.scope x)(r:RelV v u)
  (h:∀s',Inv X pins (σ.set i (some v)) H s'->(∃a,Heap.SameBut a s.heap s'.heap/\(a=X.env.locals\/X.env.cells.lookup x=some a))->Q () s') (hf:X.fn x=true\/X.env.scope.names.lookup x=some .local:=by first|exact .inl rfl|exact .inr rfl|assumption):wpAny M A (storeName X.env x u) Q E s:=by
 obtain⟨m,hn,hl⟩:=id I.loc
 have hcls:(X.env.scope.kind==.class||(X.env.scope.kind==.module&&X.env.locals != X.env.globals))=false:=by rw[I.ok.kind];rfl
 have hiσ:i<σ.length:=by rw[I.len];exact(ze.mp hi).1
 have cne:=I.cne
 have tracked:∀{a:Addr}{h':Heap},(∃o,s.heap.get? a=some o/\H a=none)->Heap.SameBut a s.heap h'->HOk X.prog X.w H h':=λ{a h'} ha hs b ob e=>by obtain⟨_,_,hfree⟩:=ha;refine(I.hok b ob e).stay (λc w' hc q=>(hs.2 c ?_).trans q) (λ_ q=>q) λ_ _ q=>q;rintro rfl;rcases hc with rfl|hc;rw[hfree]at e;cases e;rw[hfree]at hc;cases hc
 rcases hx with hk|hk
 ·refine wpAny_storeName_local hk hn (λh' hn' hs=>?_) hcls
  obtain⟨oL,_,_,hoL,_⟩:=id hn
  refine h _ ⟨I.ok,I.os,I.bare,⟨λb o e n hb hx=>?_,λb o e n hb hx=>?_,I.base.free,λb o e hx=>?_,I.base.tups,I.base.frzs,I.base.tbls⟩,⟨_,hn',λj y v' e1 e2 e3=>?_⟩,λy c e=>?_,I.free,I.freeC,λp hp=>?_,tracked ⟨oL,hoL,I.free⟩ hs,by simpa using I.len⟩ ⟨_,hs,.inl rfl⟩
  ·exact(hs.2 b (zU (zj (zL e) I.ok.above))).trans (I.base.keep b o e n hb hx)
  ·obtain⟨sl,e1⟩:=I.base.slot b o e n hb hx
   exact⟨sl,(hs.2 b (zU (zj (zL e) I.ok.above))).trans e1⟩
  ·obtain⟨o',e1⟩:=I.base.there b o e hx
   exact⟨o',(hs.2 b (zU (zj (zL e) I.ok.above))).trans e1⟩
  ·by_cases hj:j=i
   ·subst hj
    rw[hi]at e1;cases e1
    rw[zZ hiσ]at e2
    cases e2
    exact⟨u,r,.inl ⟨hk,ZzS⟩⟩
   ·rw[zY (zzi hj)]at e2
    obtain⟨u',r',q⟩:=hl j y v' e1 e2 e3
    refine⟨u',r',?_⟩
    rcases q with⟨k,e⟩|⟨k,c,e,z⟩
    ·refine .inl ⟨k,?_⟩
     have:y≠x:=λe=>hj (iM hN e1 (e▸hi))
     simp[this,e]
    ·exact .inr ⟨k,c,e,z.sameBut hs (cne y c e)⟩
  ·obtain⟨w',z⟩:=I.cell y c e
   exact⟨w',z.sameBut hs (cne y c e)⟩
  ·obtain⟨e,n,ne,nf,d⟩:=I.pin p hp
   exact⟨(hs.2 p.1 ne).trans e,n,ne,nf,d⟩
 ·have hfn:X.fn x=true:=by rcases hf with z|z;exact z;rw[z]at hk;cases hk
  obtain⟨c,hc⟩:=I.ok.has x (.inl hk)
  obtain⟨w',z⟩:=I.cell x c hc
  refine wpAny_storeName_cell I.ok.kind hk hc z (λh' hc' hs=>?_)
  obtain⟨oc,hoc,hocd⟩:=id z
  refine h { s with heap:=h' } ⟨I.ok,I.os,I.bare,⟨λb o e n hb hx=>?_,λb o e n hb hx=>?_,I.base.free,λb o e hx=>?_,I.base.tups,I.base.frzs,I.base.tbls⟩,⟨m,hn.sameBut hs (zzi (cne x c hc)),λj y v' e1 e2 e3=>?_⟩,λy c' e=>?_,I.free,I.freeC,λp hp=>?_,tracked ⟨oc,hoc,I.freeC x c hc⟩ hs,by simpa using I.len⟩ ⟨c,hs,.inr hc⟩
  ·exact(hs.2 b (zU (zj (zL e) (I.ok.cab x c hfn hc)))).trans (I.base.keep b o e n hb hx)
  ·obtain⟨sl,e1⟩:=I.base.slot b o e n hb hx
   exact⟨sl,(hs.2 b (zU (zj (zL e) (I.ok.cab x c hfn hc)))).trans e1⟩
  ·obtain⟨o',e1⟩:=I.base.there b o e hx
   exact⟨o',(hs.2 b (zU (zj (zL e) (I.ok.cab x c hfn hc)))).trans e1⟩
  ·by_cases hj:j=i
   ·subst hj
    rw[hi]at e1;cases e1
    rw[zZ hiσ]at e2
    cases e2
    exact⟨u,r,.inr ⟨.inl hk,c,hc,hc'⟩⟩
   ·rw[zY (zzi hj)]at e2
    obtain⟨u',r',q⟩:=hl j y v' e1 e2 e3
    refine⟨u',r',?_⟩
    rcases q with q|⟨k,c',e,z'⟩
    ·exact .inl q
    ·refine .inr ⟨k,c',e,z'.sameBut hs ?_⟩
     rintro rfl
     exact hj (iM hN e1 (I.ok.inj _ _ _ e hc▸hi))
  ·by_cases hcc:c'=c
   ·subst hcc;exact⟨_,hc'⟩
   ·obtain⟨w2,z2⟩:=I.cell y c' e
    exact⟨w2,z2.sameBut hs hcc⟩
  ·obtain⟨e,n,ne,nf,d⟩:=I.pin p hp
   refine⟨(hs.2 p.1 ?_).trans e,n,ne,nf,d⟩
   intro q
   rw[q,hoc]at e
   have q':oc=p.2:=zW e
   exact d w' (by rw[<- q'];exact hocd)
theorem fe{M:Model}{A:Around}(I:Inv X pins σ H s)(hN:X.N.Nodup)(hi:X.N[i]?=some x)(hx:sJ X.env.scope x)(r:RelV v u)
  (h:∀s',Inv X pins (σ.set i (some v)) H s'->Q () s') (hf:X.fn x=true\/X.env.scope.names.lookup x=some .local:=by rfl):wpAny M A (storeName X.env x u) Q E s :=
 nh I hN hi hx r (λs' I' _=>h s' I') hf
theorem Inv.call'{s':Shared}{ch:List Addr}(I:Inv X pins σ H s)(ho:s'.os=s.os)(u:Un (fU X.stack) ch H H' s.heap s'.heap)(hok:HOk X.prog X.w H' s'.heap)(hg:AllBare s'.gens)
  (hch:∀b∈ch,(b∈X.ex\/X.s₀.heap.objs.size<=b)/\b≠X.env.locals/\(∀x c,X.env.cells.lookup x=some c->c≠b)/\∀p∈X.pn++pins,p.1≠b):Inv X pins σ H' s':=by
 obtain⟨h',g',d',t',o'⟩:=s'
 have e:o'=s.os:=ho
 subst e
 exact I.call (g':=g') (t':=t') (d':=d') u hok hg hch
end
abbrev XK:=Value->Option Addr->Hp->Prop
abbrev St:=List (Option V)
abbrev VK:=V->Hp->Prop
abbrev TE:=St->Hp->VK->Prop
abbrev TT:=St->Hp->(Bool->Hp->Prop)->Prop
abbrev TA:=St->Hp->(List V->Hp->Prop)->Prop
structure Ends where
 nx:St->Hp->Prop
 rt:VK
 bk:St->Hp->Prop:=λ_ _=>False
 ct:St->Hp->Prop:=λ_ _=>False
abbrev TS:=Ends->St->Hp->Prop
def EP(X:Cx)(pins:List (Addr×Obj))(σ:St)(Q:VK)(u:Value)(s':Shared):Prop:=∃v H',Inv X pins σ H' s'/\RelV v u/\Q v H'
def TP(X:Cx)(pins:List (Addr×Obj))(σ:St)(Q:Bool->Hp->Prop)(b:Bool)(s':Shared):Prop:=∃H',Inv X pins σ H' s'/\Q b H'
def AP(X:Cx)(pins:List (Addr×Obj))(σ:St)(Q:List V->Hp->Prop)(us:List Value)(s':Shared):Prop:=∃vs H',Inv X pins σ H' s'/\Vals vs us/\Q vs H'
def SP(X:Cx)(pins:List (Addr×Obj))(D:Ends)(f:Flow)(s':Shared):Prop :=
 match f with
 |.next=>∃σ' H',Inv X pins σ' H' s'/\D.nx σ' H'
 |.brk=>∃σ' H',Inv X pins σ' H' s'/\D.bk σ' H'
 |.cont=>∃σ' H',Inv X pins σ' H' s'/\D.ct σ' H'
 |.ret u=>∃v σ' H',Inv X pins σ' H' s'/\RelV v u/\D.rt v H'
def PE(X:Cx)(e:Expr)(t:TE):Prop :=
 ∀(pins:List (Addr×Obj)) (s:Shared) (σ:St) (H:Hp) (Q:VK),Inv X pins σ H s->t σ H Q->wpAny (model X.prog X.w) X.A (eval e X.env) (EP X pins σ Q) X.xe s
def PT(X:Cx)(e:Expr)(t:TT):Prop :=
 ∀(pins:List (Addr×Obj)) (s:Shared) (σ:St) (H:Hp) (Q:Bool->Hp->Prop),Inv X pins σ H s->t σ H Q->wpAny (model X.prog X.w) X.A (isTrue e X.env (eval e X.env)) (TP X pins σ Q) X.xe s
def PW(X:Cx)(e:Expr)(t:TT):Prop :=
 ∀(whole:Sem Value) (pins:List (Addr×Obj)) (s:Shared) (σ:St) (H:Hp) (Q:Bool->Hp->Prop),Inv X pins σ H s->t σ H Q->wpAny (model X.prog X.w) X.A (isTrue e X.env whole) (TP X pins σ Q) X.xe s
theorem PW.pt(h:PW X e t):PT X e t:=h _
def PA(X:Cx)(es:List Expr)(t:TA):Prop :=
 ∀(pos:Pos) (pins:List (Addr×Obj)) (s:Shared) (σ:St) (H:Hp) (Q:List V->Hp->Prop),Inv X pins σ H s->t σ H Q->wpAny (model X.prog X.w) X.A (spliced (backTo pos (starEach es X.env))) (AP X pins σ Q) X.xe s
def PS(X:Cx)(st:Stmt)(t:TS):Prop :=
 ∀(pins:List (Addr×Obj)) (s:Shared) (σ:St) (H:Hp) (D:Ends),Inv X pins σ H s->t D σ H->wpAny (model X.prog X.w) X.A (exec st X.env) (SP X pins D) X.xe s
def PSs(X:Cx)(st:List Stmt)(t:TS):Prop :=
 ∀(pins:List (Addr×Obj)) (s:Shared) (σ:St) (H:Hp) (D:Ends),Inv X pins σ H s->t D σ H->wpAny (model X.prog X.w) X.A (execs st X.env) (SP X pins D) X.xe s
theorem aU{α:Type}{t:Sem α}{Q Q':α->Shared->Prop}{M:Model}{A:Around}{E:Value->Shared->Prop}{s:Shared}(h:wpAny M A t Q E s)(hQ:∀a s,Q a s->Q' a s):wpAny M A t Q' E s:=ZA h hQ λ_ _ x=>x
section
variable {X:Cx}
theorem bin{a b:Expr}{ta tb:TE}(ha:PE X a ta)(hb:PE X b tb){pins:List (Addr×Obj)}{s:Shared}{σ:St}{H:Hp}{R:V->V->Hp->Prop}(I:Inv X pins σ H s)(h:ta σ H λx H1=>tb σ H1 λy H2=>R x y H2)
  {α:Type}{Q:α->Shared->Prop}{f:Value->Value->Sem α}
  (hf:∀v u s2 x y H2,Inv X pins σ H2 s2->RelV x v->RelV y u->R x y H2->wpAny (model X.prog X.w) X.A (f v u) Q X.xe s2) :
  wpAny (model X.prog X.w) X.A (eval a X.env) (λv s₁=>wpAny (model X.prog X.w) X.A (eval b X.env) (λu s₂=>wpAny (model X.prog X.w) X.A (f v u) Q X.xe s₂) X.xe s₁) X.xe s:=by
 refine aU (ha pins s σ H _ I h) λv s1 zq=>?_
 obtain⟨x,H1,I1,r1,q1⟩:=zq
 refine aU (hb pins s1 σ H1 _ I1 q1) λu s2 zq=>?_
 obtain⟨y,H2,I2,r2,q2⟩:=zq
 exact hf v u s2 x y H2 I2 r1 r2 q2
def GF(i:Nat):TE:=λσ H Q=>∃v,σ[i]?=some (some v)/\Q v H
def tC(v:V):TE:=λ_ H Q=>Q v H
theorem eN{i:Nat}{x:Str}{pos:Pos}(hN:X.N[i]?=some x)(hv:va X.env.scope x)(hd:(x==("__debug__"))=false:=by decide)(hcd:(x==("__classdict__":Str))=false:=by decide):PE X (.Name x pos) (GF i):=by intro pins s σ H Q I h;obtain⟨v,e,h⟩:=h;obtain⟨m,hn,hl⟩:=I.loc;obtain⟨u,r,l⟩:=hl i x v hN e hv;have fin:EP X pins σ Q u s:=⟨v,H,I,r,h⟩;rcases l with⟨hk,hm⟩|⟨hk,c,hc,hcell⟩;exact wpAny_Name (wpAny_loadName_local I.ok.kind hk hn hm fin) hd;rcases hk with hk|hk;exact wpAny_Name (wpAny_loadName_cell I.ok.kind hk hc hcell fin) hd;exact wpAny_Name (wpAny_loadName_free I.ok.kind hk hc hcell fin hcd) hd
theorem pe_int:PE X (.Constant (.int i) j pos) (tC (.int i)):=λ_ _ _ H _ I h=>wpAny_Constant_int ⟨.int i,H,I.tok _,⟨_,rfl⟩,h⟩
theorem pe_bl:PE X (.Constant (.bool b) j pos) (tC (.bl b)):=λ_ _ _ H _ I h=>Constant_bool ⟨.bl b,H,I,rfl,h⟩
theorem pe_non:PE X (.Constant .none j pos) (tC .non):=λ_ _ _ H _ I h=>Constant_none ⟨.non,H,I,rfl,h⟩
theorem pe_str:PE X (.Constant (.str x) j pos) (tC (.str x)):=λ_ _ _ H _ I h=>Calls.Constant_str ⟨.str x,H,I.tok _,⟨_,rfl⟩,h⟩
def Gl(X:Cx)(x:Str):Prop:=X.env.kindOf x=some .globalImplicit
theorem fI{E:Value->Shared->Prop}{pins:List (Addr×Obj)}{s:Shared}{σ:St}{H:Hp}{x:Str}{u:Value}{pos:Pos}{Q:Value->Shared->Prop}(I:Inv X pins σ H s)(hg:Gl X x)(hm:X.mg x=some u)(h:Q u s)
  (hd:(x==("__debug__"))=false:=by rfl):wpAny (model X.prog X.w) X.A (eval (.Name x pos) X.env) Q E s :=
 Calls.Name_function_global I.ok.kind hg (Calls.loadGlobal_global (by rw[I.ok.glob];exact I.mod.glob.keeps I.bk) hm h) hd
theorem gC{E:Value->Shared->Prop}{pins:List (Addr×Obj)}{s:Shared}{σ:St}{H:Hp}{x:Str}{u:Value}{pos:Pos}{Q:Value->Shared->Prop}(I:Inv X pins σ H s)(hg:Gl X x)(hm:X.mg x=none)(hv:bootBuiltins x=some u)(h:Q u s)
  (hn:x≠"__name__":=by decide) (hd:(x==("__debug__"))=false:=by rfl):wpAny (model X.prog X.w) X.A (eval (.Name x pos) X.env) Q E s:=by
 obtain⟨mb,h1,h2⟩:=I.mod.blt
 exact Calls.Name_function_global I.ok.kind hg (Calls.loadGlobal_builtin (by rw[I.ok.glob];exact I.mod.glob.keeps I.bk) hm (by rw[I.ok.blt];exact h1.keeps I.bk) ((h2 x hn).trans hv) h) hd
theorem uX{x:Str}{v:V}{u:Value}{pos:Pos}(hg:Gl X x)(hm:X.mg x=some u)(r:RelV v u)(hd:(x==("__debug__":Str))=false:=by decide):PE X (.Name x pos) (tC v) :=
 λ_ _ _ H _ I h=>fI I hg hm ⟨v,H,I,r,h⟩ hd
theorem uB{x:Str}{v:V}{u:Value}{pos:Pos}(hg:Gl X x)(hm:X.mg x=none)(hv:bootBuiltins x=some u)(r:RelV v u)(hn:x≠"__name__":=by rfl)(hd:(x==("__debug__"))=false:=by rfl):PE X (.Name x pos) (tC v) :=
 λ_ _ _ H _ I h=>gC I hg hm hv ⟨v,H,I,r,h⟩ hn hd
def Qs(ta tb:TE)(k:Int->Int->Hp->Prop):St->Hp->Prop:=λσ H=>ta σ H λx H1=>tb σ H1 λy H2=>∃i j,x=.int i/\y=.int j/\k i j H2
variable {a b:Expr}{ta tb:TE}{pos:Pos}
def NK(p:Int->Int->Bool)(ta tb:TE):TE:=λσ H Q=>Qs ta tb (λi j H2=>Q (.bl (p i j)) H2) σ H
noncomputable abbrev NL:TE->TE->TE:=NK λi j=>decide (j<i)
def tB(t:TE):TT:=λσ H Q=>t σ H λx H1=>∃c,x=.bl c/\Q c H1
theorem HW(h:PE X e t)(he:∀whole,isTrue e X.env whole=(do let v <- whole;standAt e.pos;holding [v] (truthy v)):=by intro _;rfl):PT X e (tB t):=by intro pins s σ H Q I hw;refine isTrue_plain (aU (h pins s σ H _ I hw) λv s1 ⟨x,H1,I1,r1,q1⟩=>?_) (he _);obtain⟨d,rfl,q⟩:=q1;cases r1;exact ZE ⟨H1,I1,q⟩
variable {tA tB':TT}{cz:List Expr}
def MO(t u:TT):TT:=λσ H Q=>t σ H λc H1=>if c=true then u σ H1 Q else Q false H1
def PC(t u:TT):TT:=λσ H Q=>t σ H λc H1=>if c=true then Q true H1 else u σ H1 Q
def Ny(t:TT):TT:=λσ H Q=>t σ H λc H1=>Q (!c) H1
theorem CP(ha:PT X a tA):PW X (.BoolOp .And [a] pos) tA:=by
 intro wh pins s σ H Q I h;refine isTrue_and (aU (ha pins s σ H Q I h) λc s1 e=>?_);cases c with
 |true=>exact isTrue_and_nil e
 |false=>exact e
theorem Fw(ha:PT X a tA):PW X (.BoolOp .Or [a] pos) tA:=by
 intro wh pins s σ H Q I h;refine isTrue_or (aU (ha pins s σ H Q I h) λc s1 e=>?_);cases c with
 |false=>exact isTrue_or_nil e
 |true=>exact e
theorem Fj(ha:PT X a tA)(hb:PW X (.BoolOp .And (b::cz) pos) tB'):PW X (.BoolOp .And (a::b::cz) pos) (MO tA tB'):=by
 intro wh pins s σ H Q I h;refine isTrue_and (aU (ha pins s σ H _ I h) λc s1 ⟨H1,I1,q1⟩=>?_);cases c with
 |true=>exact hb wh pins s1 σ H1 Q I1 q1
 |false=>assumption
theorem LD(ha:PT X a tA)(hb:PW X (.BoolOp .Or (b::cz) pos) tB'):PW X (.BoolOp .Or (a::b::cz) pos) (PC tA tB'):=by
 intro wh pins s σ H Q I h;refine isTrue_or (aU (ha pins s σ H _ I h) λc s1 ⟨H1,I1,q1⟩=>?_);cases c with
 |true=>assumption
 |false=>exact hb wh pins s1 σ H1 Q I1 q1
theorem Fe(ha:PT X a tA):PT X (.UnaryOp .Not a pos) (Ny tA):=by intro pins s σ H Q I h;exact isTrue_not (ha pins s σ H (λc H1=>Q (!c) H1) I h)
def LR(ta tb:TE):TE:=λσ H Q=>ta σ H λx H1=>∃c,x=.bl c/\if c=true then tb σ H1 Q else Q (.bl false) H1
def NB(ta tb:TE):TE:=λσ H Q=>ta σ H λx H1=>∃c,x=.bl c/\if c=true then Q (.bl true) H1 else tb σ H1 Q
def Kb(ta:TE):TE:=λσ H Q=>ta σ H λx H1=>∃c,x=.bl c/\Q (.bl (!c)) H1
theorem ET(h:PE X a t):PE X (.BoolOp op [a] pos) t:=λpins s σ H Q I hw=>BoolOp_one (h pins s σ H Q I hw)
theorem G1(ha:PE X a ta)(hb:PE X (.BoolOp .And (b::cz) pos) tb):PE X (.BoolOp .And (a::b::cz) pos) (LR ta tb):=by
 intro pins s σ H Q I h;refine BoolOp_and (aU (ha pins s σ H _ I h) λv s1 zq=>?_);obtain⟨x,H1,I1,r1,q1⟩:=zq;obtain⟨c,rfl,q1⟩:=q1;cases r1;refine ZE ?_;cases c with
 |true=>exact hb pins s1 σ H1 Q I1 q1
 |false=>exact⟨.bl false,H1,I1,rfl,q1⟩
theorem KP(ha:PE X a ta)(hb:PE X (.BoolOp .Or (b::cz) pos) tb):PE X (.BoolOp .Or (a::b::cz) pos) (NB ta tb):=by
 intro pins s σ H Q I h;refine BoolOp_or (aU (ha pins s σ H _ I h) λv s1 zq=>?_);obtain⟨x,H1,I1,r1,q1⟩:=zq;obtain⟨c,rfl,q1⟩:=q1;cases r1;refine ZE ?_;cases c with
 |false=>exact hb pins s1 σ H1 Q I1 q1
 |true=>exact⟨.bl true,H1,I1,rfl,q1⟩
theorem Ig(ha:PE X a ta):PE X (.UnaryOp .Not a pos) (Kb ta):=by intro pins s σ H Q I h;refine UnaryOp_ (aU (ha pins s σ H _ I h) λv s1 zq=>?_);obtain⟨x,H1,I1,r1,q1⟩:=zq;obtain⟨c,rfl,q1⟩:=q1;cases r1;exact not_of (ZE ⟨.bl (!c),H1,I1,rfl,q1⟩)
def QE(t:TT)(ta tb:TE):TE:=λσ H Q=>t σ H λc H1=>if c=true then ta σ H1 Q else tb σ H1 Q
theorem xr(hc:PT X c tA)(ha:PE X a ta)(hb:PE X b tb):PE X (.IfExp c a b pos) (QE tA ta tb):=by
 intro pins s σ H Q I h;refine wpAny_IfExp (aU (hc pins s σ H _ I h) λd s1 zq=>?_);obtain⟨H1,I1,q1⟩:=zq;cases d with
 |true=>exact ha pins s1 σ H1 Q I1 q1
 |false=>exact hb pins s1 σ H1 Q I1 q1
end
def iI(K:Fg0)(H:Hp)(a:Addr)(xs:List V):Prop :=
 Rd H a (.lst xs) \/
  ∃(o:Obj) (its:Array Value) (n:Nat),K.lookup a=some o/\o.cls=.type "list"/\o.dict=none/\o.data=.seq its n/\its.size<=sizeLine/\Vals xs its.toList
def jQ(K:Fg0)(H:Hp)(a:Addr)(xs:List V):Prop :=
 Rd H a (.tup xs) \/
  ∃(o:Obj) (its:Array Value) (n:Nat),K.lookup a=some o/\o.cls=.type "tuple"/\o.data=.seq its n/\its.size<=sizeLine/\Vals xs its.toList
noncomputable def MU:Value->Option V
 |.none=>some .non
 |.bool b=>some (.bl b)
 |.int i _=>some (.int i)
 |.str x _=>some (.str x)
 |.bytes b _=>some (.byt b)
 |.float b _=>some (.flt b)
 |.ref a=>some (.ref a)
 |.type n=>some (.ty n)
 |_=>none
theorem RelV.abs(r:RelV x u):MU u=some x:=by
 cases x with
 |non=>cases r;rfl
 |bl _=>cases r;rfl
 |int _=>obtain⟨t,rfl⟩:=r;rfl
 |str _=>obtain⟨t,rfl⟩:=r;rfl
 |byt _=>obtain⟨t,rfl⟩:=r;rfl
 |flt _=>obtain⟨t,rfl⟩:=r;rfl
 |ref _=>cases r;rfl
 |ty _=>cases r;rfl
theorem RelV.inj(r:RelV x u)(q:RelV y u):x=y:=zW (r.abs.symm.trans q.abs)
theorem Vals.inj:∀{xs ys:List V}{us:List Value},Vals xs us->Vals ys us->xs=ys
 |_,_,_,.nil,.nil=>rfl
 |_,_,_,.cons r t,.cons r' t'=>by rw[r.inj r',Vals.inj t t']
section
variable {X:Cx}{pins:List (Addr×Obj)}{σ:St}{H:Hp}{s:Shared}{a:Addr}{xs ys:List V}
theorem Inv.list(I:Inv X pins σ H s)(h:iI X.K H a xs):∃its:List Value,Vals xs its/\PlainL s.heap a its.toArray/\xs.length<=sizeLine:=by
 rcases h with h|⟨o,its,n,hk,hc,hd,hs,hz,r⟩
 ·obtain⟨z,its,n,r,e⟩:=h.ok I.hok
  exact⟨its,r,⟨_,n,e,rfl,rfl,rfl⟩,z⟩
 ·refine⟨its.toList,r,⟨o,n,I.kIn a o hk,hc,hd,ZzO⟩,?_⟩
  have e:=r.length
  grind
theorem Inv.tuple(I:Inv X pins σ H s)(h:jQ X.K H a xs):∃its:List Value,Vals xs its/\IsTup s.heap a its.toArray/\xs.length<=sizeLine:=by rcases h with h|⟨o,its,n,hk,hc,hs,hz,r⟩;obtain⟨z,its,r,p⟩:=h.ok I.hok;exact⟨its,r,p,z⟩;refine⟨its.toList,r,⟨o,I.kIn a o hk,hc,n,ZzO⟩,?_⟩;have e:=r.length;simp_all
theorem Inv.list_inj(I:Inv X pins σ H s)(h:iI X.K H a xs)(h':iI X.K H a ys):xs=ys:=by
 obtain⟨its,r,⟨o,n,e,_,_,d⟩,_⟩:=I.list h;obtain⟨its',r',⟨o',n',e',_,_,d'⟩,_⟩:=I.list h';have:its=its':=by grind
 subst this;exact r.inj r'
theorem Inv.tuple_inj(I:Inv X pins σ H s)(h:jQ X.K H a xs)(h':jQ X.K H a ys):xs=ys:=by
 obtain⟨its,r,⟨o,e,_,n,d⟩,_⟩:=I.tuple h;obtain⟨its',r',⟨o',e',_,n',d'⟩,_⟩:=I.tuple h';have:its=its':=by grind
 subst this;exact r.inj r'
end
section
variable {X:Cx}{pins:List (Addr×Obj)}{σ:St}{H:Hp}{s:Shared}{E:Value->Shared->Prop}
end
section
variable {X:Cx}{st:Stmt}{cz:List Stmt}{t u:TS}{e:Expr}{te:TE}{pos:Pos}
def A3:TS:=λD σ H=>D.nx σ H
def MN(t u:TS):TS:=λD σ H=>t { D with nx:=u D } σ H
theorem pss_nil:PSs X [] A3:=λ_ _ σ H _ I h=>wpAny_execs_nil ⟨σ,H,I,h⟩
theorem cT(h1:PS X st t)(h2:PSs X cz u):PSs X (st::cz) (MN t u):=by
 intro pins s σ H D I h;refine wpAny_execs_cons (aU (h1 pins s σ H { D with nx:=u D } I h) λf s1 q=>?_);cases f with
 |next=>obtain⟨σ',H',I',q⟩:=q;exact h2 pins s1 σ' H' D I' q
 |ret v=>exact q
 |brk=>exact q
 |cont=>exact q
def Hh:TS:=λD σ H=>D.bk σ H
def KU:TS:=λD σ H=>D.ct σ H
theorem ps_pass:PS X (.Pass pos) A3:=λ_ _ σ H _ I h=>wpAny_Pass ⟨σ,H,I,h⟩
theorem ps_break:PS X (.Break pos) Hh:=λ_ _ σ H _ I h=>wpAny_Break ⟨σ,H,I,h⟩
theorem ps_continue:PS X (.Continue pos) KU:=λ_ _ σ H _ I h=>wpAny_Continue ⟨σ,H,I,h⟩
theorem Inv.quiet{pins:List (Addr×Obj)}{σ:St}{H:Hp}{s:Shared}(I:Inv X pins σ H s):interactive X.env=false:=by simp[interactive,I.ok.kind]
theorem ps_doc:PS X (.Expr (.Constant (.str x) j pos) pos') A3:=λ_ s σ H _ I h=>wpAny_Expr (Calls.Constant_str (show SP X _ _ .next { s with toks:=s.toks+1 } from⟨σ,H,I.tok _,h⟩)) I.quiet
def Lg(te:TE):TS:=λD σ H=>te σ H λ_ H1=>D.nx σ H1
theorem BD(he:PE X e te)(hs:swapsWith e none pos.line X.env=pure false:=by rfl):PS X (.Expr e pos) (Lg te):=by intro pins s σ H D I h;exact wpAny_Expr_any (aU (he pins s σ H _ I h) λv s1 ⟨x,H1,I1,r1,q1⟩=>⟨σ,H1,I1,q1⟩) I.quiet hs
def MJ(te:TE):TS:=λD σ H=>te σ H D.rt
theorem sV(he:PE X e te):PS X (.Return (some e) pos) (MJ te):=by intro pins s σ H D I h;exact wpAny_Return_some (aU (he pins s σ H _ I h) λv s1 ⟨x,H1,I1,r1,q1⟩=>⟨x,σ,H1,I1,r1,q1⟩)
def Jk:TS:=λD _ H=>D.rt .non H
theorem ps_retN:PS X (.Return none pos) Jk:=λ_ _ σ H _ I h=>wpAny_Return_none ⟨.non,σ,H,I,rfl,h⟩
def MW(c:TT)(t u:TS):TS:=λD σ H=>c σ H λb H1=>if b=true then t D σ H1 else u D σ H1
theorem Le(hc:PT X c tc)(ha:PSs X a t)(hb:PSs X b u):PS X (.If c a b pos) (MW tc t u):=by
 intro pins s σ H D I h;refine wpAny_If (aU (hc pins s σ H _ I h) λd s1 zq=>?_);obtain⟨H1,I1,q1⟩:=zq;cases d with
 |true=>exact ha pins s1 σ H1 D I1 q1
 |false=>exact hb pins s1 σ H1 D I1 q1
end
abbrev TG:=V->St->Hp->(St->Hp->Prop)->Prop
abbrev En:=List V->St->Hp->(St->Hp->Prop)->Prop
def PG(X:Cx)(target:Expr)(t:TG):Prop :=
 ∀(pins:List (Addr×Obj)) (s:Shared) (σ:St) (H:Hp) (v:V) (u:Value) (Q:St->Hp->Prop),Inv X pins σ H s->RelV v u->t v σ H Q ->
  wpAny (model X.prog X.w) X.A (assign target X.env u) (λ_ s'=>∃σ' H',Inv X pins σ' H' s'/\Q σ' H') X.xe s
def PGs(X:Cx)(ts:List Expr)(t:En):Prop :=
 ∀(pins:List (Addr×Obj)) (s:Shared) (σ:St) (H:Hp) (vs:List V) (us:List Value) (Q:St->Hp->Prop),Inv X pins σ H s->Vals vs us->t vs σ H Q ->
  wpAny (model X.prog X.w) X.A (assignInOrder ((assignEach ts X.env).map (·.2)) us) (λ_ s'=>∃σ' H',Inv X pins σ' H' s'/\Q σ' H') X.xe s
abbrev D2:=V->V->V->Hp->(Hp->Prop)->Prop
def IF(X:Cx)(t:D2):Prop :=
 ∀(pins:List (Addr×Obj)) (s:Shared) (σ:St) (H:Hp) (o i v:V) (ov iv u:Value) (Q:Hp->Prop),Inv X pins σ H s->RelV o ov->RelV i iv->RelV v u->t o i v H Q ->
  wpAny (model X.prog X.w) X.A (setItem ov iv u) (λ_ s'=>∃H',Inv X pins σ H' s'/\Q H') X.xe s
section
variable {X:Cx}{pos:Pos}
def Ek(i:Nat):TG:=λv σ H Q=>Q (σ.set i (some v)) H
theorem tS(hN:X.N.Nodup)(hi:X.N[i]?=some x)(hx:sJ X.env.scope x)(hf:X.fn x=true\/X.env.scope.names.lookup x=some .local:=by rfl):PG X (.Name x pos) (Ek i):=by intro pins s σ H v u Q I r h;exact wpAny_assign_Name (fe I hN hi hx r (λs' I'=>⟨_,H,I',h⟩) hf)
def MQ:En:=λvs σ H Q=>vs=[]/\Q σ H
def IZ(t:TG)(u:En):En:=λvs σ H Q=>∃v r,vs=v::r/\t v σ H λσ' H'=>u r σ' H' Q
theorem pgs_nil:PGs X [] MQ:=by intro pins s σ H vs us Q I r h;obtain⟨e,h⟩:=h;exact assignInOrder_nil ⟨σ,H,I,h⟩
theorem Ao(h1:PG X e t)(h2:PGs X es u)
  (hs:(assignEach (e::es) X.env).map (·.2)=assign e X.env::(assignEach es X.env).map (·.2):=by rfl):PGs X (e::es) (IZ t u):=by
 intro pins s σ H vs us Q I r h
 obtain⟨v,vr,e1,h⟩:=h
 subst e1
 cases r with
 |cons r rr =>
  rw[hs]
  exact assignInOrder_cons (aU (h1 pins s σ H _ _ _ I r h) λ_ s1 ⟨σ1,H1,I1,q1⟩=>(h2 pins s1 σ1 H1 _ _ Q I1 rr q1))
def Nn(K:Fg0)(n:Nat)(t:En):TG:=λv σ H Q=>∃a xs,v=.ref a/\jQ K H a xs/\xs.length=n/\t xs σ H Q
theorem Hk{es:List Expr}{k:Nat}{t:En}{n:Nat}(hc:X.calm=true)(h:PGs X es t)
  (hn:(assignEach es X.env).length=n:=by rfl) (hst:(assignEach es X.env).findIdx? (·.1)=none:=by rfl):PG X (.Tuple es k pos) (Nn X.K n t):=by
 intro pins s σ H v u Q I r hw
 obtain⟨a,xs,e1,hq,hl,hw⟩:=hw
 subst e1
 cases r
 obtain⟨its,rv,ht,hz⟩:=I.tuple hq
 refine assign_Tuple_tuple (I.ok.hd hc) ht (by simp[hn,<- hl,rv.length]) hst λh' hx=>?_
 have I1 :=I.kept (t':=s.toks) λb o e=>hx b o (zU (zL e)) e
 exact h pins _ σ H xs _ Q I1 ZzL hw
def N4(to ti:TE)(t:D2):TG:=λv σ H Q=>to σ H λo H1=>ti σ H1 λi H2=>t o i v H2 λH3=>Q σ H3
theorem AH{o i:Expr}{to ti:TE}{t:D2}(ho:PE X o to)(hi:PE X i ti)(hs:IF X t)
  (ha:∀v,assign (.Subscript o i pos) X.env v=(do
   let ov <- holding [v] (eval o X.env)
   let iv <- holding [v,ov] (eval i X.env)
   standAt pos
   holding [v,ov,iv] (setItem ov iv v)
   release [v,ov,iv] []):=by rfl):PG X (.Subscript o i pos) (N4 to ti t):=by
 intro pins s σ H v u Q I r h
 refine zd (Zu (aU (ho pins s σ H _ I h) λov s1 zq=>?_))
 obtain⟨x,H1,I1,r1,q1⟩:=zq
 refine zd (Zu (aU (hi pins s1 σ H1 _ I1 q1) λiv s2 zq=>?_))
 obtain⟨y,H2,I2,r2,q2⟩:=zq
 exact zd (zzF (zd (Zu (aU (hs pins s2 σ H2 x y v ov iv u _ I2 r1 r2 r q2) λ_ s3 ⟨H3,I3,q3⟩=>(wpAny_release ⟨σ,H3,I3,q3⟩)))))
def L0(te:TE)(g:TG):TS:=λD σ H=>te σ H λx H1=>g x σ H1 D.nx
theorem sM{tg e:Expr}{te:TE}{g:TG}(he:PE X e te)(hg:PG X tg g)(hs:swapsWithSole [tg] e pos.line X.env=pure false:=by rfl)(hw:swappedStores [tg] e X.env=pure none:=by rfl)
  (h1:(assignEach [tg] X.env).map (·.2)=[assign tg X.env]:=by rfl):PS X (.Assign [tg] e pos) (L0 te g):=by
 intro pins s σ H D I h
 refine wpAny_Assign_stores (aU (he pins s σ H _ I h) λv s1 ⟨x,H1,I1,r1,q1⟩=>?_) hs hw
 rw[h1]
 exact aU (hg pins s1 σ H1 x v _ I1 r1 q1) λ_ s2 q=>q
theorem fM{i:Nat}{x:Str}{e:Expr}{te:TE}{pos':Pos}(hN:X.N.Nodup)(hi:X.N[i]?=some x)(hx:sJ X.env.scope x)(he:PE X e te)(hs:swapsWith e (some (.Name x pos')) pos.line X.env=pure false:=by rfl)(hf:X.fn x=true\/X.env.scope.names.lookup x=some .local:=by first|exact .inl rfl|exact .inr rfl|assumption) :
  PS X (.Assign [.Name x pos'] e pos) (L0 te (Ek i)):=by
 intro pins s σ H D I h
 refine wpAny_Assign_Name (aU (he pins s σ H _ I h) λv s1 zq=>?_) hs
 obtain⟨y,H1,I1,r1,q1⟩:=zq
 exact fe I1 hN hi hx r1 (λs2 I2=>⟨_,H1,I2,q1⟩) hf
def Oh(i j:Nat)(ta:TA):TS:=λD σ H=>ta σ H λvs H1=>∃v w,vs=[v,w]/\D.nx ((σ.set i (some v)).set j (some w)) H1
theorem Fg{a b:Expr}{ta:TA}{px py pt:Pos}{kt k2 pt2}(hc:X.calm=true)(hN:X.N.Nodup)(hi:X.N[i]?=some x)(hj:X.N[j]?=some y)(hij:i≠j)
  (hx:X.env.scope.names.lookup x=some .local) (hy:X.env.scope.names.lookup y=some .local) (ha:PA X [a,b] ta)
  (hw:swappedStores [.Tuple [.Name x px,.Name y py] kt pt] (.Tuple [a,b] k2 pt2) X.env=pure (some [x,y]))
  (hs:swapsWithSole [.Tuple [.Name x px,.Name y py] kt pt] (.Tuple [a,b] k2 pt2) pos.line X.env=pure false:=by rfl) :
  PS X (.Assign [.Tuple [.Name x px,.Name y py] kt pt] (.Tuple [a,b] k2 pt2) pos) (Oh i j ta):=by
 intro pins s σ H D I h
 rw[exec_Assign_arm]
 refine zd (zzF ?_)
 rw[hs]
 refine zd (zH ?_)
 rw[zM ZzD]
 refine zd (Tuple_ (aU (ha _ pins s σ H _ I h) λus s1 zq=>?_))
 obtain⟨vs,H1,I1,r1,q1⟩:=zq
 obtain⟨v,w,e1,q1⟩:=q1
 subst e1
 obtain⟨u1,u2,rfl,rv,rw'⟩:∃u1 u2,us=[u1,u2]/\RelV v u1/\RelV w u2:=by
  cases r1 with
  |cons p q=>
   cases q with
   |cons p' q'=>cases q';exact⟨_,_,rfl,p,p'⟩
 refine zzj ?_ (by show 2<=sizeLine;decide)
 have I2:Inv X pins σ H1 { s1 with heap:=s1.heap.push { cls:=.type "tuple",data:=.seq [u1,u2].toArray } }:=I1.kept (t':=s1.toks) λb o e=>hps0 _ e
 rw[hw]
 refine zd (zH ?_)
 refine zd (wpAny_rule (zd (unpackItems_tuple (items:=#[u1,u2]) (I.ok.hd hc) (IsTup.new s1.heap _) λh' hx'=>?_)))
 have I3:=I2.kept (h':=h') (t':=s1.toks) λb o e=>hx' b o (zU (zL e)) e
 refine zd (assignInOrder_cons (wpAny_bindName (fe I3 hN hj (.inl hy) rw' (λs2 I4=>?_) (.inr hy))))
 refine assignInOrder_cons (wpAny_bindName (fe I4 hN hi (.inl hx) rv (λs3 I5=>assignInOrder_nil (zH ?_)) (.inr hx)))
 rw[List.set_comm _ _ (zzi hij)]at I5
 exact⟨_,H1,I5,q1⟩
end
section
variable {X:Cx}{pos:Pos}
def Ir(c:TT)(tb:TS):TS:=λD σ H=>∃W:Nat->St->Hp->Prop,(∃m,W m σ H)/\∀m σ H,W m σ H ->
 c σ H λb H1=>if b=true then ∃N:St->Hp->Prop,(∀σ' H',N σ' H'->∃m',m'<m/\W m' σ' H')/\tb { D with nx:=N,ct:=N,bk:=D.nx } σ H1 else D.nx σ H1
theorem yI(hp:PassesOwn (model X.prog X.w) X.A X.env X.xe)(hc:PT X c tc)(hb:PSs X body tb):PS X (.While c body [] pos) (Ir tc tb):=by
 intro pins s σ H D I h;obtain⟨W,⟨m0,w0⟩,sm⟩:=h;refine wpAny_While (codeAny_whileLoop (λn s'=>∃σ' H',Inv X pins σ' H' s'/\W n σ' H') ?_ m0 ⟨σ,H,I,w0⟩);rintro n s1 ⟨σ1,H1,I1,w1⟩;refine zze hp (aU (hc pins s1 σ1 H1 _ I1 (sm n σ1 H1 w1)) λb s2 zq=>?_);obtain⟨H2,I2,q2⟩:=zq;cases b with
 |true=>
  obtain⟨N,hN,q2⟩:=q2;rw[zF rfl];refine zze hp (aU (hb pins s2 σ1 H2 _ I2 q2) λf s3 q3=>?_);cases f with
  |next=>obtain⟨σ3,H3,I3,n3⟩:=q3;obtain⟨m',hm,w3⟩:=hN σ3 H3 n3;exact⟨m',hm,σ3,H3,I3,w3⟩
  |cont=>obtain⟨σ3,H3,I3,n3⟩:=q3;obtain⟨m',hm,w3⟩:=hN σ3 H3 n3;exact⟨m',hm,σ3,H3,I3,w3⟩
  |brk=>exact q3
  |ret v=>exact q3
 |false=>exact wpAny_execs_nil ⟨σ1,H2,I2,q2⟩
end
structure It where
 go:Nat->Hp->Prop
 yld:Nat->Hp->V->Hp->Prop
 stop:Nat->Hp->Prop
def iP(X:Cx)(pins:List (Addr×Obj))(H:Hp)(b:Addr):Prop :=
 H b=none/\b≠X.env.locals/\b∉X.fs/\(b∈X.ex\/X.s₀.heap.objs.size<=b)/\(∀x c,X.env.cells.lookup x=some c->c≠b)/\∀p∈X.pn++pins,p.1≠b
theorem Inv.fpOk{X:Cx}{pins:List (Addr×Obj)}{σ:St}{H H':Hp}{s:Shared}{b:Addr}(I:Inv X pins σ H s)(hb:s.heap.objs.size<=b)(hn:H' b=none):iP X pins H' b:=by refine⟨hn,ZO (zj I.lt hb),I.nofs hb,.inr (zf I.sz hb),λx c e z=>?_,λp hp z=>?_⟩;obtain⟨v,q⟩:=I.cell x c e;exact absurd (zj q.lt (by simp_all)) (ZN _);exact absurd (zj (zL (I.pin p hp).1) (by simp_all)) (ZN _)
structure Turn (P:Program) (w:World) (K:Fg0) (tg:Expr) (J:It) (fp:List Addr) (it:Addr) (tn:Nat->Heap->Prop):Prop where
 mem:it∈fp
 obj:∀i h,tn i h->∀b∈fp,∃o,h.get? b=some o/\∀v,o.data≠.cell v
 keep:∀i h h',tn i h->(∀b∈fp,∀o,h.get? b=some o->h'.get? b=some o)->tn i h'
 item:∀(X:Cx),X.prog=P->X.w=w->X.K=K->X.calm=true->∀(i:Nat) (pins:List (Addr×Obj)) (s:Shared) (σ:St) (H:Hp) (E:Value->Shared->Prop),Inv X pins σ H s->(∀b∈fp,iP X pins H b)->tn i s.heap->J.go i H ->
  wpAny (model P w) X.A (pyNext (.ref it)) (λr s1=>∃u,r=some u /\
   wpAny (model P w) X.A (letOwnedTupleGo tg (.ref it) u) (λ_ s2=>∃x H',Inv X pins σ H' s2/\RelV x u/\J.yld i H x H'/\tn (i+1) s2.heap/\∀b∈fp,H' b=none) E s1) E s
 done:∀(X:Cx),X.prog=P->X.w=w->X.K=K->X.calm=true->∀(i:Nat) (pins:List (Addr×Obj)) (s:Shared) (σ:St) (H:Hp) (E:Value->Shared->Prop),Inv X pins σ H s->(∀b∈fp,iP X pins H b)->tn i s.heap->J.stop i H ->
  wpAny (model P w) X.A (pyNext (.ref it)) (λr s1=>r=none/\Inv X pins σ H s1) E s
 self:∀(A:Around) (i:Nat) (s:Shared) (Q:Value->Shared->Prop) (E:Value->Shared->Prop),tn i s.heap->Q (.ref it) s->wpAny (model P w) A (pyIter (.ref it)) Q E s
abbrev TI:=St->Hp->(It->Hp->Prop)->Prop
def Nm(X:Cx)(pins:List (Addr×Obj))(σ:St)(tg:Expr)(R:It->Hp->Prop)(itv:Value)(s2:Shared):Prop :=
 ∃(it:Addr) (fp:List Addr) (tn:Nat->Heap->Prop) (J:It) (H':Hp),itv=.ref it/\Inv X pins σ H' s2/\Turn X.prog X.w X.K tg J fp it tn/\tn 0 s2.heap/\(∀b∈fp,iP X pins H' b)/\R J H'
def PI(X:Cx)(tg iter:Expr)(wi:TI):Prop :=
 ∀(pins:List (Addr×Obj)) (s:Shared) (σ:St) (H:Hp) (R:It->Hp->Prop),Inv X pins σ H s->wi σ H R ->
  wpAny (model X.prog X.w) X.A (eval iter X.env) (λv s1=>wpAny (model X.prog X.w) X.A (pyIter v) (Nm X pins σ tg R) X.xe s1) X.xe s
theorem uI {M:Model} {A:Around} {E:Value→Shared→Prop} {s:Shared} {tg:Expr} {it:Addr} {u:Value} {o:Obj} {n:String} {vs:Array Value} {Q:Unit→Shared→Prop} (ho:s.heap.get? it=some o) (hc:o.cls=.type n) (hd:o.data=.fields vs)
    (hn:["enumerate","zip","dict_itemiterator","dict_reverseitemiterator","odict_iterator","itertools.zip_longest","itertools.pairwise"].contains n=false) (hQ:Q () s):wpAny M A (letOwnedTupleGo tg (.ref it) u) Q E s:=by
  unfold letOwnedTupleGo
  cases tg <;> first
    | exact zH hQ
    | (cases u <;> first
        | exact zH hQ
        | (refine zd (wpAny_load ho ?_)
           rw [hc,hd]
           show wpAny M A (if (["enumerate","zip","dict_itemiterator","dict_reverseitemiterator","odict_iterator","itertools.zip_longest","itertools.pairwise"].contains n&&vs[0]? == some (rawInt _))=true then _ else _) Q E s
           rw [zM (by intro h;rw [hn,Bool.false_and] at h;cases h)]
           exact zH hQ))

noncomputable def v8(K:Fg0)(a:Addr):It :=
 ⟨λi H=>∃xs x,iI K H a xs/\xs[i]?=some x,λi H x H'=>H'=H/\∀xs,iI K H a xs->xs[i]?=some x,λi H=>∃xs,iI K H a xs/\xs.length<=i⟩
noncomputable def yc(K:Fg0)(a:Addr):It :=
 ⟨λi H=>∃xs x,jQ K H a xs/\xs[i]?=some x,λi H x H'=>H'=H/\∀xs,jQ K H a xs->xs[i]?=some x,λi H=>∃xs,jQ K H a xs/\xs.length<=i⟩
noncomputable def wC(lo:Int)(n:Nat):It:=⟨λi _=>i<n,λi H x H'=>H'=H/\x=.int (lo+i),λi _=>n<=i⟩
theorem vF{K:Fg0}(a it):Turn P w K tg (v8 K a) [it] it (λi h=>h.IsListIter it a i) where
 mem:=ZzS
 obj:=λi h st b hb=>by
  have e:b=it:=by simpa using hb
  subst e;obtain⟨o,e,c,d⟩:=st;exact⟨o,e,λv z=>by rw[d]at z;cases z⟩
 keep:=λi h h' st k=>st.at λo e=>k it ZzS o e
 item:=by intro X hP hw hK hc i pins s σ H E I hf st hg;subst hP hw hK;obtain⟨xs,x,hq,hx⟩:=hg;obtain⟨its,rv,p,hz⟩:=I.list hq;obtain⟨u,hu,ru⟩:=rv.get hx;obtain⟨f0,f1,f2,f3,f4,f5⟩:=hf it ZzS;refine wpAny_pyNext_list_item st p.isList (x:=u) (by simpa using hu) λh' st' sb=>?_;have I1:Inv X pins σ H { s with heap:=h' }:=I.turned (t':=s.toks) (λb o hb e=>(sb.2 b hb).trans e) f0 f1 f3 f4 f5;obtain⟨o,e,c,d⟩:=id st';exact⟨u,rfl,uI (s:={ s with heap:=h' }) e c d ZzD ⟨x,H,I1,ru,⟨rfl,λys hy=>by rw[I.list_inj hy hq];exact hx⟩,st',λb hb=>(hf b hb).1⟩⟩
 done:=by intro X hP hw hK hc i pins s σ H E I hf st hg;subst hP hw hK;obtain⟨xs,hq,hx⟩:=hg;obtain⟨its,rv,p,hz⟩:=I.list hq;obtain⟨f0,f1,f2,f3,f4,f5⟩:=hf it ZzS;have hl:=rv.length;exact wpAny_pyNext_list_end (I.ok.hd hc) st p.isList (by simp;lia) λh' eb=>⟨rfl,I.turned (t':=s.toks) (λb o hb e=>eb b o hb e) f0 f1 f3 f4 f5⟩
 self:=λ_ _ _ _ _ st h=>wpAny_pyIter_listiter st h
theorem sC{K:Fg0}(a it):Turn P w K tg (yc K a) [it] it (λi h=>h.IsTupleIter it a i) where
 mem:=ZzS
 obj:=λi h st b hb=>by
  have e:b=it:=by simpa using hb
  subst e
  obtain⟨o,e,c,d⟩:=st
  grind
 keep:=λi h h' st k=>st.at λo e=>k it ZzS o e
 item:=by intro X hP hw hK hc i pins s σ H E I hf st hg;subst hP hw hK;obtain⟨xs,x,hq,hx⟩:=hg;obtain⟨its,rv,p,hz⟩:=I.tuple hq;obtain⟨u,hu,ru⟩:=rv.get hx;obtain⟨f0,f1,f2,f3,f4,f5⟩:=hf it ZzS;refine wpAny_pyNext_tuple_item st (show s.heap.IsTuple a its.toArray from p) (x:=u) (by simpa using hu) λh' st' sb=>?_;have I1:Inv X pins σ H { s with heap:=h' }:=I.turned (t':=s.toks) (λb o hb e=>(sb.2 b hb).trans e) f0 f1 f3 f4 f5;obtain⟨o,e,c,d⟩:=id st';exact⟨u,rfl,uI (s:={ s with heap:=h' }) e c d ZzD ⟨x,H,I1,ru,⟨rfl,λys hy=>by rw[I.tuple_inj hy hq];exact hx⟩,st',λb hb=>(hf b hb).1⟩⟩
 done:=by intro X hP hw hK hc i pins s σ H E I hf st hg;subst hP hw hK;obtain⟨xs,hq,hx⟩:=hg;obtain⟨its,rv,p,hz⟩:=I.tuple hq;obtain⟨f0,f1,f2,f3,f4,f5⟩:=hf it ZzS;have hl:=rv.length;exact wpAny_pyNext_tuple_end (I.ok.hd hc) st (show s.heap.IsTuple a its.toArray from p) (by simp;lia) λh' eb=>⟨rfl,I.turned (t':=s.toks) (λb o hb e=>eb b o hb e) f0 f1 f3 f4 f5⟩
 self:=λ_ _ _ _ _ st h=>wpAny_pyIter_tupleiter st h
theorem rX{K:Fg0}(it)(lo)(n):Turn P w K tg (wC lo n) [it] it (λi h=>IsRangeIter h it (lo+(i:Nat)*1) ((n:Int)-(i:Nat)) 1) where
 mem:=ZzS
 obj:=λi h st b hb=>by grind
 keep:=λi h h' st k=>k it ZzS _ st
 item:=by intro X hP hw hK hc i pins s σ H E I hf st hg;subst hP hw hK;obtain⟨f0,f1,f2,f3,f4,f5⟩:=hf it ZzS;have W:=Walks.range (prog:=X.prog) (w:=X.w) (I.ok.hd hc) it lo 1 n;refine W.item i s _ _ hg st λv h' tk hv st' kk=>?_;obtain⟨t,rfl⟩:=hv;have I1:Inv X pins σ H { s with heap:=h',toks:=tk }:=I.turned (λb o hb e=>kk b o (by simpa using hb) e) f0 f1 f3 f4 f5;refine⟨_,rfl,uI (s:={ s with heap:=h',toks:=tk }) (n:="range_iterator") st' rfl rfl ZzD ⟨.int (lo+i),H,I1,⟨t,?_⟩,⟨rfl,rfl⟩,st',λb hb=>(hf b hb).1⟩⟩;rw[Int.mul_one]
 done:=by intro X hP hw hK hc i pins s σ H E I hf st hg;subst hP hw hK;obtain⟨f0,f1,f2,f3,f4,f5⟩:=hf it ZzS;exact wpAny_pyNext_range_end (I.ok.hd hc) st (by have:n<=i:=hg;lia) λh' eb=>⟨rfl,I.turned (t':=s.toks) (λb o hb e=>eb b o hb e) f0 f1 f3 f4 f5⟩
 self:=λ_ _ _ _ _ st h=>wpAny_pyIter_rangeiter st h
section
variable {X:Cx}{tg:Expr}
theorem qI{pins:List (Addr×Obj)}{σ:St}{H:Hp}{s:Shared}{R:It->Hp->Prop}{E:Value->Shared->Prop}{lo hi:Int}{t u v:Tok}{tk:Nat}(I:Inv X pins σ H s)(h1:-(2^62)<=lo)(h2:lo<2^62)(h3:-(2^62)<=hi)(h4:hi<2^62)
  (q:R (wC lo (hi-lo).toNat) H):wpAny (model X.prog X.w) X.A (pyIter (.ref s.heap.objs.size)) (Nm X pins σ tg R) E { s with heap:=s.heap.push { cls:=.type "range",data:=.fields #[.int lo t,.int hi u,.int 1 v] },toks:=tk }:=by
 refine wpAny_pyIter_range (IsRange.new ..) (small_one h1 h2 h3 h4) ?_
 have I1:Inv X pins σ H { s with heap:=s.heap.push { cls:=.type "range",data:=.fields #[.int lo t,.int hi u,.int 1 v] },toks:=tk }:=I.kept λb o e=>hps0 _ e
 refine⟨(s.heap.push { cls:=.type "range",data:=.fields #[.int lo t,.int hi u,.int 1 v] }).objs.size,[(s.heap.push { cls:=.type "range",data:=.fields #[.int lo t,.int hi u,.int 1 v] }).objs.size],_,_,H,rfl,
  I1.kept (t':=tk) λb o e=>hps0 _ e,rX _ lo (hi-lo).toNat,?_,λb hb=>?_,q⟩
 ·have e1:lo+((0:Nat):Int)*1=lo:=ZzS
  have e2:(((hi-lo).toNat:Nat):Int)-((0:Nat):Int)=Builtin.Range.rangeSize lo hi 1:=by rw[rangeSize_one];split<;>lia
  show IsRangeIter _ _ (lo+((0:Nat):Int)*1) ((((hi-lo).toNat:Nat):Int)-((0:Nat):Int)) 1
  rw[e1,e2]
  exact zG _ rfl
 ·have e:b=(s.heap.push { cls:=.type "range",data:=.fields #[.int lo t,.int hi u,.int 1 v] }).objs.size:=by simpa using hb
  subst e
  exact I1.fpOk (zD _) (I1.hok.fresh (zD _))
def E6(ta:TA):TI:=λσ H R=>ta σ H λvs H1=>∃j:Int,vs=[.int j]/\-(2^62)<=j/\j<2^62/\R (wC 0 j.toNat) H1
def EH(ta:TA):TI:=λσ H R=>ta σ H λvs H1=>∃i j:Int,vs=[.int i,.int j]/\(-(2^62)<=i/\i<2^62/\-(2^62)<=j/\j<2^62)/\R (wC i (j-i).toNat) H1
theorem m8{a:Expr}{ta:TA}{p pos:Pos}(hg:Gl X "range")(hm:X.mg "range"=none)(ha:PA X [a] ta)(hs:starEach [a] X.env=[(false,eval a X.env)]:=by rfl):PI X tg (.Call (.Name "range" p) [a] [] pos) (E6 ta):=by
 intro pins s σ H R I h;refine Call_ (gC I hg hm boot_range (Z2 (aU (ha pos pins s σ H _ I h) λus s1 ⟨vs,H1,I1,r1,q1⟩=>?_) hs rfl));obtain⟨j,e,q1,q2,q⟩:=q1;subst e;cases r1 with
 |cons r rr=>cases rr;obtain⟨t,rfl⟩:=r;exact call_range_1 (qI I1 ZzS ZzS q1 q2 (by simp_all))
theorem mP(hg:Gl X "range")(hm:X.mg "range"=none)(ha:PA X [a,b] ta)(hs:starEach [a,b] X.env=[(false,eval a X.env),(false,eval b X.env)]:=by rfl)(hs2:starEach [b] X.env=[(false,eval b X.env)]:=by rfl) :
  PI X tg (.Call (.Name "range" p) [a,b] [] pos) (EH ta):=by
 intro pins s σ H R I h
 refine Call_ (gC I hg hm boot_range (Z2 (aU (ha pos pins s σ H _ I h) λus s1 ⟨vs,H1,I1,r1,q1⟩=>?_) (by simp_all) (by rw[hs2];rfl)))
 obtain⟨i,j,e,⟨q1,q2,q3,q4⟩,q⟩:=q1
 subst e
 cases r1 with
 |cons r rr =>
  cases rr with
  |cons r' rr =>
   cases rr
   obtain⟨t,rfl⟩:=r
   obtain⟨t',rfl⟩:=r'
   exact call_range_2 (qI I1 q1 q2 q3 q4 q)
def MF(wi:TI)(g:TG)(tb:TS):TS:=λD σ H=>wi σ H λJ H1=>∃W:Nat->Nat->St->Hp->Prop,(∃m,W 0 m σ H1)/\∀i m σ H,W i m σ H ->
 (J.stop i H/\D.nx σ H)\/(J.go i H/\∃N:St->Hp->Prop,(∀σ' H',N σ' H'->∃m',m'<m/\W (i+1) m' σ' H')/\∀x H',J.yld i H x H'->g x σ H' λσ2 H2=>tb { D with nx:=N,ct:=N,bk:=D.nx } σ2 H2)
noncomputable def lA(fp:List Addr)(h:Heap):List (Addr×Obj):=fp.filterMap λb=>(h.get? b).map λo=>(b,o)
theorem fO(hb:b∈fp)(e:h.get? b=some o):(b,o)∈lA fp h:=zzv.mpr ⟨b,hb,by simp_all⟩
theorem wD(hp:p∈lA fp h):p.1∈fp/\h.get? p.1=some p.2:=by
 obtain⟨b,hb,e⟩:=zzv.mp hp
 cases q:h.get? b with
 |none=>grind
 |some o =>
  grind
theorem Inv.pinned{pins:List (Addr×Obj)}{σ:St}{H:Hp}{s:Shared}{fp:List Addr}(I:Inv X pins σ H s)(hf:∀b∈fp,iP X pins H b)(ho:∀b∈fp,∃o,s.heap.get? b=some o/\∀v,o.data≠.cell v):Inv X (pins++lA fp s.heap) σ H s :=
 I.pins_of λp hp=>(Za.mp hp).elim (λz=>I.pin p (Zb _ z)) λz=>by
  obtain⟨hb,e⟩:=wD z
  obtain⟨f0,f1,f2,_⟩:=hf p.1 hb
  grind
theorem Inv.unpinned{pins pl:List (Addr×Obj)}{σ:St}{H:Hp}{s:Shared}(I:Inv X (pins++pl) σ H s):Inv X pins σ H s:=I.pins_of λp hp=>I.pin p (Zb _ (Ze _ hp))
theorem pf(hp:PassesOwn (model X.prog X.w) X.A X.env X.xe)(hc:X.calm=true)(hi:PI X tg iter wi)(hg:PG X tg g)(hb:PSs X body tb)
  (hs:∀x,foldedSetIterable iter X.env x=pure x:=by intro _;rfl):PS X (.For tg iter body [] pos) (MF wi g tb):=by
 intro pins s σ H D I h
 refine wpAny_For (aU (hi pins s σ H _ I h) λv s1 h1=>aU h1 λitv s2 h2=>?_) hs
 obtain⟨it,fp,tn,J,H2,e,I2,T,st2,f2,W,⟨m0,w0⟩,sm⟩:=h2
 subst e
 have stat:∀{H':Hp},(∀b∈fp,H' b=none)->∀b∈fp,iP X pins H' b:=λhn b hb=>⟨hn b hb,(f2 b hb).2⟩
 refine codeAny_forLoop_any (λn s'=>∃i σ' H',Inv X pins σ' H' s'/\tn i s'.heap/\(∀b∈fp,H' b=none)/\W i n σ' H') ?_ m0 ⟨0,σ,H2,I2,st2,λb hb=>(f2 b hb).1,w0⟩
 rintro n s3 ⟨i,σ3,H3,I3,st3,fr3,w3⟩
 rcases sm i n σ3 H3 w3 with⟨stop,qn⟩|⟨go,N,hN,step⟩
 ·refine zze hp (aU (T.done X rfl rfl rfl hc i pins s3 σ3 H3 X.xe I3 (stat fr3) st3 stop) λr s4 zq=>?_)
  obtain⟨hr,I4⟩:=zq
  subst hr
  exact wpAny_execs_nil ⟨σ3,H3,I4,qn⟩
 ·refine zze hp (aU (T.item X rfl rfl rfl hc i pins s3 σ3 H3 X.xe I3 (stat fr3) st3 go) λr s4 zq=>?_)
  obtain⟨u,hr,h4⟩:=zq
  subst hr
  refine zze hp (aU h4 λ_ s5 zq=>?_)
  obtain⟨x,H5,I5,r5,y5,st5,fr5⟩:=zq
  have I5':=I5.pinned (stat fr5) (T.obj _ _ st5)
  refine zze hp (aU (hg _ s5 σ3 H5 x u _ I5' r5 (step x H5 y5)) λ_ s6 zq=>?_)
  obtain⟨σ6,H6,I6,q6⟩:=zq
  refine zze hp (aU (hb _ s6 σ6 H6 _ I6 q6) λf s7 q7=>?_)
  have again:∀{σ7:St}{H7:Hp},Inv X (pins++lA fp s5.heap) σ7 H7 s7->N σ7 H7->∃m,m<n/\∃i σ' H',Inv X pins σ' H' s7/\tn i s7.heap/\(∀b∈fp,H' b=none)/\W i m σ' H':=λ{σ7 H7} I7 n7=>by obtain⟨m',hm,w7⟩:=hN σ7 H7 n7;refine⟨m',hm,i+1,σ7,H7,I7.unpinned,T.keep _ _ _ st5 λb hb o e=>(I7.pin (b,o) (Zb _ (Zb _ (fO hb e)))).1,λb hb=>?_,w7⟩;obtain⟨o,e,d⟩:=T.obj _ _ st5 b hb;exact(I7.pin (b,o) (Zb _ (Zb _ (fO hb e)))).2.1
  cases f with
  |next=>obtain⟨σ7,H7,I7,n7⟩:=q7;exact again I7 n7
  |cont=>obtain⟨σ7,H7,I7,n7⟩:=q7;exact again I7 n7
  |brk=>obtain⟨σ7,H7,I7,q7⟩:=q7;exact⟨σ7,H7,I7.unpinned,q7⟩
  |ret v=>obtain⟨x7,σ7,H7,I7,r7,q7⟩:=q7;exact⟨x7,σ7,H7,I7.unpinned,r7,q7⟩
end
theorem Bd{K:Fg0}{g:TG}{tb:TS}{D:Ends}(Pv:Nat->St->Hp->Prop)(h0:Pv 0 σ H)(hl:∀i σ H,i<=xs.length->Pv i σ H->iI K H a xs)
  (hs:∀i x σ H,xs[i]?=some x->Pv i σ H->g x σ H λσ2 H2=>tb { D with nx:=Pv (i+1),ct:=Pv (i+1),bk:=D.nx } σ2 H2) (hd:∀σ H,Pv xs.length σ H->D.nx σ H) :
  ∃W:Nat->Nat->St->Hp->Prop,(∃m,W 0 m σ H)/\∀i m σ H,W i m σ H ->
   ((v8 K a).stop i H/\D.nx σ H)\/((v8 K a).go i H/\∃N:St->Hp->Prop,(∀σ' H',N σ' H'->∃m',m'<m/\W (i+1) m' σ' H')/\∀x H',(v8 K a).yld i H x H'->g x σ H' λσ2 H2=>tb { D with nx:=N,ct:=N,bk:=D.nx } σ2 H2):=by
 refine⟨λi m σ H=>m=xs.length-i/\i<=xs.length/\Pv i σ H,⟨xs.length,ZzS,ZQ _,h0⟩,?_⟩
 rintro i m σ H ⟨rfl,hi,p⟩
 have q:=hl i σ H hi p
 by_cases hlt:i<xs.length
 ·refine .inr ⟨⟨xs,xs[i],q,by simp[hlt]⟩,Pv (i+1),λσ' H' p'=>⟨xs.length-(i+1),ZzL,rfl,hlt,p'⟩,λx H' y=>?_⟩
  obtain⟨e,y⟩:=y
  subst e
  exact hs i x σ _ (y xs q) p
 ·have e:i=xs.length:=ZzL
  subst e
  exact .inl ⟨⟨xs,q,zD _⟩,hd σ H p⟩
theorem Cb{K:Fg0}{g:TG}{tb:TS}{D:Ends}(Pv:Nat->St->Hp->Prop)(h0:Pv 0 σ H)(hl:∀i σ H,i<=xs.length->Pv i σ H->jQ K H a xs)
  (hs:∀i x σ H,xs[i]?=some x->Pv i σ H->g x σ H λσ2 H2=>tb { D with nx:=Pv (i+1),ct:=Pv (i+1),bk:=D.nx } σ2 H2) (hd:∀σ H,Pv xs.length σ H->D.nx σ H) :
  ∃W:Nat->Nat->St->Hp->Prop,(∃m,W 0 m σ H)/\∀i m σ H,W i m σ H ->
   ((yc K a).stop i H/\D.nx σ H)\/((yc K a).go i H/\∃N:St->Hp->Prop,(∀σ' H',N σ' H'->∃m',m'<m/\W (i+1) m' σ' H')/\∀x H',(yc K a).yld i H x H'->g x σ H' λσ2 H2=>tb { D with nx:=N,ct:=N,bk:=D.nx } σ2 H2):=by
 refine⟨λi m σ H=>m=xs.length-i/\i<=xs.length/\Pv i σ H,⟨xs.length,ZzS,ZQ _,h0⟩,?_⟩
 rintro i m σ H ⟨rfl,hi,p⟩
 have q:=hl i σ H hi p
 by_cases hlt:i<xs.length
 ·refine .inr ⟨⟨xs,xs[i],q,ZzS⟩,Pv (i+1),λσ' H' p'=>⟨xs.length-(i+1),ZzL,rfl,hlt,p'⟩,λx H' y=>?_⟩
  obtain⟨e,y⟩:=y
  subst e
  exact hs i x σ _ (y xs q) p
 ·have e:i=xs.length:=ZzL
  subst e
  exact .inl ⟨⟨xs,q,zD _⟩,hd σ H p⟩
theorem vH{lo:Int}{g:TG}{tb:TS}{D:Ends}(Pv:Nat->St->Hp->Prop)(h0:Pv 0 σ H)
  (hs:∀i σ H,i<n->Pv i σ H->g (.int (lo+i)) σ H λσ2 H2=>tb { D with nx:=Pv (i+1),ct:=Pv (i+1),bk:=D.nx } σ2 H2) (hd:∀σ H,Pv n σ H->D.nx σ H) :
  ∃W:Nat->Nat->St->Hp->Prop,(∃m,W 0 m σ H)/\∀i m σ H,W i m σ H ->
   ((wC lo n).stop i H/\D.nx σ H)\/((wC lo n).go i H/\∃N:St->Hp->Prop,(∀σ' H',N σ' H'->∃m',m'<m/\W (i+1) m' σ' H')/\∀x H',(wC lo n).yld i H x H'->g x σ H' λσ2 H2=>tb { D with nx:=N,ct:=N,bk:=D.nx } σ2 H2):=by
 refine⟨λi m σ H=>m=n-i/\i<=n/\Pv i σ H,⟨n,rfl,ZQ _,h0⟩,?_⟩
 rintro i m σ H ⟨rfl,hi,p⟩
 by_cases hlt:i<n
 ·refine .inr ⟨hlt,Pv (i+1),λσ' H' p'=>⟨n-(i+1),ZzL,rfl,hlt,p'⟩,λx H' y=>?_⟩
  obtain⟨e,y⟩:=y
  simp_all
 ·have e:i=n:=ZzL
  subst e
  exact .inl ⟨zD _,hd σ H p⟩
abbrev R2:=V->V->Hp->VK->Prop
def gq(X:Cx)(f:Value->Value->Sem Value)(r:R2):Prop :=
 ∀(pins:List (Addr×Obj)) (s:Shared) (σ:St) (H:Hp) (x y:V) (v u:Value) (Q:VK),Inv X pins σ H s->RelV x v->RelV y u->r x y H Q ->
  wpAny (model X.prog X.w) X.A (f v u) (EP X pins σ Q) X.xe s
def Nr(X:Cx)(f:Value->Sem Value)(r:V->Hp->VK->Prop):Prop :=
 ∀(pins:List (Addr×Obj)) (s:Shared) (σ:St) (H:Hp) (x:V) (v:Value) (Q:VK),Inv X pins σ H s->RelV x v->r x H Q ->
  wpAny (model X.prog X.w) X.A (f v) (EP X pins σ Q) X.xe s
def br(X:Cx)(f:Value)(r:List V->Hp->VK->Prop):Prop :=
 ∀(pins:List (Addr×Obj)) (s:Shared) (σ:St) (H:Hp) (xs:List V) (us:List Value) (Q:VK),Inv X pins σ H s->Vals xs us->r xs H Q ->
  wpAny (model X.prog X.w) X.A (call f us) (EP X pins σ Q) X.xe s
def IH(r:R2)(ta tb:TE):TE:=λσ H Q=>ta σ H λx H1=>tb σ H1 λy H2=>r x y H2 Q
def Pe(r:V->Hp->VK->Prop)(ta:TE):TE:=λσ H Q=>ta σ H λx H1=>r x H1 Q
def rI(C:Int->Int->Prop)(g:Int->Int->V):R2:=λx y H Q=>∃i j,x=.int i/\y=.int j/\C i j/\Q (g i j) H
def EF(g:Int->Int->V):R2:=λx y H Q=>∃i j,x=.int i/\y=.int j/\Q (g i j) H
def rU(g:Int->V):V->Hp->VK->Prop:=λx H Q=>∃i,x=.int i/\Q (g i) H
section
variable {X:Cx}{a b c:Expr}{ta tb tc:TE}{pos:Pos}
theorem Hq(ha:PE X a ta)(hb:PE X b tb){pins:List (Addr×Obj)}{s:Shared}{σ:St}{H:Hp}{R:V->V->Hp->Prop}(I:Inv X pins σ H s)
 (h:ta σ H λx H1=>tb σ H1 λy H2=>R x y H2) {Q:Value->Shared->Prop}{f:Value->Value->Sem Value}
 (hf:∀v u s2 x y H2,Inv X pins σ H2 s2->RelV x v->RelV y u->R x y H2->wpAny (model X.prog X.w) X.A (f v u) Q X.xe s2) :
 wpAny (model X.prog X.w) X.A (eval a X.env) (λv s₁=>wpAny (model X.prog X.w) X.A (eval b X.env) (λu s₂=>wpAny (model X.prog X.w) X.A (f v u) Q X.xe s₂) X.xe s₁) X.xe s:=aU (ha pins s σ H _ I h) λv s1 zq=>by obtain⟨x,H1,I1,r1,q1⟩:=zq;exact(aU (hb pins s1 σ H1 _ I1 q1) λu s2 ⟨y,H2,I2,r2,q2⟩=>(hf v u s2 x y H2 I2 r1 r2 q2))
theorem uO{op:Operator}{r:R2}(ho:gq X (binaryOp op) r)(ha:PE X a ta)(hb:PE X b tb):PE X (.BinOp a op b pos) (IH r ta tb):=by intro pins s σ H Q I h;exact wpAny_BinOp (Hq ha hb I h λv u s2 x y H2 I2 rx ry q=>ho pins s2 σ H2 x y v u Q I2 rx ry q)
theorem KH(ho:Nr X (unaryOp op) r)(ha:PE X a ta):PE X (.UnaryOp op a pos) (Pe r ta):=by intro pins s σ H Q I h;exact UnaryOp_ (aU (ha pins s σ H _ I h) λv s1 ⟨x,H1,I1,r1,q1⟩=>ho pins s1 σ H1 x v Q I1 r1 q1)
theorem opI{g:Int->Int->Int}
  (rule:∀(i j:Int) (t u:Tok) (s:Shared) (Q:Value->Shared->Prop) (E:Value->Shared->Prop),C i j->Q (.int (g i j) s.toks) { s with toks:=s.toks+1 }->wpAny (model X.prog X.w) X.A (f (.int i t) (.int j u)) Q E s) :
  gq X f (rI C λi j=>.int (g i j)):=by
 intro pins s σ H x y v u Q I rx ry h
 obtain⟨i,j,rfl,rfl,hc,q⟩:=h
 obtain⟨t,rfl⟩:=rx
 obtain⟨t',rfl⟩:=ry
 exact rule i j t t' s _ _ hc ⟨.int (g i j),H,I.tok _,⟨_,rfl⟩,q⟩
theorem LW{g:Int->Int->Int}
  (rule:∀(i j:Int) (t u:Tok) (s:Shared) (Q:Value->Shared->Prop) (E:Value->Shared->Prop),Q (.int (g i j) s.toks) { s with toks:=s.toks+1 }->wpAny (model X.prog X.w) X.A (f (.int i t) (.int j u)) Q E s) :
  gq X f (EF λi j=>.int (g i j)):=by
 intro pins s σ H x y v u Q I rx ry h
 obtain⟨i,j,rfl,rfl,q⟩:=h
 obtain⟨t,rfl⟩:=rx
 obtain⟨t',rfl⟩:=ry
 exact rule i j t t' s _ _ ⟨.int (g i j),H,I.tok _,⟨_,rfl⟩,q⟩
theorem BQ{g:Int->Int->Bool}
  (rule:∀(i j:Int) (t u:Tok) (s:Shared) (Q:Value->Shared->Prop) (E:Value->Shared->Prop),Q (.bool (g i j)) s->wpAny (model X.prog X.w) X.A (f (.int i t) (.int j u)) Q E s) :
  gq X f (EF λi j=>.bl (g i j)):=by
 intro pins s σ H x y v u Q I rx ry h
 obtain⟨i,j,rfl,rfl,q⟩:=h
 obtain⟨t,rfl⟩:=rx
 obtain⟨t',rfl⟩:=ry
 exact rule i j t t' s _ _ ⟨.bl (g i j),H,I,rfl,q⟩
def NF(i j:Int):Prop:=0<=j/\j<=1000000/\i.natAbs<2^64
theorem G2:gq X (binaryOp .Add) (EF λi j=>.int (i+j)):=LW λ_ _ _ _ _ _ _ q=>add_int q
theorem Gj:gq X (binaryOp .Sub) (EF λi j=>.int (i-j)):=LW λ_ _ _ _ _ _ _ q=>sub_int q
theorem Dn:gq X (binaryOp .Mod) (rI (λ_ j=>j≠0) λi j=>.int (i.fmod j)):=opI λ_ _ _ _ _ _ _ hc q=>mod_int' hc q
theorem Gy:gq X (binaryOp .Pow) (rI NF λi j=>.int (i^j.toNat)):=opI λ_ _ _ _ _ _ _ hc q=>pow_int_small hc.1 hc.2.1 hc.2.2 q
theorem Ml{g:Int->Int}
  (rule:∀(i:Int) (t:Tok) (s:Shared) (Q:Value->Shared->Prop) (E:Value->Shared->Prop),Q (.int (g i) s.toks) { s with toks:=s.toks+1 }->wpAny (model X.prog X.w) X.A (f (.int i t)) Q E s) :
  Nr X f (rU λi=>.int (g i)):=by
 intro pins s σ H x v Q I rx h
 obtain⟨i,rfl,q⟩:=h
 obtain⟨t,rfl⟩:=rx
 exact rule i t s _ _ ⟨.int (g i),H,I.tok _,⟨_,rfl⟩,q⟩
theorem F6:Nr X (unaryOp .USub) (rU λi=>.int (-i)):=Ml λ_ _ _ _ _ q=>neg_int q
end
noncomputable def HF:V->V->Bool
 |.non,.non=>true|.non,.int _=>true|.int _,.non=>true|.non,.bl _=>true|.bl _,.non=>true|.non,.str _=>true|.str _,.non=>true
 |.int _,.int _=>true|.bl _,.bl _=>true|.str _,.str _=>true|.byt _,.byt _=>true
 |.int _,.str _=>true|.str _,.int _=>true|.bl _,.str _=>true|.str _,.bl _=>true
 |_,_=>false
def QK:R2:=λx y H Q=>HF x y=true/\Q (.bl (decide (x=y))) H
def Qk:R2:=λx y H Q=>HF x y=true/\Q (.bl (!decide (x=y))) H
theorem uE:decide (V.int i=V.int j)=(i==j):=by grind
theorem y4:decide (V.bl i=V.bl j)=(i==j):=by grind
theorem tT:decide (V.str i=V.str j)=(i==j):=by grind
theorem uP:decide (V.byt i=V.byt j)=(i.toList==j.toList):=by rw[zzY];simp_all
section
variable {X:Cx}{a b c:Expr}{ta tb tc:TE}{pos:Pos}
theorem aC{pins:List (Addr×Obj)}{σ:St}{H:Hp}{s:Shared}{Q:VK}{k k':Bool}(I:Inv X pins σ H s)(q:Q (.bl k) H)(e:k=k'):EP X pins σ Q (.bool k') s:=by subst e;exact⟨.bl k,H,I,rfl,q⟩
theorem LH:gq X (compareOp .Eq) QK:=by
 intro pins s σ H x y v u Q I rx ry h;obtain⟨hs,q⟩:=h;cases x with
 |non=>
  cases rx;cases y with
  |non=>cases ry;exact PySem.EqNone.eq_none_none (aC I q ZzS)
  |bl j=>cases ry;exact PySem.EqNone.eq_none_bool (aC I q ZzS)
  |int j=>obtain⟨t',rfl⟩:=ry;exact PySem.EqNone.eq_none_int (aC I q ZzS)
  |str j=>obtain⟨t',rfl⟩:=ry;exact PySem.EqNone.eq_none_str (aC I q ZzS)
  |_=>exact absurd (show false=true from hs) zR
 |bl i=>
  cases rx;cases y with
  |non=>cases ry;exact PySem.EqNone.eq_bool_none (aC I q ZzS)
  |bl j=>cases ry;exact eq_bool (aC I q y4)
  |str j=>obtain⟨t',rfl⟩:=ry;exact PySem.EqMixed.eq_bool_str (aC I q ZzS)
  |_=>exact absurd (show false=true from hs) zR
 |int i=>
  obtain⟨t,rfl⟩:=rx;cases y with
  |non=>cases ry;exact PySem.EqNone.eq_int_none (aC I q ZzS)
  |int j=>obtain⟨t',rfl⟩:=ry;exact eq_int (aC I q uE)
  |str j=>obtain⟨t',rfl⟩:=ry;exact PySem.EqMixed.eq_int_str (aC I q ZzS)
  |_=>exact absurd (show false=true from hs) zR
 |str i=>
  obtain⟨t,rfl⟩:=rx;cases y with
  |non=>cases ry;exact PySem.EqNone.eq_str_none (aC I q ZzS)
  |bl j=>cases ry;exact PySem.EqMixed.eq_str_bool (aC I q ZzS)
  |int j=>obtain⟨t',rfl⟩:=ry;exact PySem.EqMixed.eq_str_int (aC I q ZzS)
  |str j=>obtain⟨t',rfl⟩:=ry;exact eq_str (aC I q tT)
  |_=>exact absurd (show false=true from hs) zR
 |byt i=>
  obtain⟨t,rfl⟩:=rx;cases y with
  |byt j=>obtain⟨t',rfl⟩:=ry;exact PySem.W.eq_bytes (aC I q uP)
  |_=>exact absurd (show false=true from hs) zR
 |_=>cases y<;>exact absurd (show false=true from hs) zR
theorem La:gq X (compareOp .NotEq) Qk:=by
 intro pins s σ H x y v u Q I rx ry h;obtain⟨hs,q⟩:=h;cases x with
 |non=>
  cases rx;cases y with
  |non=>cases ry;exact PySem.EqNone.ne_none_none (aC I q ZzS)
  |bl j=>cases ry;exact PySem.EqNone.ne_none_bool (aC I q ZzS)
  |int j=>obtain⟨t',rfl⟩:=ry;exact PySem.EqNone.ne_none_int (aC I q ZzS)
  |str j=>obtain⟨t',rfl⟩:=ry;exact PySem.EqNone.ne_none_str (aC I q ZzS)
  |_=>exact absurd (show false=true from hs) zR
 |bl i=>
  cases rx;cases y with
  |non=>cases ry;exact PySem.EqNone.ne_bool_none (aC I q ZzS)
  |bl j=>cases ry;exact ne_bool (aC I q (congrArg not y4))
  |str j=>obtain⟨t',rfl⟩:=ry;exact PySem.EqMixed.ne_bool_str (aC I q ZzS)
  |_=>exact absurd (show false=true from hs) zR
 |int i=>
  obtain⟨t,rfl⟩:=rx;cases y with
  |non=>cases ry;exact PySem.EqNone.ne_int_none (aC I q ZzS)
  |int j=>obtain⟨t',rfl⟩:=ry;exact ne_int (aC I q (congrArg not uE))
  |str j=>obtain⟨t',rfl⟩:=ry;exact PySem.EqMixed.ne_int_str (aC I q ZzS)
  |_=>exact absurd (show false=true from hs) zR
 |str i=>
  obtain⟨t,rfl⟩:=rx;cases y with
  |non=>cases ry;exact PySem.EqNone.ne_str_none (aC I q ZzS)
  |bl j=>cases ry;exact PySem.EqMixed.ne_str_bool (aC I q ZzS)
  |int j=>obtain⟨t',rfl⟩:=ry;exact PySem.EqMixed.ne_str_int (aC I q ZzS)
  |str j=>obtain⟨t',rfl⟩:=ry;exact ne_str (aC I q (congrArg not tT))
  |_=>exact absurd (show false=true from hs) zR
 |byt i=>
  obtain⟨t,rfl⟩:=rx;cases y with
  |byt j=>obtain⟨t',rfl⟩:=ry;exact PySem.W.ne_bytes (aC I q (congrArg not uP))
  |_=>exact absurd (show false=true from hs) zR
 |_=>cases y<;>exact absurd (show false=true from hs) zR
theorem Lz:gq X (compareOp .Lt) (EF λi j=>.bl (decide (i<j))):=BQ λ_ _ _ _ _ _ _ q=>lt_int q
theorem Mb:gq X (compareOp .LtE) (EF λi j=>.bl (decide (i<=j))):=BQ λ_ _ _ _ _ _ _ q=>le_int q
theorem Lr:gq X (compareOp .Gt) (EF λi j=>.bl (decide (j<i))):=BQ λ_ _ _ _ _ _ _ q=>gt_int q
theorem L3:gq X (compareOp .GtE) (EF λi j=>.bl (decide (j<=i))):=BQ λ_ _ _ _ _ _ _ q=>ge_int q
theorem Gg:gq X (compareOp .Is) (λx y H Q=>y=.non/\Q (.bl (decide (x=.non))) H):=by
 intro pins s σ H x y v u Q I rx ry h;obtain⟨rfl,q⟩:=h;cases ry;refine is_none_gen (aC I q ?_)
 cases x<;>first
  |(cases rx;rfl)
  |(obtain⟨t,rfl⟩:=rx;rfl)
theorem BK:gq X (compareOp .IsNot) (λx y H Q=>y=.non/\Q (.bl (!decide (x=.non))) H):=by
 intro pins s σ H x y v u Q I rx ry h;obtain⟨rfl,q⟩:=h;cases ry;refine isnot_none_gen (aC I q ?_)
 cases x<;>first
  |rfl
  |(obtain⟨t,rfl⟩:=rx;rfl)
noncomputable def Kx:HO->Bool
 |.lst _=>true
 |.ins _ _ _=>true
 |_=>false
theorem mB{pins:List (Addr×Obj)}{s:Shared}{σ:St}{H:Hp}{a:Addr}{o:HO}(I:Inv X pins σ H s)(h:H a=some o)(p:Kx o=true):∃ob,s.heap.get? a=some ob/\ob.cls≠.type "tuple":=by
 cases o with
 |lst xs =>
  obtain⟨_,its,n,_,e⟩:xs.length<=sizeLine/\∃(its:List Value) (n:Nat),Vals xs its/\s.heap.get? a=some { cls:=.type "list",data:=.seq its.toArray n }:=I.hok a _ h
  grind
 |ins C dx fs =>
  have x:=I.hok a _ h
  obtain⟨_,_,_,e,_⟩:=x
  grind
 |_=>exact absurd (p) zR
theorem BA{op:CmpOp}{r:R2}(ho:gq X (compareOp op) r)(ha:PE X a ta)(hb:PE X b tb)(hm:behindInMarks op b=false):PE X (.Compare a [op] [b] pos) (IH r ta tb):=by intro pins s σ H Q I h;exact wpAny_Compare1 (Hq ha hb I h λv u s2 x y H2 I2 rx ry q=>ho pins s2 σ H2 x y v u Q I2 rx ry q) hm
def EL(t:TE):TT:=λσ H Q=>t σ H λx H'=>∃k,x=.bl k/\Q k H'
theorem Cn(ho:gq X (compareOp op) r)(ha:PE X a ta)(hb:PE X b tb)(hm:behindInMarks op b=false):PT X (.Compare a [op] [b] pos) (EL (IH r ta tb)):=by
 intro pins s σ H Q I h
 refine wpAny_isTrue_Compare1 (aU (ha pins s σ H _ I h) λv s1 ⟨x,H1,I1,r1,q1⟩=>aU (hb pins s1 σ H1 _ I1 q1) λu s2 ⟨y,H2,I2,r2,q2⟩ =>
  aU (ho pins s2 σ H2 x y v u _ I2 r1 r2 q2) λc s3 zq=>?_) hm
 obtain⟨z,H3,I3,r3,k,e,q3⟩:=zq;subst e;cases r3;exact ZE ⟨H3,I3,q3⟩
def sg(r r':R2)(ta tb tc:TE):TE:=λσ H Q=>ta σ H λx H1=>tb σ H1 λy H2=>r x y H2 λz H3=>∃k,z=.bl k /\
 (if k=true then tc σ H3 λw' H4=>r' y w' H4 Q else Q (.bl false) H3)
theorem Am(ho:gq X (compareOp op) r)(ho':gq X (compareOp op') r')(ha:PE X a ta)(hb:PE X b tb)(hc:PE X c tc)
  (hm:lastMarks [op,op'] [b,c]=false:=by rfl):PE X (.Compare a [op,op'] [b,c] pos) (sg r r' ta tb tc):=by
 intro pins s σ H Q I h
 refine Compare_chain (aU (ha pins s σ H _ I h) λv s1 ⟨x,H1,I1,r1,q1⟩=>chain_link (aU (hb pins s1 σ H1 _ I1 q1) λu s2 ⟨y,H2,I2,r2,q2⟩ =>
  aU (ho pins s2 σ H2 x y v u _ I2 r1 r2 q2) λd s3 zq=>?_)) hm
 obtain⟨z,H3,I3,r3,k,e,q3⟩:=zq
 subst e
 cases r3
 refine ZE ?_
 cases k with
 |false=>exact ite_ff ⟨.bl false,H3,I3,rfl,q3⟩
 |true=>exact ite_tt (chain_last (aU (hc pins s3 σ H3 _ I3 q3) λw' s4 ⟨z',H4,I4,r4,q4⟩=>ho' pins s4 σ H4 y z' u w' Q I4 r2 r4 q4))
theorem B1(ho:gq X (compareOp op) r)(ho':gq X (compareOp op') r')(ha:PE X a ta)(hb:PE X b tb)(hc:PE X c tc)
  (hm:lastMarks [op,op'] [b,c]=false:=by rfl):PT X (.Compare a [op,op'] [b,c] pos) (EL (sg r r' ta tb tc)):=by
 intro pins s σ H Q I h
 refine isTrue_chain (aU (ha pins s σ H _ I h) λv s1 ⟨x,H1,I1,r1,q1⟩=>test_link (aU (hb pins s1 σ H1 _ I1 q1) λu s2 ⟨y,H2,I2,r2,q2⟩ =>
  aU (ho pins s2 σ H2 x y v u _ I2 r1 r2 q2) λd s3 zq=>?_)) hm
 obtain⟨z,H3,I3,r3,k,e,q3⟩:=zq
 subst e
 cases r3
 refine ZE ?_
 cases k with
 |false =>
  obtain⟨k',e',q'⟩:=q3
  cases e'
  exact ite_ff ⟨H3,I3,q'⟩
 |true =>
  refine ite_tt (test_last (aU (hc pins s3 σ H3 _ I3 q3) λw' s4 ⟨z',H4,I4,r4,q4⟩=>aU (ho' pins s4 σ H4 y z' u w' _ I4 r2 r4 q4) λd' s5 zq=>?_))
  obtain⟨z2,H5,I5,r5,k2,e2,q5⟩:=zq
  subst e2
  cases r5
  exact ZE ⟨H5,I5,q5⟩
theorem jv:(sizeLine)<2^63:=ZzD
theorem rR:gq X (binaryOp .Add) (λx y H Q=>∃i j,x=.str i/\y=.str j/\i.length+j.length<=sizeLine/\Q (.str (i++j)) H):=by intro pins s σ H x y v u Q I rx ry h;obtain⟨i,j,rfl,rfl,hz,q⟩:=h;obtain⟨t,rfl⟩:=rx;obtain⟨t',rfl⟩:=ry;exact add_str (λt' tk=>⟨.str (i++j),H,I.tok _,⟨_,rfl⟩,q⟩) hz
theorem mJ(r:Vals [x] us):∃u,us=[u]/\RelV x u:=by
 cases r with
 |cons r1 r2=>cases r2;grind
theorem vg(r:Vals [x,y] us):∃u w',us=[u,w']/\RelV x u/\RelV y w':=by
 cases r with
 |cons r1 r2=>
  cases r2 with
  |cons r3 r4=>cases r4;exact⟨_,_,rfl,r1,r3⟩
theorem wV(hc:X.calm=true):br X (.builtin "max") (λxs H Q=>∃i j,xs=[.int i,.int j]/\Q (.int (if j>i then j else i)) H):=by intro pins s σ H xs us Q I r h;obtain⟨i,j,rfl,q⟩:=h;obtain⟨u,w',rfl,⟨t,rfl⟩,⟨t',rfl⟩⟩:=vg r;refine max_two_ints (I.ok.hd hc) λh' tk k=>⟨_,H,I.kept k,?_,q⟩;by_cases hj:j>i;rw[zF hj,zF hj];exact⟨_,rfl⟩;rw[zM hj,zM hj];exact⟨_,rfl⟩
theorem wo(hc:X.calm=true):br X (.builtin "min") (λxs H Q=>∃i j,xs=[.int i,.int j]/\Q (.int (if j<i then j else i)) H):=by intro pins s σ H xs us Q I r h;obtain⟨i,j,rfl,q⟩:=h;obtain⟨u,w',rfl,⟨t,rfl⟩,⟨t',rfl⟩⟩:=vg r;refine min_two_ints (I.ok.hd hc) λh' tk k=>⟨_,H,I.kept k,?_,q⟩;by_cases hj:j<i;rw[zF hj,zF hj];exact⟨_,rfl⟩;rw[zM hj,zM hj];exact⟨_,rfl⟩
theorem ny:br X (.type "int") (λxs H Q=>(∃i,xs=[.int i]/\Q (.int i) H)\/∃k,xs=[.bl k]/\Q (.int (if k then 1 else 0)) H):=by intro pins s σ H xs us Q I r h;rcases h with⟨i,rfl,q⟩|⟨k,rfl,q⟩;obtain⟨u,rfl,t,rfl⟩:=mJ r;exact call_int_int ⟨.int i,H,I,⟨_,rfl⟩,q⟩;obtain⟨u,rfl,r1⟩:=mJ r;cases r1;exact call_int_bool ⟨.int (if k then 1 else 0),H,I.tok _,⟨_,rfl⟩,q⟩
end
structure ObjM (h:Heap) (x dx C:Addr) (mA:Str->Option Value):Prop where
 obj:h.get? x=some (PySem.W.instObj C dx)
 ns:h.Ns1 dx mA
 ne:dx≠x
theorem vM{h:Heap}(n:h.Ns1 dx mA):∃od,h.get? dx=some od/\∀name,PySem.W.lookIn name od=some (mA name):=by
 obtain⟨o,es,ep,ho,hd,hk,_,hm⟩:=n
 refine⟨o,ho,λname=>?_⟩
 have e:=hm name
 unfold nsFind findBy at e
 rw[<- Array.find?_toList]at e
 unfold PySem.W.lookIn
 rw[hd]
 dsimp only
 split
 ·grind
 ·rename_i q
  rw[q]at e
  have a:es.toList.any (·.refKey)=false:=by
   rw[zzI]
   intro y hy
   obtain⟨z,t,hkey⟩:=hk y (zzL.mp hy)
   simp[DictEntry.refKey,hkey]
  grind
theorem ObjM.look(I:ObjM h x dx C mA):∃od,PySem.W.InstAt h x (PySem.W.instObj C dx) C (some od)/\∀name,PySem.W.lookIn name od=some (mA name) :=
 let ⟨od,ho,hl⟩:=vM I.ns
 ⟨od,⟨I.obj,rfl,rfl,ho⟩,hl⟩
section
variable {prog:Program}{w:World}{A:Around}{E:Value->Shared->Prop}{s:Shared}{K:Fg0}{x dx C f:Addr}{mA:Str->Option Value}{name:Str}{v:Value}
theorem Dw(X:K.In s.heap)(I:ObjM s.heap x dx C mA)(hg:PySem.W.plainGet K C name=true)(hh:PySem.W.hasDictIn K C=true)
  (ha:PySem.W.findIn K (.ref C) name=some none) (hv:mA name=some v) (hv':PySem.W.handedIn v=true) (h:Q v { s with toks:=s.toks+1 }) :
  wpAny (model prog w) A (getAttr (.ref x) name expr) Q E s:=by
 obtain⟨od,J,hl⟩:=I.look
 exact PySem.W.get_value X J (PySem.W.plainGet_of hg).1 (PySem.W.findObj_own hh ha rfl (by simp_all)) hv' h
theorem Bz(X:K.In s.heap)(I:ObjM s.heap x dx C mA)(hg:PySem.W.plainGet K C name=true)
  (hf:PySem.W.findIn K (.ref C) name=some (some (.ref f))) (ht:PySem.W.isFn K (.ref f)=true) (hv:mA name=none) (h:Q (.ref f,[.ref x]) s) :
  wpAny (model prog w) A (getMethod (.ref x) name pl) Q E s:=by
 obtain⟨od,J,hl⟩:=I.look
 exact PySem.W.method_fn X J (PySem.W.plainGet_of hg).1 (PySem.W.plainGet_of hg).2 hf (beq_iff_eq.mp ht) (by show(PySem.W.lookIn name od).map (·.isSome)=some false;simp_all) h
theorem BV(X:K.In s.heap)(I:ObjM s.heap x dx C mA)
  (hs:PySem.W.findIn K (.ref C) "__setattr__"=some (some (.builtin "object.__setattr__"))) (hp:PySem.W.plainOver K C=true) (ht:PySem.W.takerIn K C name=some none) (hh:PySem.W.hasDictIn K C=true)
  (hw:PySem.Within mA ns) (hsz:ns.length<=sizeLine)
  (h:∀h',ObjM h' x dx C (λy=>if y=name then some v else mA y)->Heap.SameBut dx s.heap h'->Q () { s with heap:=h',toks:=s.toks+2 }) :
  wpAny (model prog w) A (setAttr (.ref x) name v) Q E s:=by
 obtain⟨od,J,hl⟩:=I.look
 refine PySem.W.set_plain X J hs (PySem.W.osa_open (s:={ s with toks:=s.toks+1 }) (r:=none) X J hp ht λb=>?_)
 obtain⟨cd,hc,hd'⟩:=PySem.W.any_some hh
 have hx :=I.obj
 refine zd (zH (zd (zd (wpAny_loadPart hx (zd (PySem.W.Looks.here (s:={ s with toks:=s.toks+1 }) (PySem.W.looks_clsIn X hc) ?_))))))
 rw[hd']
 refine zH (a:=some dx) (zd (zH (zd ?_)))
 refine wpAny_nsSet1 (s:={ s with toks:=s.toks+1 }) I.ns λh' hn2 hs2=>?_
 obtain⟨oD,esD,epD,hoD,hdD,hcD⟩:=hn2.count (PySem.Within.cons name v hw)
 refine zd (wpAny_lookBehind hoD (by rw[hdD];exact pastItsLine_dict (zf hcD (by rw[z0];lia))) ?_)
 exact zH (h _ ⟨(hs2.2 _ (zzi I.ne)).trans I.obj,hn2,I.ne⟩ hs2)
theorem Ac (X:K.In s.heap) (hm:PySem.W.makesIn K C=true)
    (hi:PySem.W.findIn K (.ref C) "__init__"=some (some (.ref f))) (hf:PySem.W.typeIn K (.ref f)=some (.type "function"))
    (h:codeAny (model prog w) (A.under (.builtin "type.__call__" ⟨.ref C::vs,kw⟩)) (.call (.ref f) ⟨.ref (s.heap.objs.size+1)::vs,kw⟩) (PySem.W.InitBack (s.heap.objs.size+1) R)
      { s with heap:=(s.heap.push PySem.W.emptyDict).push (PySem.W.instObj C s.heap.objs.size) }) :
    codeAny (model prog w) A (.call (.ref C) ⟨vs,kw⟩) R s:=by
  obtain ⟨hh,g,d,t,os⟩:=s
  exact PySem.W.make_core (PySem.W.makes_of X hm) (PySem.W.looks_findIn X hi) (fun self=>PySem.W.bind_fn X self hf) (.inl rfl) h
end
noncomputable def gg(f:Str)(v:V):List (Str×V)->List (Str×V)
 |[]=>[(f,v)]
 |(g,x)::r=>if g=f then(g,v)::r else(g,x)::gg f v r
theorem jR(f g)(v):∀fs:List (Str×V),(gg f v fs).lookup g=if g=f then some v else fs.lookup g
 |[]=>by
  show List.lookup g [(f,v)]=_
  grind
 |(k,x)::r=>by
  have ih:=jR f g v r
  rw[show gg f v ((k,x)::r)=(if k=f then(k,v)::r else(k,x)::gg f v r) from rfl]
  grind
theorem jx(f)(v):∀fs:List (Str×V),f∈(gg f v fs).map (·.1)/\∀g,g∈fs.map (·.1)->g∈(gg f v fs).map (·.1)
 |[]=>⟨by simp[gg],λg h=>by simp_all⟩
 |(k,x)::r=>by
  obtain⟨i1,i2⟩:=jx f v r
  rw[show gg f v ((k,x)::r)=(if k=f then(k,v)::r else(k,x)::gg f v r) from rfl]
  grind
theorem jU(f)(v):∀fs:List (Str×V),(gg f v fs).length<=fs.length+1
 |[]=>by simp[gg]
 |(k,x)::r=>by
  have ih:=jU f v r
  rw[show gg f v ((k,x)::r)=(if k=f then(k,v)::r else(k,x)::gg f v r) from rfl]
  grind
theorem RelO.some_of(r:RelO (some v) o):∃u,o=some u/\RelV v u:=by
 cases o with
 |none=>exact(r).elim
 |some u=>exact⟨u,rfl,r⟩
theorem RelO.none_of(r:RelO none o):o=none:=by
 cases o with
 |none=>rfl
 |some u=>exact(r).elim
theorem vW(r:RelV v u):PySem.W.handedIn u=true:=by
 cases v with
 |non=>cases (show u=Value.none from r);rfl
 |bl b=>cases (r);rfl
 |int i=>obtain⟨t,e⟩:=(r);cases e;rfl
 |str x=>obtain⟨t,e⟩:=(r);cases e;rfl
 |byt b=>obtain⟨t,e⟩:=(r);cases e;rfl
 |flt b=>obtain⟨t,e⟩:=(r);cases e;rfl
 |ref a=>cases (show u=Value.ref a from r);rfl
 |ty n=>cases (r);rfl
section
variable {P:Program}{w:World}{H H':Hp}{h h':Heap}{a C dx:Addr}{fs fs':List (Str×V)}
theorem pD(hok:HOk P w H h)(e:H a=some (.ins C dx fs)):∃mA,ObjM h a dx C mA/\(∀f,RelO (fs.lookup f) (mA f))/\PySem.Within mA (fs.map (·.1))/\fs.length<=1000/\H dx=some (.own a):=by obtain⟨d,z,ne,ob,mA,n,r,q⟩:=(hok a _ e);exact⟨mA,⟨ob,n,ne⟩,r,q,z,d⟩
end
structure Cls (K:Fg0) (C:Addr):Prop where
 pg:PySem.W.plainGet K C Str.empty=true
 hd:PySem.W.hasDictIn K C=true
 po:PySem.W.plainOver K C=true
 sa:PySem.W.findIn K (.ref C) "__setattr__"=some (some (.builtin "object.__setattr__"))
theorem Cls.get{K:Fg0}{C:Addr}(c:Cls K C)(f:Str):PySem.W.plainGet K C f=true:=c.pg
def NoAttr(K:Fg0)(C:Addr)(f:Str):Prop:=PySem.W.findIn K (.ref C) f=some none
theorem NoAttr.taker{K:Fg0}(n:NoAttr K C f):PySem.W.takerIn K C f=some none:=by unfold PySem.W.takerIn;rw[n];rfl
structure Con (K:Fg0) (C:Addr) (f:Str) (v:V) (u:Value):Prop where
 at_:PySem.W.findIn K (.ref C) f=some (some u)
 rel:RelV v u
 get:PySem.W.specialIn K u "__get__"=some none
 cp:PySem.W.copiedNames.contains f=false
structure Meth (K:Fg0) (C:Addr) (m:Str) (f:Addr):Prop where
 at_:PySem.W.findIn K (.ref C) m=some (some (.ref f))
 fn:PySem.W.isFn K (.ref f)=true
 kp:PySem.W.keepIn K (.ref f)=true
section
variable {X:Cx}{pins:List (Addr×Obj)}{σ:St}{H:Hp}{s:Shared}{a C dx:Addr}{fs:List (Str×V)}{f:Str}{v:V}{A:Around}{E:Value->Shared->Prop}
theorem tJ{b:Bool}{Q:Value->Shared->Prop}(I:Inv X pins σ H s)(e:H a=some (.ins C dx fs))(c:Cls X.K C)(n:NoAttr X.K C f)(l:fs.lookup f=some v)
  (h:∀u s',Inv X pins σ H s'->RelV v u->Q u s'):wpAny (model X.prog X.w) A (getAttr (.ref a) f b) Q E s:=by
 obtain⟨mA,O,r,_,_,_⟩:=pD I.hok e
 obtain⟨u,hu,ru⟩:=RelO.some_of (v:=v) (o:=mA f) (by grind)
 exact Dw I.kIn O (c.get f) c.hd n hu (vW ru) (h u _ (I.tok _) ru)
theorem ly{m:Str}{g:Addr}{pl:Sem Bool}{Q:Value×List Value->Shared->Prop}(I:Inv X pins σ H s)(e:H a=some (.ins C dx fs))(c:Cls X.K C)(k:Meth X.K C m g)(l:fs.lookup m=none)
  (h:Q (.ref g,[.ref a]) s):wpAny (model X.prog X.w) A (getMethod (.ref a) m pl) Q E s:=by
 obtain⟨mA,O,r,_,_,_⟩:=pD I.hok e
 have hn:mA m=none:=RelO.none_of (by grind)
 exact Bz I.kIn O (c.get m) k.at_ k.fn hn h
theorem se{y:V}{u:Value}{Q:Unit->Shared->Prop}(I:Inv X pins σ H s)(e:H a=some (.ins C dx fs))(c:Cls X.K C)(n:NoAttr X.K C f)(hl:fs.length<1000)(ry:RelV y u)
  (h:∀s',Inv X pins σ (aW H a (.ins C dx (gg f y fs))) s'->Q () s'):wpAny (model X.prog X.w) A (setAttr (.ref a) f u) Q E s:=by
 obtain⟨mA,O,r,wi,_,ho⟩:=pD I.hok e
 have hz:(fs.map (·.1)).length<=sizeLine:=by rw[zo,Zj];lia
 refine BV I.kIn O c.sa c.po n.taker c.hd wi hz λh' O' sb=>h _ ?_
 have hd:∃o,h'.get? dx=some o:=let ⟨o,_,_,e',_⟩:=O'.ns;⟨o,e'⟩
 refine I.write (x:=a) (e:=dx) (by rw[e];exact True.intro) (.inr ho) (λb q hb z=>(sb.2 b hb).trans z) hd ?_
 refine⟨by rw[a6 O.ne];exact ho,?_,O.ne,O'.obj,_,O'.ns,λg=>?_,λg hg=>?_⟩
 ·have:=jU f y fs;lia
 ·rw[jR]
  by_cases q:g=f
  ·rw[zF q,zF q];exact ry
  ·rw[zM q,zM q];exact r g
 ·by_cases q:g=f
  ·rw[q];exact(jx f y fs).1
  ·refine(jx f y fs).2 g (wi g λz=>hg ?_)
   show(if g=f then some u else mA g)=none
   rw[zM q];exact z
theorem Inv.made (I:Inv X pins σ H s):Inv X pins σ (aW (aW H s.heap.objs.size (.own (s.heap.objs.size+1))) (s.heap.objs.size+1) (.ins C s.heap.objs.size []))
    { s with heap:=(s.heap.push PySem.W.emptyDict).push (PySem.W.instObj C s.heap.objs.size) }:=by
  have e1:(s.heap.push PySem.W.emptyDict).get? s.heap.objs.size=some PySem.W.emptyDict:=zG s.heap rfl
  have e2:((s.heap.push PySem.W.emptyDict).push (PySem.W.instObj C s.heap.objs.size)).get? (s.heap.objs.size+1)=some (PySem.W.instObj C s.heap.objs.size):=by
    have:=zG (s.heap.push PySem.W.emptyDict) (o:=PySem.W.instObj C s.heap.objs.size) rfl
    rwa [ZW] at this
  have e3:(s.heap.push PySem.W.emptyDict).Ns s.heap.objs.size (fun _=>none):=⟨PySem.W.emptyDict,#[],_,e1,rfl,(fun e he=>absurd he ZzS),fun _=>rfl⟩
  have I1:=I.laid (a:=s.heap.objs.size) (o:=.own (s.heap.objs.size+1)) (h':=s.heap.push PySem.W.emptyDict) (t':=s.toks) (fun b u q=>hps0 _ q) (zD _) ⟨_,e1⟩
  refine I1.laid (a:=s.heap.objs.size+1) (o:=.ins C s.heap.objs.size []) (t':=s.toks) (fun b u q=>hps0 _ q) (Nat.le_of_eq (ZW _ _)) ?_
  have ne:s.heap.objs.size≠s.heap.objs.size+1:=zU (zzt _)
  refine ⟨by rw [a6 ne,aE],ZQ _,ne,e2,fun _=>none,(Heap.Ns1.of_empty e3).at fun o q=>hps0 _ q,fun _=>True.intro,fun y hy=>absurd rfl hy⟩

theorem Dv(hb:attributeBase e f env (eval e env)=eval e env)
  (h:wpAny (model prog w) A (eval e env) (λo s₁=>wpAny (model prog w) A (getAttr o f true) Q E s₁) E s):wpAny (model prog w) A (eval (.Attribute e f pos) env) Q E s :=
 Attribute_any_ h (by rw[arm_eval_Attribute,hb])
end
def Nx(K:Fg0)(ta:TE)(f:Str):TE:=λσ H Q=>ta σ H λx H1=>∃a C dx fs v,x=.ref a/\H1 a=some (.ins C dx fs)/\Cls K C/\NoAttr K C f/\fs.lookup f=some v/\Q v H1
def Nt(K:Fg0)(ta tv:TE)(f:Str):TS:=λD σ H=>tv σ H λy H1=>ta σ H1 λx H2=>∃a C dx fs,x=.ref a/\H2 a=some (.ins C dx fs)/\Cls K C/\NoAttr K C f/\fs.length<1000 /\
 D.nx σ (aW H2 a (.ins C dx (gg f y fs)))
section
variable {X:Cx}{o e value:Expr}{f:Str}{pos pos' tpos:Pos}{ta tv:TE}
theorem F9(he:PE X e ta)(hb:attributeBase e f X.env (eval e X.env)=eval e X.env):PE X (.Attribute e f pos) (Nx X.K ta f):=by intro pins s σ H Q I h;refine Dv hb (aU (he pins s σ H _ I h) λu s1 zq=>?_);obtain⟨x,H1,I1,rx,a,C,dx,fs,v,ex,ea,c,n,l,q⟩:=zq;subst ex;obtain rfl:u=Value.ref a:=rx;exact tJ I1 ea c n l λu' s2 I2 ru=>⟨v,H1,I2,ru,q⟩
theorem AE(ha:PE X o ta)(hv:PE X value tv)(hs:swapsWith value (some (.Attribute o f pos')) pos.line X.env=pure false):PS X (.Assign [.Attribute o f pos'] value pos) (Nt X.K ta tv f):=by intro pins s σ H D I h;refine plainObj_wpAny_Assign_Attribute (aU (hv pins s σ H _ I h) λu s1 ⟨y,H1,I1,ry,q⟩=>aU (ha pins s1 σ H1 _ I1 q) λov s2 zq=>?_) hs;obtain⟨x,H2,I2,rx,a,C,dx,fs,ex,ea,c,n,l,q2⟩:=zq;subst ex;obtain rfl:ov=Value.ref a:=rx;exact se I2 ea c n l ry λs3 I3=>⟨σ,_,I3,q2⟩
end
section
variable {X:Cx}{pins:List (Addr×Obj)}{σ:St}{H:Hp}{s:Shared}{A:Around}{E:Value->Shared->Prop}{Q:Value->Shared->Prop}{c:Value}{b:Bool}
inductive TyOf (K:Fg0) (H:Hp):V->Value->Prop where
 |non:TyOf K H .non (.type "NoneType")
 |bl (x:Bool):TyOf K H (.bl x) (.type "bool")
 |int (i:Int):TyOf K H (.int i) (.type "int")
 |str (x:Str):TyOf K H (.str x) (.type "str")
 |flt (x:UInt64):TyOf K H (.flt x) (.type "float")
 |lst {a:Addr}{xs:List V} (e:H a=some (.lst xs)):TyOf K H (.ref a) (.type "list")
 |frz {a:Addr}{o:Obj}{xs:List V} (e:H a=some (.frz o (.lst xs))):TyOf K H (.ref a) (.type "list")
 |tup {a:Addr}{xs:List V} (e:H a=some (.tup xs)):TyOf K H (.ref a) (.type "tuple")
 |dK {a:Addr}{kvs:List (bT×V)} (e:H a=some (.dK kvs)):TyOf K H (.ref a) (.type "dict")
 |dT {a:Addr}{kvs:List (List bT×V)} (e:H a=some (.dT kvs)):TyOf K H (.ref a) (.type "dict")
 |ins {a C dx:Addr}{fs:List (Str×V)} (e:H a=some (.ins C dx fs)) (cl:Cls K C) (ha:PySem.W.findIn K (.ref C) "__class__"=some (some (.builtin "object.__class__")))
  (hn:PySem.W.specialIn K (.builtin "object.__class__") "__get__"=some (some (.builtin "getset_descriptor.__get__"))) (htk:PySem.W.takesIn K (.builtin "object.__class__")=some true)
  (hm:PySem.W.mroIn K C (.type "object")=some true):TyOf K H (.ref a) (.ref C)
end
structure Room (k:Nat) (A:Around):Prop where
 hd:A.handled=none
 dp:A.depth+3*k+5<recursionLimit
 un:A.units+16*k+200<cLine
theorem Room.mono(r:Room k A)(h:j<=k):Room j A:=⟨r.hd,by have:=r.dp;lia,by have:=r.un;lia⟩
theorem Room.deeper(r:Room (k+1) A)(env):Room k (A.deeper env) :=
 ⟨r.hd,by have:=r.dp;show A.depth+1+3*k+5<_;lia,by have:=r.un;show A.units+3+16*k+200<_;lia⟩
theorem sd{A:Around}:(A.under (.builtin "type.__call__" ⟨.ref C::us,kw⟩)).depth=A.depth+1:=rfl
theorem rV{A:Around}:(A.under (.builtin "type.__call__" ⟨.ref C::us,kw⟩)).units=A.units+1:=rfl
theorem Room.make(r:Room (k+1) A)(C)(us)(kw):Room k (A.under (.builtin "type.__call__" ⟨.ref C::us,kw⟩)) :=
 ⟨r.hd,by have:=r.dp;rw[sd];lia,by have:=r.un;rw[rV];lia⟩
theorem Room.depth(r:Room k A):A.depth<recursionLimit:=by have:=r.dp;lia
theorem Room.units(r:Room k A):A.units+64<cLine:=by have:=r.un;lia
def Hz:TA:=λ_ H Q=>Q [] H
def EI(ta:TE)(tr:TA):TA:=λσ H Q=>ta σ H λx H1=>tr σ H1 λxs H2=>Q (x::xs) H2
section
variable {X:Cx}{e:Expr}{es:List Expr}{te:TE}{t:TA}{pos:Pos}
theorem pa_nil:PA X [] Hz:=λ_ _ _ _ H Q I h=>Calls.spliced_nil ⟨[],H,I,.nil,h⟩
theorem aN(ha:PE X e te)(hr:PA X es t)(hs:starEach (e::es) X.env=(false,eval e X.env)::starEach es X.env:=by rfl):PA X (e::es) (EI te t):=by intro pos pins s σ H Q I h;rw[hs];refine zzZ (aU (ha pins s σ H _ I h) λu s1 zq=>?_);obtain⟨x,H1,I1,r1,q1⟩:=zq;exact aU (hr pos pins s1 σ H1 _ I1 q1) λus s2 zq=>by obtain⟨xs,H2,I2,r2,q2⟩:=zq;exact⟨x::xs,H2,I2,.cons r1 r2,q2⟩
def MA(t:TA):TE:=λσ H Q=>t σ H λxs H1=>xs.length<=sizeLine/\∀p,H1 p=none->Q (.ref p) (aW H1 p (.tup xs))
def Nu(t:TA):TE:=λσ H Q=>t σ H λxs H1=>xs.length<=sizeLine/\∀p,H1 p=none->Q (.ref p) (aW H1 p (.lst xs))
theorem F4(h:PA X es t):PE X (.Tuple es x1 pos) (MA t):=by intro pins s σ H Q I hq;refine wpAny_Tuple_spliced (aU (h pos pins s σ H _ I hq) λus s1 ⟨xs,H1,I1,r,z,q⟩=>⟨by rw[<- r.length];lia,?_⟩);have hf :=I1.hok.fresh (zD _);refine⟨.ref s1.heap.objs.size,aW H1 s1.heap.objs.size (.tup xs),I1.laid  (λb u e=>hps0 _ e) (zD _) ?_,rfl,q _ hf⟩;exact⟨z,us,r,⟨_,zG _ rfl,rfl,_,rfl⟩⟩
theorem oA(h:PA X es t):PE X (.List es pos) (Nu t):=by intro pins s σ H Q I hq;refine wpAny_List_spliced (aU (h pos pins s σ H _ I hq) λus s1 ⟨xs,H1,I1,r,z,q⟩=>⟨by rw[<- r.length];lia,?_⟩);have hf :=I1.hok.fresh (zD _);refine⟨.ref s1.heap.objs.size,aW H1 s1.heap.objs.size (.lst xs),I1.laid  (λb u e=>hps0 _ e) (zD _) ?_,rfl,q _ hf⟩;exact⟨z,us,0,r,zG _ rfl⟩
end
abbrev Sp:=List V->Hp->VK->XK->Prop
abbrev B6:=List Env->Hp->Shared->XK->Value->Shared->Prop
structure Env0 (P:Program) (w:World) (K:Fg0) (mg:Str->Option Value) (base:Heap) (A:Around) (outer:List Env) (s:Shared) (H:Hp):Prop where
 frames:A.frames=some outer
 mod:Mod K mg base
 bs:∀b o,base.get? b=some o->s.heap.get? b=some o/\H b=none
 bsz:base.objs.size<=s.heap.objs.size
 funs:s.heap.FunFrames base outer
 frf:∀b∈fU outer,H b=none
 hok:HOk P w H s.heap
 bare:AllBare s.gens
def CE(outer:List Env)(P:Program)(w:World)(H:Hp)(s:Shared)(Q:VK)(u:Value)(s':Shared):Prop :=
 ∃v H',s'.os=s.os/\AllBare s'.gens/\Un (fU outer) [] H H' s.heap s'.heap/\HOk P w H' s'.heap/\RelV v u/\Q v H'
def CR(CX:B6)(outer:List Env)(P:Program)(w:World)(H:Hp)(s:Shared)(Q:VK)(E:XK)(r:Result)(s':Shared):Prop :=
 match r with
 |.ok (.ret u)=>CE outer P w H s Q u s'
 |.ok _=>False
 |.error e=>CX outer H s E e s'
structure FnOk (P:Program) (w:World) (K:Fg0) (mg:Str->Option Value) (base:Heap) (CX:B6) (k:Nat) (f:Addr) (fd:FuncData) (ps:List Str) (sp:Sp):Prop where
 len:∀vs H Q E,sp vs H Q E->vs.length=ps.length
 run:∀(A:Around) (outer:List Env) (s:Shared) (H:Hp) (args:Args) (us:List Value) (vs:List V) (Q:VK) (E:XK),Room k A->Env0 P w K mg base A outer s H->BindsTo s fd args (ps.zip us)->Vals vs us->sp vs H Q E ->
  codeAny (model P w) A (.call (.ref f) args) (CR CX outer P w H s Q E) s
theorem FnOk.imp{K:Fg0}(F:FnOk P w K mg base CX k f fd ps sp)
  (h:∀vs H Q E,sp' vs H Q E->sp vs H Q E):FnOk P w K mg base CX k f fd ps sp' :=
 ⟨λvs H Q E q=>F.len vs H Q E (h _ _ _ _ q),λA outer s H args us vs Q E hr he hb hv hs=>F.run A outer s H args us vs Q E hr he hb hv (h _ _ _ _ hs)⟩
theorem Env0.make{K:Fg0}(e:Env0 P w K mg base A outer s H)(C)(us:List Value)(kw:List (Str×Value)) :
 Env0 P w K mg base (A.under (.builtin "type.__call__" ⟨.ref C::us,kw⟩)) outer s H:=⟨by first|exact e.frames|rfl,e.mod,e.bs,e.bsz,e.funs,e.frf,e.hok,e.bare⟩
section
variable {X:Cx}{pins:List (Addr×Obj)}{σ:St}{H:Hp}{s s':Shared}
theorem Inv.env0(I:Inv X pins σ H s):Env0 X.prog X.w X.K X.mg X.base X.A X.stack s H :=
 ⟨I.ok.frames,I.ok.mod,I.bs,zf I.ok.bsz I.sz,I.stack,I.stkFree,I.hok,I.bare⟩
theorem Inv.after(I:Inv X pins σ H s)(h:CE X.stack X.prog X.w H s Q u s'):EP X pins σ Q u s':=by obtain⟨v,H',os,bare,un,hok,r,q⟩:=h;obtain⟨hh,g,d,t,os'⟩:=s';obtain rfl:os'=s.os:=os;exact⟨v,H',I.call (h':=hh) (g':=g) (d':=d) (t':=t) (ch:=[]) un hok bare (λb z=>absurd z ZzS),r,q⟩
end
def J8(sp:Sp)(dvs:List V)(E:XK)(t:TA):TE:=λσ H Q=>t σ H λvs H1=>sp (vs++dvs) H1 Q E
def y6(C:Addr)(m:Str)(sp:Sp)(dvs:List V)(E:XK)(ta:TE)(t:TA):TE:=λσ H Q=>ta σ H λx H1=>∃a dx fs,x=.ref a/\H1 a=some (.ins C dx fs)/\fs.lookup m=none /\
 t σ H1 λvs H2=>sp (x::(vs++dvs)) H2 Q E
def Lu(C:Addr)(sp:Sp)(dvs:List V)(E:XK)(t:TA):TE:=λσ H Q=>t σ H λvs H1=>∀x dx,H1 x=none->H1 dx=none->dx≠x ->
 sp (.ref x::(vs++dvs)) (aW (aW H1 dx (.own x)) x (.ins C dx [])) (λv H2=>v=.non/\Q (.ref x) H2) E
def Binds(K:Fg0)(fd:FuncData)(ps:List Str)(ds:List Value):Prop :=
 ∀(s:Shared) (us:List Value),K.In s.heap->(us++ds).length=ps.length->BindsTo s fd ⟨us,[]⟩ (ps.zip (us++ds))
theorem Binds.all{K:Fg0}(h:∀us,us.length=ps.length->bindArgs fd ⟨us,[]⟩=pure (ps.zip us)):Binds K fd ps []:=λs us _ hl=>by rw[Zf]at hl ⊢;exact .of_eq (h us hl)
def iB(CX:B6)(X:Cx)(E:XK):Prop:=∀(pins:List (Addr×Obj)) (σ:St) (H:Hp) (s:Shared) (e:Value) (s':Shared),Inv X pins σ H s->CX X.stack H s E e s'->X.xe e s'
section
variable {X:Cx}{CX:B6}{k:Nat}{f C:Addr}{fd:FuncData}{ps:List Str}{sp:Sp}{dvs:List V}{ds:List Value}{E:XK}{x m:Str}{p pos apos:Pos}{e o:Expr}{es:List Expr}{ta:TE}{t:TA}
theorem sE{pins:List (Addr×Obj)}{σ:St}{H:Hp}{s:Shared}{Q:VK}{us:List Value}{vs:List V}(F:FnOk X.prog X.w X.K X.mg X.base CX k f fd ps sp)(hr:Room k X.A)(hb:Binds X.K fd ps ds)(hd:Vals dvs ds)(hx:iB CX X E)
  (I:Inv X pins σ H s) (r:Vals vs us) (h:sp (vs++dvs) H Q E):wpAny (model X.prog X.w) X.A (call (.ref f) us) (EP X pins σ Q) X.xe s:=by
 have r2:Vals (vs++dvs) (us++ds):=r.append hd
 have hl:(us++ds).length=ps.length:=by rw[<- r2.length];exact F.len _ _ _ _ h
 refine wpAny_call (zzw (F.run X.A X.stack s H ⟨us,[]⟩ (us++ds) (vs++dvs) Q E hr I.env0 (hb s us I.kIn hl) r2 h) λr s' hq=>?_)
 cases r with
 |error e=>exact hx pins σ H s e s' I hq
 |ok fl =>
  cases fl with
  |ret u=>exact I.after hq
  |next=>exact False.elim hq
  |brk=>exact False.elim hq
  |cont=>exact False.elim hq
theorem C3(F:FnOk X.prog X.w X.K X.mg X.base CX k f fd ps sp)(hr:Room k X.A)(hg:Gl X x)(hm:X.mg x=some (.ref f))(hk:PySem.W.keepIn X.K (.ref f)=true)(hb:Binds X.K fd ps ds)(hd:Vals dvs ds)(hx:iB CX X E)
  (ha:PA X (e::es) t) (hdb:(x==("__debug__"))=false:=by rfl) (he:starEach (e::es) X.env=(false,eval e X.env)::starEach es X.env:=by rfl) (hpl:(backTo pos (starEach es X.env)).any (·.1)=false:=by rfl) :
  PE X (.Call (.Name x p) (e::es) [] pos) (J8 sp dvs E t):=by
 intro pins s σ H Q I h
 exact Z6 (fI I hg hm (PySem.W.callWith_K  I.ok.mod.kin hk (aU (ha pos pins s σ H _ I h) λus s1 ⟨vs,H1,I1,r,q⟩=>⟨I1.kIn,(sE F hr hb hd hx I1 r q)⟩) he hpl) hdb)
theorem DC{pl:Sem Bool}(he:PE X o ta)(c:Cls X.K C)(hm:Meth X.K C m f)(F:FnOk X.prog X.w X.K X.mg X.base CX k f fd ps sp)(hr:Room k X.A)(hb:Binds X.K fd ps ds)(hd:Vals dvs ds)(hx:iB CX X E)(ha:PA X (e::es) t)
  (hst:starEach (e::es) X.env=(false,eval e X.env)::starEach es X.env:=by rfl) (hpl:(backTo pos (starEach es X.env)).any (·.1)=false:=by rfl)
  (ht:eval (.Call (.Attribute o m apos) (e::es) [] pos) X.env=(do
   let ov <- eval o X.env
   standAt apos.atName
   let (f,first) <- holding [ov] (getMethod ov m pl)
   callWith pos f first (backTo pos (starEach (e::es) X.env)) (backToKw pos (keywordEach [] X.env))):=by rfl) :
  PE X (.Call (.Attribute o m apos) (e::es) [] pos) (y6 C m sp dvs E ta t):=by
 intro pins s σ H Q I h
 refine PySem.W.methodCall_KW (pl:=pl) (aU (he pins s σ H _ I h) λu s1 zq=>?_) ht
 obtain⟨x,H1,I1,rx,a,dx,fs,ex,ea,l,q⟩:=zq
 subst ex
 obtain rfl:u=Value.ref a:=rx
 refine ly I1 ea c hm l ?_
 refine PySem.W.callWith_K (first:=[.ref a]) (h₀:=X.base) I.ok.mod.kin hm.kp (aU (ha pos pins s1 σ H1 _ I1 q) λus s2 ⟨vs,H2,I2,r,q2⟩=>⟨I2.kIn,?_⟩) hst hpl
 exact sE (us:=.ref a::us) (vs:=.ref a::vs) F hr hb hd hx I2 (.cons rfl r) q2
theorem yz{pl:Sem Bool}(he:PE X o ta)(c:Cls X.K C)(hm:Meth X.K C m f)(F:FnOk X.prog X.w X.K X.mg X.base CX k f fd ps sp)(hr:Room k X.A)(hb:Binds X.K fd ps ds)(hd:Vals dvs ds)(hx:iB CX X E)
  (ht:eval (.Call (.Attribute o m apos) [] [] pos) X.env=(do
   let ov <- eval o X.env
   standAt apos.atName
   let (f,first) <- holding [ov] (getMethod ov m pl)
   callWith pos f first (backTo pos (starEach [] X.env)) (backToKw pos (keywordEach [] X.env))):=by rfl) :
  PE X (.Call (.Attribute o m apos) [] [] pos) (y6 C m sp dvs E ta Hz):=by
 intro pins s σ H Q I h
 refine PySem.W.methodCall_KW (pl:=pl) (aU (he pins s σ H _ I h) λu s1 zq=>?_) ht
 obtain⟨x,H1,I1,rx,a,dx,fs,ex,ea,l,q⟩:=zq
 subst ex
 obtain rfl:u=Value.ref a:=rx
 refine ly I1 ea c hm l ?_
 exact PySem.W.callWith_K0 (first:=[.ref a]) I1.kIn hm.kp (sE (us:=[.ref a]) (vs:=[.ref a]) F hr hb hd hx I1 (.cons rfl .nil) q)
structure Mk (K:Fg0) (C f:Addr):Prop where
 makes:PySem.W.makesIn K C=true
 init:PySem.W.findIn K (.ref C) "__init__"=some (some (.ref f))
 fn:PySem.W.isFn K (.ref f)=true
 kp:PySem.W.keepIn K (.ref C)=true
theorem A8{σ:St}{H:Hp}{s:Shared}{Q:VK}{us:List Value}{vs:List V}(M:Mk X.K C f)(F:FnOk X.prog X.w X.K X.mg X.base CX k f fd ps sp)(hr:Room (k+1) X.A)(hb:Binds X.K fd ps ds)(hd:Vals dvs ds)
  (hx:iB CX X E) (I:Inv X pins σ H s) (r:Vals vs us)
  (h:∀x dx,H x=none->H dx=none->dx≠x->sp (.ref x::(vs++dvs)) (aW (aW H dx (.own x)) x (.ins C dx [])) (λv H2=>v=.non/\Q (.ref x) H2) E) :
  wpAny (model X.prog X.w) X.A (call (.ref C) us) (EP X pins σ Q) X.xe s:=by
 have hq:=h (s.heap.objs.size+1) s.heap.objs.size (I.hok.fresh (ZK _)) (I.hok.fresh (zD _)) (zU (zzt _))
 have I2:=Inv.made (C:=C) I
 have r2:Vals (V.ref (s.heap.objs.size+1)::(vs++dvs)) (Value.ref (s.heap.objs.size+1)::(us++ds)):=.cons rfl (r.append hd)
 have hl :=by have e:=r2.length;rw[F.len _ _ _ _ hq]at e;exact e.symm
 refine wpAny_call (Ac (f:=f) I.kIn M.makes M.init (beq_iff_eq.mp M.fn) (zzw (F.run _ X.stack _ _ ⟨Value.ref (s.heap.objs.size+1)::us,[]⟩ (Value.ref (s.heap.objs.size+1)::(us++ds)) _ _ E (hr.make C us [])
  (I2.env0.make C us []) (hb _ (Value.ref (s.heap.objs.size+1)::us) I2.kIn hl) r2 hq) λr s' hq'=>?_))
 cases r with
 |error e=>exact hx pins σ _ _ e s' I2 hq'
 |ok fl =>
  cases fl with
  |ret u =>
   obtain⟨v,H',I3,rv,ev,q3⟩:=I2.after hq'
   subst ev
   exact⟨rv,⟨V.ref (s.heap.objs.size+1),H',I3,rfl,q3⟩⟩
  |next=>exact False.elim hq'
  |brk=>exact False.elim hq'
  |cont=>exact False.elim hq'
theorem D9(M:Mk X.K C f)(F:FnOk X.prog X.w X.K X.mg X.base CX k f fd ps sp)(hr:Room (k+1) X.A)(hg:Gl X x)(hm:X.mg x=some (.ref C))(hb:Binds X.K fd ps ds)(hd:Vals dvs ds)(hx:iB CX X E)
  (ha:PA X (e::es) t) (hdb:(x==("__debug__"))=false:=by rfl) (he:starEach (e::es) X.env=(false,eval e X.env)::starEach es X.env:=by rfl) (hpl:(backTo pos (starEach es X.env)).any (·.1)=false:=by rfl) :
  PE X (.Call (.Name x p) (e::es) [] pos) (Lu C sp dvs E t):=by
 intro pins s σ H Q I h
 exact Z6 (fI I hg hm (PySem.W.callWith_K  I.ok.mod.kin M.kp (aU (ha pos pins s σ H _ I h) λus s1 ⟨vs,H1,I1,r,q⟩=>⟨I1.kIn,(A8 M F hr hb hd hx I1 r q)⟩) he hpl) hdb)
end
def PK(X:Cx)(kws:List Keyword)(t:TA):Prop :=
 ∀(pos:Pos) (pins:List (Addr×Obj)) (s:Shared) (σ:St) (H:Hp) (Q:List V->Hp->Prop),Inv X pins σ H s->t σ H Q->wpAny (model X.prog X.w) X.A (evalAll ((backToKw pos (keywordEach kws X.env)).map (·.2))) (AP X pins σ Q) X.xe s
section
variable {X:Cx}{CX:B6}{k:Nat}{f C:Addr}{fd:FuncData}{ps ks:List Str}{sp:Sp}{E:XK}{x m:Str}{p pos apos kpos:Pos}{e o:Expr}{es:List Expr}{kws:List Keyword}{te ta:TE}{t tk:TA}{nm:Option Str}
theorem F1:PK X [] Hz:=λ_ _ _ _ H Q I h=>wpAny_evalAll_nil ⟨[],H,I,.nil,h⟩
theorem Co(ha:PE X e te)(hr:PK X kws t):PK X (⟨nm,e,kpos⟩::kws) (EI te t):=by intro pos pins s σ H Q I h;exact wpAny_evalAll_cons (zd (aU (ha pins s σ H _ I h) λu s1 ⟨x,H1,I1,r1,q1⟩=>zd (zzF (zH (aU (hr pos pins s1 σ H1 _ I1 q1) λus s2 ⟨xs,H2,I2,r2,q2⟩=>⟨x::xs,H2,I2,.cons r1 r2,q2⟩)))))
structure KBinds (K:Fg0) (fd:FuncData) (ps ks:List Str) (g:List Value->List Value->List Value) (gV:List V->List V->List V):Prop where
 to:∀(s:Shared) (us ws:List Value),K.In s.heap->(g us ws).length=ps.length->BindsTo s fd ⟨us,ks.zip ws⟩ (ps.zip (g us ws))
 rel:∀{vs:List V}{us:List Value}{zs:List V}{ws:List Value},Vals vs us->Vals zs ws->Vals (gV vs zs) (g us ws)
variable {g:List Value->List Value->List Value}{gV:List V->List V->List V}
end
structure FnScope (N P:List Str) (sc:Scope):Prop where
 kind:sc.kind=.function
 co:sc.isCoroutine=false
 gen:sc.isGenerator=false
 nd:N.Nodup
 pre:N.take P.length=P
 par:∀x∈P,sc.names.lookup x=some .local\/sc.names.lookup x=some .cell
 nofree:∀y∈sc.names,y.2≠.free
theorem n5{kindOf:Str->Option NameKind}:∀{binds:List (Str×Value)}{m:Str->Option Value},(∀v,(x,v)∉binds)->bindL kindOf binds m x=m x
 |[],_,_=>rfl
 |(n,v)::r,m,h=>by
  unfold bindL
  rw[n5 λw hw=>h w (zB _ hw)]
  split
  ·grind
  rfl
theorem mS{kindOf:Str->Option NameKind}:∀{binds:List (Str×Value)}{m:Str->Option Value},(∀v,(x,v)∉binds)->bindC kindOf binds m x=m x
 |[],_,_=>rfl
 |(n,v)::r,m,h=>by
  unfold bindC
  rw[mS λw hw=>h w (zB _ hw)]
  split
  ·rfl
  grind
theorem nE{kindOf:Str->Option NameKind}:∀{P:List Str}{vs:List Value}{i:Nat}{m:Str->Option Value},P.Nodup->P[i]?=some x->vs[i]?=some v->kindOf x=some .local ->
  bindL kindOf (P.zip vs) m x=some v
 |[],_,_,_,_,h,_,_=>by simp at h
 |_::_,[],_,_,_,_,h,_=>by simp at h
 |p::P,w::vs,0,m,nd,h1,h2,hk=>by simp at h1 h2;subst h1;subst h2;show bindL kindOf ((p,w)::P.zip vs) m p=_;unfold bindL;rw[n5 λv hv=>(ZR.mp nd).1 (List.of_mem_zip hv).1,zF hk];simp
 |p::P,w::vs,i+1,m,nd,h1,h2,hk=>by unfold bindL;exact nE (i:=i) (ZR.mp nd).2 (by simpa using h1) (by simpa using h2) hk
theorem mV{kindOf:Str->Option NameKind}:∀{P:List Str}{vs:List Value}{i:Nat}{m:Str->Option Value},P.Nodup->P[i]?=some x->vs[i]?=some v->kindOf x≠some .local ->
  bindC kindOf (P.zip vs) m x=some v
 |[],_,_,_,_,h,_,_=>by simp at h
 |_::_,[],_,_,_,_,h,_=>by simp at h
 |p::P,w::vs,0,m,nd,h1,h2,hk=>by simp at h1 h2;subst h1;subst h2;show bindC kindOf ((p,w)::P.zip vs) m p=_;unfold bindC;rw[mS λv hv=>(ZR.mp nd).1 (List.of_mem_zip hv).1,zM hk];simp
 |p::P,w::vs,i+1,m,nd,h1,h2,hk=>by unfold bindC;exact mV (i:=i) (ZR.mp nd).2 (by simpa using h1) (by simpa using h2) hk
noncomputable def start(N:List Str)(vs:List V):St:=vs.map some++List.replicate (N.length-vs.length) none
noncomputable def kH(CX:B6)(P:Program)(w:World)(K:Fg0)(mg:Str->Option Value)(base:Heap)(N:List Str)(qual:Str)(scope:Scope)(f:Addr)(cd:Value)(A:Around)(outer:List Env)(s:Shared)(H:Hp)(E:XK):Cx where
 prog:=P
 w:=w
 K:=K
 mg:=mg
 base:=base
 A:=A.deeper (envOfC qual scope s.heap.objs.size f cd)
 N:=N
 s₀:=s
 H₀:=H
 env:=envOfC qual scope s.heap.objs.size f cd
 outer:=outer
 stack:=envOfC qual scope s.heap.objs.size f cd::outer
 ex:=[]
 calm:=true
 fn:=λ_=>true
 pn:=[]
 xe:=λe s'=>wpAny (model P w) (A.deeper (envOfC qual scope s.heap.objs.size f cd)) (leaving (envOfC qual scope s.heap.objs.size f cd) e) (λ_ s''=>CX outer H s E e s'') (λe' s''=>CX outer H s E e' s'') s'
theorem qQ{sc:Scope}(h:sc.names.lookup x=some .cell):∃c,(cellsFrom n sc.names []).lookup x=some c:=by have q:=PySem.W.cellsFrom_some sc.names n [] (.inl h);exact ZG.mp q
theorem wb{K:Fg0}{qual:Str}{scope:Scope}{f:Addr}{cd:Value}{A:Around}{outer:List Env}{s s1:Shared}{H:Hp}{E:XK}{us:List Value}{vs:List V}
  (S:FnScope N ps scope) (hd:A.handled=none) (e0:Env0 P w K mg base A outer s H) (hl:vs.length=ps.length) (r:Vals vs us)
  (x:InCallC s s.heap.objs.size (bindL (envOfC qual scope s.heap.objs.size f cd).kindOf (ps.zip us) λ_=>none) (cellsFrom (s.heap.objs.size+1) scope.names []) (bindC (envOfC qual scope s.heap.objs.size f cd).kindOf (ps.zip us) λ_=>none) s1) :
  Inv (kH CX P w K mg base N qual scope f cd A outer s H E) [] (start N vs) H s1:=by
 have hpl:ps.length<=N.length:=by have:=congrArg List.length S.pre;rw[Zk]at this;lia
 obtain⟨h1,tk,rfl,hk⟩:=x.done
 have noA:∀b:Addr,b∉(kH CX P w K mg base N qual scope f cd A outer s H E).ex:=λb z=>absurd (show b∈([]:List Addr) from z) ZzS
 refine⟨⟨e0.mod,S.kind,rfl,rfl,zD _,λy z c h1 h2=>?_,λy hy=>?_,λy c _ h=>?_,λ_=>hd,Around.frames_deeper e0.frames,.inr ⟨rfl,rfl⟩,λb z=>absurd z (noA b),e0.bs,e0.bsz,λb _ _=>noA b,λb z=>absurd z (noA b),e0.funs,e0.frf⟩,
  rfl,e0.bare,Un.kept hk,⟨_,x.toInCall.ns,λi y v h1 h2 h3=>?_⟩,λy c h=>⟨_,x.cell y c h⟩,e0.hok.fresh (zD _),λy c h=>?_,λp hp=>absurd (show p∈([]:List (Addr×Obj)) from hp) ZzS,e0.hok.kept hk,?_⟩
 ·exact name_of_addr x.apart (ZY h1) (ZY h2)
 ·have hy:scope.names.lookup y=some .cell\/scope.names.lookup y=some .free:=hy
  rcases hy with hy|hy
  ·exact qQ hy
  ·exact absurd rfl (S.nofree _ (ZY hy))
 ·exact zz6 (x.above y c (ZY h))
 ·have hi:i<vs.length:=by unfold start at h2;by_cases hi:i<vs.length;exact hi;rw[zK (by simpa using hi)]at h2;rw[zz3]at h2;split at h2<;>cases h2
  have ha:vs[i]?=some v:=by
   unfold start at h2;rw[zI (by simpa using hi),zT]at h2;cases e:vs[i]? with
   |none=>rw[e]at h2;cases h2
   |some a=>rw[e]at h2;cases h2;rfl
  obtain⟨u,hu,rv⟩:=r.get ha
  have hp:ps[i]?=some y:=by rw[<- S.pre,zzU ZzL];exact h1
  have ndP:ps.Nodup:=by rw[<- S.pre];exact S.nd.sublist (List.take_sublist _ _)
  refine⟨u,rv,?_⟩
  rcases S.par y (zC hp) with k|k
  ·exact .inl ⟨k,nE ndP hp hu k⟩
  ·obtain⟨c,e⟩:=qQ (n:=s.heap.objs.size+1) k
   refine .inr ⟨.inl k,c,e,?_⟩
   have q:=x.cell y c e
   rw[mV ndP hp hu (by show scope.names.lookup y≠_;rw[k];decide)]at q
   exact q
 ·exact e0.hok.fresh (zz6 (x.above y c (ZY h)))
 ·unfold start
  show _=N.length
  rw[zA,zo,List.length_replicate]
  lia
theorem AB{K:Fg0}{k:Nat}{f:Addr}{name qual:Str}{params:Arguments}{body:List Stmt}{scope:Scope}{dV kV doc pm cdv ct oc:Value}{an od:Option Addr}
  {osl:Array (Option Value)}{N ps:List Str}{sp:Sp} (lk:K.lookup f=some ⟨oc,od,.func (PySem.W.fnOf name qual params body scope dV kV doc pm an cdv ct),osl⟩) (hcd:PySem.W.codeIn K cdv qual=true) (S:FnScope N ps scope)
  (len:∀vs H Q E,sp vs H Q E->vs.length=ps.length)
  (hbody:∀(A:Around) (outer:List Env) (s:Shared) (H:Hp) (vs:List V) (Q:VK) (E:XK),Room k (A.deeper (envOfC qual scope s.heap.objs.size f cdv))->sp vs H Q E ->
   ∃t,PSs (kH CX P w K mg base N qual scope f cdv A outer s H E) body t/\t { nx:=λ_ H'=>Q .non H',rt:=Q } (start N vs) H) :
  FnOk P w K mg base CX (k+1) f (PySem.W.fnOf name qual params body scope dV kV doc pm an cdv ct) ps sp:=by
 refine⟨len,λA outer s H args us vs Q E hr e0 hb r hsp=>?_⟩
 have hl:=len _ _ _ _ hsp
 have KX:K.In s.heap:=e0.mod.kin.keeps λb o e=>(e0.bs b o e).1
 have lim:s.heap.NoLimit:=e0.mod.nolimit.keeps λb o e=>(e0.bs b o e).1
 have hkind:∀y∈ps.zip us,scope.names.lookup y.1=some .local\/(scope.names.lookup y.1=some .cell/\((cellsFrom (s.heap.objs.size+1) scope.names []).lookup y.1).isSome=true):=λ⟨n,v⟩ hy=>by rcases S.par n (List.of_mem_zip hy).1 with q|q;exact .inl q;exact .inr ⟨q,PySem.W.cellsFrom_some _ _ _ (.inl q)⟩
 refine codeAny_call_function hr.depth (KX _ _ lk) rfl S.co S.gen rfl (PySem.W.codeRec_of KX hcd) (hb _ _ _ _ ?_)
 refine wpAny_newFunctionEnv_cells S.kind hkind λenv he s1 x=>?_
 subst he
 refine⟨lim.keeps x.toInCall.keep,codeAny_func ?_⟩
 obtain⟨t,ht,hq⟩:=hbody A outer s H vs Q E (hr.deeper _) hsp
 have I:Inv (kH CX P w K mg base N qual scope f cdv A outer s H E) [] (start N vs) H s1:=wb S hr.hd e0 hl r x
 refine ZA (ht [] s1 (start N vs) H _ I hq) (λfl s' hs=>?_) λe s' hs=>hs
 have fin:∀{σ':St}{H':Hp}{v:V}{u:Value},Inv (kH CX P w K mg base N qual scope f cdv A outer s H E) [] σ' H' s'->RelV v u->Q v H'->CE outer P w H s Q u s' :=
  λ{σ' H' v u} J rv q=>⟨v,H',J.os,J.bare,J.base,J.hok,rv,q⟩
 cases fl with
 |ret u =>
  obtain⟨v,σ',H',J,rv,q⟩:=hs
  exact fin J rv q
 |next =>
  obtain⟨σ',H',J,q⟩:=hs
  exact fin (v:=V.non) (u:=Value.none) J rfl q
 |brk =>
  obtain⟨_,_,_,q⟩:=hs
  exact False.elim q
 |cont =>
  obtain⟨_,_,_,q⟩:=hs
  exact False.elim q
section
variable {X:Cx}{x:Str}{p pos:Pos}{e:Expr}{es:List Expr}{t:TA}{id T:String}{r:List V->Hp->VK->Prop}
def Nw(r:List V->Hp->VK->Prop)(t:TA):TE:=λσ H Q=>t σ H λvs H1=>r vs H1 Q
theorem cg(hc:br X (.builtin id) r)(hg:Gl X x)(hm:X.mg x=none)(hv:bootBuiltins x=some (.builtin id))(ha:PA X (e::es) t)(hn:x≠"__name__":=by decide)(hdb:(x==("__debug__":Str))=false:=by decide)
  (he:starEach (e::es) X.env=(false,eval e X.env)::starEach es X.env:=by rfl) (hpl:(backTo pos (starEach es X.env)).any (·.1)=false:=by rfl):PE X (.Call (.Name x p) (e::es) [] pos) (Nw r t):=by
 intro pins s σ H Q I h
 refine Z6 (gC I hg hm hv ?_ hn hdb)
 exact PyProof.Rows.callWith_builtin1 (aU (ha pos pins s σ H _ I h) λus s1 ⟨vs,H1,I1,r1,q1⟩=>hc pins s1 σ H1 vs us Q I1 r1 q1) he hpl
theorem bC(hc:br X (.type T) r)(hg:Gl X x)(hm:X.mg x=none)(hv:bootBuiltins x=some (.type T))(ha:PA X (e::es) t)(hn:x≠"__name__":=by decide)(hdb:(x==("__debug__":Str))=false:=by decide)
  (he:starEach (e::es) X.env=(false,eval e X.env)::starEach es X.env:=by rfl) (hpl:(backTo pos (starEach es X.env)).any (·.1)=false:=by rfl):PE X (.Call (.Name x p) (e::es) [] pos) (Nw r t):=by
 intro pins s σ H Q I h
 refine Z6 (gC I hg hm hv ?_ hn hdb)
 exact Z2 (aU (ha pos pins s σ H _ I h) λus s1 ⟨vs,H1,I1,r1,q1⟩=>hc pins s1 σ H1 vs us Q I1 r1 q1) he hpl
end
end L2
namespace HT
open PySem PyProof.Rows
noncomputable def Jt:List Int->List Int->Bool
 |[],[]=>false
 |[],_::_=>true
 |_::_,[]=>false
 |x::xs,y::ys=>if x=y then Jt xs ys else decide (x<y)
section
open PySem.SeqAt
open PySem.AutoSeq1 (wpAny_loadPart')
open PySem.MeetsSeq PySem.MeetsSeq2 PySem.MeetsSeq3
end
section
variable {prog:Program}{w:World}{A:Around}{E:Value->Shared->Prop}{s:Shared}
theorem cat_tup(ht:IsTup s.heap t vs.toArray)(hb:IsTup s.heap b ws.toArray)(hv:vs≠[])
  (h1:ws=[]->Q (.ref t) s) (h2:ws≠[]->Q (.ref s.heap.objs.size) { s with heap:=s.heap.push { cls:=.type "tuple",data:=.seq (vs++ws).toArray } })
  (hsz:vs.length+ws.length<=sizeLine):wpAny (model prog w) A (binaryOp .Add (.ref t) (.ref b)) Q E s:=by
 obtain⟨⟨cls,dd,data,sl⟩,ho,hc,n,hd⟩:=id ht
 obtain⟨⟨cls2,dd2,data2,sl2⟩,ho2,hc2,n2,hd2⟩:=id hb
 simp only at hc hd hc2 hd2
 subst hc hd hc2 hd2
 have e:vs.toArray++ws.toArray=(vs++ws).toArray:=ZzS
 by_cases hw:ws=[]
 ·exact concat_meets ⟨_,ho,rfl⟩ ⟨_,ho2,rfl⟩ noFill_tuple_add seq_tuple_add zz7 zz4 (zzV _ _)
   (tuple_addW1 t b vs.toArray ws.toArray n n2 dd dd2 sl sl2 (by simpa using hv) (by simp[hw])) ⟨ho,ho2,h1 hw⟩
 ·refine concat_meets ⟨_,ho,rfl⟩ ⟨_,ho2,rfl⟩ noFill_tuple_add seq_tuple_add zz7 zz4 (zzV _ _)
   (tuple_addW2 t b vs.toArray ws.toArray n n2 dd dd2 sl sl2 (by simpa using hv) (by simpa using hw) (by rw[Zh,Zh];exact hsz)) ⟨ho,ho2,?_⟩
  rw[e]
  exact h2 hw
noncomputable def sIx(n d:Nat):Option Int->Nat
 |none=>d
 |some v=>if v<0 then(v+(n:Int)).toNat else min v.toNat n
theorem sIx_none(n d):sIx n d none=d:=rfl
theorem sIx_nat(n d k:Nat):sIx n d (some (k))=min k n:=rfl
theorem Gb(n d)(hd:d<=n)(o):sIx n d o<=n:=by
 cases o with
 |none=>exact hd
 |some v =>
  show(if v<0 then(v+(n)).toNat else min v.toNat n)<=n
  grind
theorem uW(v)(n d:Nat):(if v<0 then max (v+(n:Int)) 0 else min v (n:Int))=((sIx n d (some v):Nat):Int):=by
 show(if v<0 then max (v+(n)) 0 else min v (n))=(((if v<0 then(v+(n)).toNat else min v.toNat n)))
 grind
theorem sN(lo hi)(n:Nat):Builtin.Slice.sliceAdjust lo hi 1 (n:Int)=(((sIx n 0 lo:Nat):Int),((sIx n n hi:Nat):Int)):=by
 refine Prod.ext ?_ ?_;cases lo with
 |none=>rfl
 |some v=>exact uW v n 0
 cases hi with
 |none=>rfl
 |some v=>exact uW v n n
theorem rN(i j:Nat):Builtin.Slice.slicePlaces (i) (j) 1=j-i:=by
 unfold Builtin.Slice.slicePlaces
 grind
theorem lM(p:IsPart v o)(h:Q o s):wpAny (model prog w) A (Builtin.Slice.slicePartIndex v) Q E s:=by
 cases p with
 |none=>exact slicePart_none h
 |int i t=>exact slicePart_int h
theorem ju{lo hi:Option Int}{Q:Int×Int×Nat->Shared->Prop}(hs:s.heap.IsSliceOf sl vl vu .none)(pl:IsPart vl lo)(pu:IsPart vu hi)
  (h:Q (((sIx n 0 lo:Nat):Int),1,sIx n n hi-sIx n 0 lo) s):wpAny (model prog w) A (Builtin.Slice.sliceApplied (.ref sl) (pure (n:Int))) Q E s:=by
 obtain⟨os,hos,hcs,hds⟩:=id hs
 refine zd (zd (Zn hos hds (x:=vl) rfl (zd (Zn hos hds (x:=vu) rfl (zd (Zn hos hds  rfl (zH ?_)))))))
 refine zd (slicePart_none ?_)
 refine zd (lM pl (zd (lM pu (zd (zH ?_)))))
 show wpAny _ _ (match Builtin.Slice.sliceAdjust lo hi 1 (n:Int) with|(lo,hi)=>pure (lo,(1:Int),Builtin.Slice.slicePlaces lo hi 1)) _ _ s
 rw[sN lo hi n]
 show wpAny _ _ (pure (((sIx n 0 lo:Nat):Int),(1:Int),Builtin.Slice.slicePlaces ((sIx n 0 lo:Nat):Int) ((sIx n n hi:Nat):Int) 1)) _ _ s
 rw[rN]
 exact zH h
theorem yZ(xs:Array Value)(i k:Nat):((List.range k).filterMap λ(m:Nat)=>xs[((i:Int)+(m:Int)*1).toNat]?).toArray=((xs.toList.drop i).take k).toArray:=by
 have e:(λ(m:Nat)=>xs[((i:Int)+(m:Int)*1).toNat]?)=λm=>xs[i+m]?:=by funext m;have:((i:Int)+(m:Int)*1).toNat=i+m:=ZzL;rw[this]
 rw[e];have:=pick_run xs i k;rw[List.filterMap_map]at this;have e2:((λx=>xs[x]?) ∘ λx=>i+x)=λm=>xs[i+m]?:=rfl;rw[e2]at this;rw[this]
theorem getItem_tuple_cut{t sl:Addr}{lo hi:Option Int}(ht:IsTup s.heap t items)(hs:s.heap.IsSliceOf sl vl vu .none)(pl:IsPart vl lo)(pu:IsPart vu hi)
  (hw:¬ (sIx items.size 0 lo=0/\sIx items.size items.size hi=items.size))
  (h:Q (.ref s.heap.objs.size) { s with heap:=s.heap.push { cls:=.type "tuple",data:=.seq ((items.toList.drop (sIx items.size 0 lo)).take (sIx items.size items.size hi-sIx items.size 0 lo)).toArray } })
  (hsz:items.size<=sizeLine):wpAny (model prog w) A (getItem (.ref t) (.ref sl)) Q E s:=by
 have htake:sizeOk (.seq ((items.toList.drop (sIx items.size 0 lo)).take (sIx items.size items.size hi-sIx items.size 0 lo)).toArray):=by
  show((items.toList.drop (sIx items.size 0 lo)).take (sIx items.size items.size hi-sIx items.size 0 lo)).toArray.size<=sizeLine
  rw[Zh,Zk,List.length_drop,Array.length_toList]
  lia
 have hj:sIx items.size items.size hi<=items.size:=Gb _ _ (zD _) hi
 obtain⟨os,hos,hcs,hds⟩:=id hs
 have hTs:s.TypeIs (.ref sl) "slice":=⟨os,hos,hcs⟩
 unfold getItem
 try with_reducible refine Zu ?_
 first|refine zd (zH ?_)|skip
 refine zd (wpAny_sequenceKey ht.typeIs ZzD ?_)
 refine zd (Zz (name:=Str.ofString "__getitem__") ht.typeIs zzr
  (ZS zzr ht.typeIs entry_tuple_getitem ?_ (args_tuple_getitem _ _)))
 show wpAny _ _ (Builtin.Tuple.tupleItemsOf (.ref t) >>= _) _ _ s
 refine zd (tupleItemsOf_ ht ?_)
 refine zd (wpAny_typeOf hTs ?_)
 rw[zF ZzD]
 refine zd (ju hs pl pu ?_)
 have hno:¬ ((((sIx items.size 0 lo:Nat):Int)==0&&(1:Int)==1&&(sIx items.size items.size hi-sIx items.size 0 lo)==items.size)=true):=by grind
 show wpAny _ _ (if(((sIx items.size 0 lo:Nat):Int)==0&&(1:Int)==1&&(sIx items.size items.size hi-sIx items.size 0 lo)==items.size)=true then _ else _) _ _ s
 rw[zM hno,yZ]
 first
  |exact zd (m:=Builtin.Tuple.tupleExact _) (zzj (zH ⟨_,rfl,zH h⟩) htake)
  |rfl
  |rfl
  |exact zd (zd (m:=Builtin.Tuple.tupleExact _) (zzj (zH ⟨_,rfl,zH h⟩) htake))
end
end HT
namespace L2
open PySem PySem.Spec PyProof.Rows
abbrev TO:=St->Hp->(Option Int->Hp->Prop)->Prop
def PO(X:Cx)(e:Option Expr)(t:TO):Prop :=
 ∀(pins:List (Addr×Obj)) (s:Shared) (σ:St) (H:Hp) (Q:Option Int->Hp->Prop),Inv X pins σ H s->t σ H Q ->
  wpAny (model X.prog X.w) X.A (evalPart e X.env) (λu s'=>∃o H',Inv X pins σ H' s'/\IsPart u o/\Q o H') X.xe s
def DR:TO:=λ_ H Q=>Q none H
def JR(t:TE):TO:=λσ H Q=>t σ H λx H1=>∃i,x=.int i/\Q (some i) H1
section
variable {X:Cx}{e:Expr}{te:TE}{lo hi:Option Expr}{tl th:TO}{pos p2:Pos}
theorem po_none:PO X none DR:=by intro pins s σ H Q I h;exact zH ⟨none,H,I,.none,h⟩
theorem BN(h:PE X e te):PO X (some e) (JR te):=by intro pins s σ H Q I hw;refine aU (h pins s σ H _ I hw) λu s1 zq=>?_;obtain⟨x,H1,I1,r1,q1⟩:=zq;obtain⟨i,rfl,q⟩:=q1;obtain⟨t,rfl⟩:=r1;exact⟨some i,H1,I1,.int i t,q⟩
def Mr(X:Cx)(r:V->Option Int->Option Int->Hp->VK->Prop):Prop :=
 ∀(pins:List (Addr×Obj)) (s:Shared) (σ:St) (H:Hp) (x:V) (v vl vu:Value) (lo hi:Option Int) (sl:Addr) (Q:VK),Inv X pins σ H s->RelV x v->s.heap.IsSliceOf sl vl vu .none->IsPart vl lo->IsPart vu hi->r x lo hi H Q ->
  ∃T id,typeLookup (.type T) "__getitem__"=pure (some (.builtin id))/\s.TypeIs v T/\wpAny (model X.prog X.w) X.A (getItem v (.ref sl)) (EP X pins σ Q) X.xe s
def Px(r:V->Option Int->Option Int->Hp->VK->Prop)(te:TE)(tl th:TO):TE:=λσ H Q=>te σ H λx H1=>tl σ H1 λl H2=>th σ H2 λu H3=>r x l u H3 Q
theorem yK(hr:Mr X r)(he:PE X e te)(hl:PO X lo tl)(hu:PO X hi th):PE X (.Subscript e (.Slice lo hi none p2) pos) (Px r te tl th):=by intro pins s σ H Q I h;refine Subscript_ (aU (he pins s σ H _ I h) λv s1 zq=>?_);obtain⟨x,H1,I1,r1,q1⟩:=zq;refine wpAny_Slice (aU (hl pins s1 σ H1 _ I1 q1) λvl s2 ⟨l,H2,I2,pl,q2⟩=>aU (hu pins s2 σ H2 _ I2 q2) λvu s3 zq=>?_);obtain⟨u,H3,I3,pu,q3⟩:=zq;rw[evalPart_none];refine zH ?_;have I4:Inv X pins σ H3 { s3 with heap:=s3.heap.push { cls:=.type "slice",data:=.fields #[vl,vu,.none] } }:=I3.kept (t':=s3.toks) λb ob q=>hps0 _ q;obtain⟨T,id,hT,ht,hg⟩:=hr pins { s3 with heap:=s3.heap.push { cls:=.type "slice",data:=.fields #[vl,vu,.none] } } σ H3 x v vl vu l u s3.heap.objs.size Q I4 r1 (Heap.IsSliceOf.new ..) pl pu q3;show wpAny (model X.prog X.w) X.A (subscriptTail e (.Slice lo hi none p2) v (.ref s3.heap.objs.size)) (EP X pins σ Q) X.xe { s3 with heap:=s3.heap.push { cls:=.type "slice",data:=.fields #[vl,vu,.none] } };exact tail_any (ops:=[.ref s3.heap.objs.size,v]) ht hT hg (by with_unfolding_all rfl)
noncomputable def wc(xs:List V)(lo hi:Option Int):List V:=(xs.drop (HT.sIx xs.length 0 lo)).take (HT.sIx xs.length xs.length hi-HT.sIx xs.length 0 lo)
theorem jP(xs)(lo hi):(wc xs lo hi).length<=xs.length:=by
 unfold wc
 rw[Zk,List.length_drop]
 lia
def Nc(K:Fg0):V->Option Int->Option Int->Hp->VK->Prop:=λx lo hi H Q=>∃a xs,x=.ref a/\jQ K H a xs /\
 ¬ (HT.sIx xs.length 0 lo=0/\HT.sIx xs.length xs.length hi=xs.length)/\∀p,H p=none->Q (.ref p) (aW H p (.tup (wc xs lo hi)))
theorem GJ:Mr X (Nc X.K):=by
 intro pins s σ H x v vl vu lo hi sl Q I rx hs pl pu h;obtain⟨a,xs,rfl,hx,hw,q⟩:=h;cases rx;obtain⟨its,r,ht,hz⟩:=I.tuple hx;have hlen:its.toArray.size=xs.length:=by exact r.length.symm
 refine⟨"tuple",_,zzr.lookup,ht.typeIs,?_⟩;refine HT.getItem_tuple_cut ht hs pl pu (by rw[hlen];exact hw) ?_ (by simp_all);rw[hlen];refine⟨.ref s.heap.objs.size,_,I.laid   (λb ob q=>hps0 _ q) (zD _) ?_,rfl,q _ (I.hok.fresh (zD _))⟩;exact⟨zf (jP xs lo hi) hz,_,(r.drop (HT.sIx xs.length 0 lo)).take (HT.sIx xs.length xs.length hi-HT.sIx xs.length 0 lo),IsTup.new _ _⟩
def LF(K:Fg0):R2:=λx y H Q=>∃a b xs ys,x=.ref a/\y=.ref b/\jQ K H a xs/\jQ K H b ys/\xs≠[]/\xs.length+ys.length<=sizeLine /\
 (ys=[]->Q (.ref a) H)/\(ys≠[]->∀p,H p=none->Q (.ref p) (aW H p (.tup (xs++ys))))
theorem Vals.nil_iff(r:Vals xs us):us=[]↔xs=[]:=by
 cases r with
 |nil=>simp
 |cons _ _=>simp
theorem Cd:gq X (binaryOp .Add) (LF X.K):=by intro pins s σ H x y v u Q I rx ry h;obtain⟨a,b,xs,ys,rfl,rfl,ha,hb,hx,hz,q1,q2⟩:=h;cases rx;cases ry;obtain⟨its,r1,p1,_⟩:=I.tuple ha;obtain⟨its2,r2,p2,_⟩:=I.tuple hb;refine HT.cat_tup p1 p2 (λz=>hx (r1.nil_iff.mp z)) (λz=>⟨.ref a,H,I,rfl,q1 (r2.nil_iff.mp z)⟩) (λz=>(⟨.ref s.heap.objs.size,_,I.laid   (λb ob q=>hps0 _ q) (zD _) ?_,rfl,q2 (λw=>z (r2.nil_iff.mpr w)) _ (I.hok.fresh (zD _))⟩)) (by rw[<- r1.length,<- r2.length];exact hz);exact⟨by simp_all,_,r1.append r2,IsTup.new _ _⟩
end
noncomputable def ixN(n:Nat)(i:Int):Option Nat:=if 0<=i then(if i<n then some i.toNat else none) else if -(n:Int)<=i then some (i+n).toNat else none
noncomputable def atI{α:Type}(xs:List α)(i:Int):Option α:=(ixN xs.length i).bind λj=>xs[j]?
theorem tW(h:ixN n i=some j):seqIndex? i n=some j/\j<n/\-(n:Int)<=i/\i<n:=by unfold ixN at h;by_cases h0:0<=i;rw[zF h0]at h;by_cases h1:i<n;rw[zF h1]at h;have e:i.toNat=j:=zW h;exact⟨by rw[seqIndex_of h0 h1,e],ZzL,ZzL,h1⟩;simp_all;rw[zM h0]at h;by_cases h1:-(n:Int)<=i;rw[zF h1]at h;have e:(i+n).toNat=j:=zW h;exact⟨by rw[seqIndex_neg ZzL h1,e],ZzL,h1,ZzL⟩;rw[zM h1]at h;cases h
theorem og{α:Type}{xs:List α}{i:Int}{v:α}(h:atI xs i=some v):∃j,seqIndex? i xs.length=some j/\xs[j]?=some v/\j<xs.length/\-(xs.length)<=i/\i<xs.length:=by
 unfold atI at h;cases e:ixN xs.length i with
 |none=>simp_all
 |some j=>obtain⟨h1,h2,h3,h4⟩:=tW e;simp_all
theorem ko{α:Type}{xs:List α}{j:Nat}{v:α}(h:xs[j]?=some v):atI xs (j)=some v:=by
 have hj :=(ze.mp h).1;have e:ixN xs.length (j)=some j:=by unfold ixN;simp_all
 unfold atI;simp_all
theorem fj(xs)(v:α):atI (xs++[v]) (-1)=some v:=by
 have e:ixN (xs++[v]).length (-1)=some xs.length:=by
  unfold ixN
  grind
 unfold atI
 grind
def vw(b:Expr):Prop:=∀o i,subscripted b false o i=operate [o,i] (getItem o i)
def Lk(X:Cx)(r:R2):Prop :=
 ∀(value slice:Expr) (pins:List (Addr×Obj)) (s:Shared) (σ:St) (H:Hp) (x y:V) (v u:Value) (Q:VK),Inv X pins σ H s->RelV x v->RelV y u->r x y H Q ->
  subscripted slice false v u=operate [v,u] (getItem v u)->wpAny (model X.prog X.w) X.A (subscriptTail value slice v u) (EP X pins σ Q) X.xe s
def OB(X:Cx)(id:String)(r:V->List V->Hp->VK->Prop):Prop :=
 ∀(pins:List (Addr×Obj)) (s:Shared) (σ:St) (H:Hp) (x:V) (xs:List V) (v:Value) (us:List Value) (Q:VK),Inv X pins σ H s->RelV x v->Vals xs us->r x xs H Q ->
  wpAny (model X.prog X.w) X.A (call (.builtin id) (v::us)) (EP X pins σ Q) X.xe s
section
variable {X:Cx}{a b:Expr}{ta tb:TE}{pos:Pos}
theorem Ly(hr:Lk X r)(ha:PE X a ta)(hb:PE X b tb)(hs:vw b):PE X (.Subscript a b pos) (IH r ta tb):=by intro pins s σ H Q I h;exact Subscript_ (Hq ha hb I h λv u s2 x y H2 I2 rx ry q=>hr a b pins s2 σ H2 x y v u Q I2 rx ry q (hs _ _))
def N0(K:Fg0):R2:=λx y H Q=>∃p xs i v,x=.ref p/\y=.int i/\iI K H p xs/\atI xs i=some v/\Q v H
def Of(K:Fg0):R2:=λx y H Q=>∃p xs i v,x=.ref p/\y=.int i/\jQ K H p xs/\atI xs i=some v/\Q v H
def NJ:R2:=λx y H Q=>∃z i c,x=.str z/\y=.int i/\z.length<=sizeLine/\atI z.cps.toList i=some c/\Q (.str ⟨#[c]⟩) H
theorem DM:Lk X (N0 X.K):=by
 intro value slice pins s σ H x y v u Q I rx ry h hs;obtain⟨p,xs,i,z,rfl,rfl,hq,he,q⟩:=h;cases rx;obtain⟨t,rfl⟩:=ry;obtain⟨its,r,pl,hz⟩:=I.list hq;obtain⟨j,h1,h2,h3,h4,h5⟩:=og he;obtain⟨w,ew,rw'⟩:=r.get h2;have hl:=r.length;have hn:=jv;have fin:EP X pins σ Q w s:=⟨z,H,I,rw',q⟩;by_cases h0:0<=i;have hj:i.toNat=j:=by rw[seqIndex_of h0 h5]at h1;exact zW h1
 exact item_listR pl.isList h0 ZzL (by rw[hj];simpa using ew) fin hs;have hj:(i+(its.toArray.size:Int)).toNat=j:=by rw[seqIndex_neg ZzL h4]at h1;simp_all
 exact subscriptTail_builtinR (x:=w) pl.isList.typeIs slot_list_getitem.lookup
  (wpAny_getItem_list_neg (Q:=λr s'=>r=w/\EP X pins σ Q r s') pl.isList ZzL (by rw[Zh]<;>lia) ZzL (by rw[hj];simpa using ew) ⟨rfl,fin⟩) hs
theorem FL:Lk X (Of X.K):=by
 intro value slice pins s σ H x y v u Q I rx ry h hs;obtain⟨p,xs,i,z,rfl,rfl,hq,he,q⟩:=h;cases rx;obtain⟨t,rfl⟩:=ry;obtain⟨its,r,pl,hz⟩:=I.tuple hq;obtain⟨j,h1,h2,h3,h4,h5⟩:=og he;obtain⟨w,ew,rw'⟩:=r.get h2;have hl:=r.length;have hn:=jv;have fin:EP X pins σ Q w s:=⟨z,H,I,rw',q⟩
 exact subscriptTail_builtinR  pl.typeIs slot_tuple_getitem.lookup
  (getItem_tuple (j:=j)  pl ZzL ZzL (by simp_all) (by simpa using ew) ⟨rfl,fin⟩) hs
theorem G4:Lk X NJ:=by intro value slice pins s σ H x y v u Q I rx ry h hs;obtain⟨z,i,c,rfl,rfl,hz,he,q⟩:=h;obtain⟨t,rfl⟩:=rx;obtain⟨t',rfl⟩:=ry;obtain⟨j,h1,h2,h3,h4,h5⟩:=og he;have hl:z.cps.toList.length=z.length:=rfl;have hn:=jv;exact tail_any (typeIs_str s z t) slot_str_getitem.lookup (getItem_str  (by grind) (by simp_all) ⟨.str ⟨#[c]⟩,H,I.tok _,⟨_,rfl⟩,q⟩) hs
theorem sX(its:List Value)(n j)(u):Obj.mapSeq (·.setIfInBounds j u) { cls:=.type "list",data:=.seq its.toArray n }={ cls:=.type "list",data:=.seq (its.set j u).toArray n }:=by simp[Obj.mapSeq]
theorem Inv.lst{pins:List (Addr×Obj)}{σ:St}{H:Hp}{s:Shared}{p:Addr}{xs:List V}(I:Inv X pins σ H s)(h:H p=some (.lst xs)) :
  ∃(its:List Value) (n:Nat),Vals xs its/\s.heap.get? p=some { cls:=.type "list",data:=.seq its.toArray n }/\xs.length<=sizeLine:=by
 obtain⟨z,its,n,r,e⟩:=I.hok p _ h
 simp_all
theorem Inv.lstUpd{pins:List (Addr×Obj)}{σ:St}{H:Hp}{s:Shared}{p:Addr}{xs ys:List V}{its its':List Value}{n n':Nat}{f:Obj->Obj}(I:Inv X pins σ H s)(h:H p=some (.lst xs))
  (ho:s.heap.get? p=some { cls:=.type "list",data:=.seq its.toArray n }) (hf:f { cls:=.type "list",data:=.seq its.toArray n }={ cls:=.type "list",data:=.seq its'.toArray n' }) (r:Vals ys its') (hz:ys.length<=sizeLine) (t:Nat) :
  Inv X pins σ (aW H p (.lst ys)) { s with heap:=s.heap.update p f,toks:=t }:=by
 have e:(s.heap.update p f).get? p=some { cls:=.type "list",data:=.seq its'.toArray n' }:=by rw[Heap.get?_update_self f ho (by rw[hf]<;>rfl),hf]
 refine I.write (x:=p) (e:=p) (by rw[h];trivial) (.inl rfl) (λb u hb q=>(Heap.get?_update_other _ _ (zzi hb)).trans q) ⟨_,e⟩ ?_
 exact⟨hz,its',n',r,e⟩
def EE:V->V->V->Hp->(Hp->Prop)->Prop:=λo i v H Q=>∃p xs k j,o=.ref p/\i=.int k/\H p=some (.lst xs)/\ixN xs.length k=some j/\Q (aW H p (.lst (xs.set j v)))
theorem xw:IF X EE:=by
 intro pins s σ H o i v ov iv u Q I ro ri rv h
 obtain⟨p,xs,k,j,rfl,rfl,hp,hj,q⟩:=h
 cases ro
 obtain⟨t,rfl⟩:=ri
 obtain⟨its,n,r,ho,hz⟩:=I.lst hp
 obtain⟨h1,h2,h3,h4⟩:=tW hj
 have hl:=r.length
 have hn:=jv
 have I'  :=
  I.lstUpd hp ho (sX its n j u) (r.set rv j) (by rw[List.length_set];exact hz) s.toks
 by_cases h0:0<=k
 ·have hk:k.toNat=j:=by
   rw[seqIndex_of h0 h4]at h1
   exact zW h1
  exact PySem.W.ki_setAt ho h0 ZzL (by rw[Zh,<- hl];exact h4) (by rw[hk];exact⟨_,I',q⟩)
 ·have hk:(k+(its.toArray.size:Int)).toNat=j:=by
   rw[seqIndex_neg ZzL h3]at h1
   grind
  exact PySem.W.ki_setBack ho ZzL (by rw[Zh,<- hl];exact h3) ZzL (by rw[hk];exact⟨_,I',q⟩)
theorem nO(lo hi)(n):(sliceBounds lo hi none n).1=((HT.sIx n 0 lo:Nat):Int)/\(sliceBounds lo hi none n).2.1=((HT.sIx n n hi:Nat):Int)/\(sliceBounds lo hi none n).2.2=1:=by
 refine⟨?_,?_,rfl⟩;cases lo with
 |none=>simp[sliceBounds,HT.sIx]
 |some i=>simp only[sliceBounds,HT.sIx,Option.getD_none,show(1:Int)>0 by decide,if_true];by_cases h:i<0;simp only[h,if_true]<;>lia;simp only[h,if_false]<;>lia
 cases hi with
 |none=>simp[sliceBounds,HT.sIx]
 |some i=>simp only[sliceBounds,HT.sIx,Option.getD_none,show(1:Int)>0 by decide,if_true];by_cases h:i<0;simp only[h,if_true]<;>lia;simp only[h,if_false]<;>lia
theorem m5(its:List Value)(lo hi):slicePick its.toArray lo hi none=((its.drop (HT.sIx its.length 0 lo)).take (HT.sIx its.length its.length hi-HT.sIx its.length 0 lo)).toArray:=by obtain⟨h1,h2,h3⟩:=nO lo hi its.toArray.size;unfold slicePick;rw[h1,h2,h3];simp only[sliceRange_one,pick_run,Zh]<;>rfl
def Om(K:Fg0):V->Option Int->Option Int->Hp->VK->Prop:=λx lo hi H Q=>∃a xs,x=.ref a/\iI K H a xs/\∀p,H p=none->Q (.ref p) (aW H p (.lst (wc xs lo hi)))
theorem Dk:Mr X (Om X.K):=by intro pins s σ H x v vl vu lo hi sl Q I rx hs pl pu h;obtain⟨a,xs,rfl,hx,q⟩:=h;cases rx;obtain⟨its,r,ht,hz⟩:=I.list hx;have hlen:=r.length;refine⟨"list",_,slot_list_getitem.lookup,ht.isList.typeIs,(wpAny_getItem_list_slice ht.isList hs pl pu .none ZzS ?_ (by grind))⟩;rw[m5,<- hlen];refine⟨.ref s.heap.objs.size,_,I.laid   (λb ob q=>hps0 _ q) (zD _) ?_,rfl,q _ (I.hok.fresh (zD _))⟩;exact⟨zf (jP xs lo hi) hz,_,0,(r.drop (HT.sIx xs.length 0 lo)).take (HT.sIx xs.length xs.length hi-HT.sIx xs.length 0 lo),zG _ rfl⟩
noncomputable def ia:V->Bool
 |.non=>true
 |.bl _=>true
 |.int _=>true
 |.str _=>true
 |_=>false
noncomputable def B5:V->V->Bool
 |.non,.non=>true
 |.bl a,.bl b=>a==b
 |.bl a,.int b=>(if a then 1 else 0)==b
 |.int a,.bl b=>a==(if b then 1 else 0)
 |.int a,.int b=>a==b
 |.str a,.str b=>a==b
 |_,_=>false
theorem Iw(ry:RelV y u)(rx:RelV x v)(fy:ia y=true)(fx:ia x=true):SeqAt.EqAt A s u v (B5 y x):=by
 cases y with
 |non=>
  cases ry;cases x with
  |non=>cases rx;exact SeqAt.EqAt.same _
  |bl b=>cases rx;exact SeqAt.EqAt.none_bool b
  |int b=>obtain⟨t,rfl⟩:=rx;exact SeqAt.EqAt.none_int b t
  |str b=>obtain⟨t,rfl⟩:=rx;exact SeqAt.EqAt.none_str b t
  |_=>exact absurd (show false=true from fx) zR
 |bl a=>
  cases ry;cases x with
  |non=>cases rx;exact SeqAt.EqAt.bool_none a
  |bl b=>cases rx;exact SeqAt.EqAt.bool_bool a b
  |int b=>obtain⟨t,rfl⟩:=rx;exact SeqAt.EqAt.bool_int a b t
  |str b=>obtain⟨t,rfl⟩:=rx;exact SeqAt.EqAt.bool_str a b t
  |_=>exact absurd (show false=true from fx) zR
 |int a=>
  obtain⟨t',rfl⟩:=ry;cases x with
  |non=>cases rx;exact SeqAt.EqAt.int_none a t'
  |bl b=>cases rx;exact SeqAt.EqAt.int_bool a t' b
  |int b=>obtain⟨t,rfl⟩:=rx;exact SeqAt.EqAt.int_int a t' b t
  |str b=>obtain⟨t,rfl⟩:=rx;exact SeqAt.EqAt.int_str a t' b t
  |_=>exact absurd (show false=true from fx) zR
 |str a=>
  obtain⟨t',rfl⟩:=ry;cases x with
  |non=>cases rx;exact SeqAt.EqAt.str_none a t'
  |bl b=>cases rx;exact SeqAt.EqAt.str_bool a t' b
  |int b=>obtain⟨t,rfl⟩:=rx;exact SeqAt.EqAt.str_int a t' b t
  |str b=>obtain⟨t,rfl⟩:=rx;exact SeqAt.EqAt.str_str a t' b t
  |_=>exact absurd (show false=true from fx) zR
 |_=>exact absurd (show false=true from fy) zR
noncomputable def tK(x:V)(u:Value):Bool:=match u with
 |.none=>B5 .non x
 |.bool b=>B5 (.bl b) x
 |.int i _=>B5 (.int i) x
 |.str z _=>B5 (.str z) x
 |_=>false
theorem yE(r:RelV y u)(f:ia y=true):tK x u=B5 y x:=by
 cases y with
 |non=>cases r;rfl
 |bl b=>cases r;rfl
 |int i=>obtain⟨t,rfl⟩:=r;rfl
 |str z=>obtain⟨t,rfl⟩:=r;rfl
 |_=>exact absurd (f) zR
theorem iX:∀{xs:List V}{us:List Value},Vals xs us->xs.all ia=true->us.any (tK x)=xs.any λy=>B5 y x
 |_,_,.nil,_=>rfl
 |y::xs,u::us,.cons r t,f=>by rw[ZB,zE]at f;rw[zzp,zzp,yE r f.1,iX t f.2]
theorem gv(rx:RelV x v)(fx:ia x=true):∀{xs:List V}{us:List Value},Vals xs us->xs.all ia=true->∀u∈us,SeqAt.EqAt A s u v (tK x u)
 |_,_,.nil,_=>λu hu=>by grind
 |y::xs,u::us,.cons r t,f=>λu' hu=>by rw[ZB,zE]at f;rcases zS.mp hu with rfl|hu;rw[yE r f.1];exact Iw r rx f.1 fx;exact gv rx fx t f.2 u' hu
noncomputable def IJ(x:V)(xs:List V):Bool:=xs.any λy=>B5 y x
def OH(K:Fg0)(neg:Bool):R2:=λx y H Q=>∃p xs,y=.ref p/\(iI K H p xs\/jQ K H p xs)/\ia x=true/\xs.all ia=true/\Q (.bl (if neg then !IJ x xs else IJ x xs)) H
theorem xh:gq X (compareOp .In) (OH X.K false):=by intro pins s σ H x y v u Q I rx ry h;obtain⟨p,xs,rfl,hq,fx,fs,q⟩:=h;cases ry;rcases hq with hq|hq;obtain⟨its,r,pl,hz⟩:=I.list hq;refine SeqAt.in_listAt (tK x) pl.isList (λw hw=>gv rx fx r fs w (by simp_all)) ⟨.bl _,H,I,rfl,?_⟩;rw[show its.toArray.any (tK x)=its.any (tK x) by simp,iX r fs];exact q;obtain⟨its,r,pl,hz⟩:=I.tuple hq;refine SeqAt.in_tupleAt (tK x) pl (λw hw=>gv rx fx r fs w (by simpa using hw)) ⟨.bl _,H,I,rfl,?_⟩;rw[show its.toArray.any (tK x)=its.any (tK x) by simp,iX r fs];exact q
theorem oB:gq X (compareOp .NotIn) (OH X.K true):=by intro pins s σ H x y v u Q I rx ry h;obtain⟨p,xs,rfl,hq,fx,fs,q⟩:=h;cases ry;rcases hq with hq|hq;obtain⟨its,r,pl,hz⟩:=I.list hq;refine SeqAt.notIn_listAt (tK x) pl.isList (λw hw=>gv rx fx r fs w (by simp_all)) ⟨.bl _,H,I,rfl,?_⟩;rw[show its.toArray.any (tK x)=its.any (tK x) by simp,iX r fs];exact q;obtain⟨its,r,pl,hz⟩:=I.tuple hq;refine SeqAt.notIn_tupleAt (tK x) pl (λw hw=>gv rx fx r fs w (by simpa using hw)) ⟨.bl _,H,I,rfl,?_⟩;rw[show its.toArray.any (tK x)=its.any (tK x) by simp,iX r fs];exact q
theorem oj:br X (.builtin "len") (λxs H Q=>∃p ys,xs=[.ref p]/\(iI X.K H p ys\/jQ X.K H p ys)/\Q (.int ys.length) H):=by intro pins s σ H xs us Q I r h;obtain⟨p,ys,rfl,hq,q⟩:=h;obtain⟨u,rfl,rx⟩:=mJ r;cases rx;have hn:=jv;rcases hq with hq|hq;obtain⟨its,r',pl,hz⟩:=I.list hq;have hlen:=r'.length;exact Calls.call_len_list pl.isList (by simp only[Zh]<;>lia) ⟨.int ys.length,H,I.tok _,⟨s.toks+1,by rw[Zh,hlen]⟩,q⟩;obtain⟨its,r',pl,hz⟩:=I.tuple hq;have hlen:=r'.length;exact len_tuple pl (by simp only[Zh]<;>lia) ⟨.int ys.length,H,I.tok _,⟨s.toks+1,by grind⟩,q⟩
theorem nX:br X (.builtin "len") (λxs H Q=>∃z,xs=[.str z]/\z.length<=sizeLine/\Q (.int z.length) H):=by intro pins s σ H xs us Q I r h;obtain⟨z,rfl,hz,q⟩:=h;obtain⟨u,rfl,t,rfl⟩:=mJ r;have hn:=jv;exact len_str ZzL ⟨.int z.length,H,I.tok _,⟨_,rfl⟩,q⟩
theorem jh:br X (.type "list") (λxs H Q=>∃p ys,xs=[.ref p]/\(iI X.K H p ys\/jQ X.K H p ys)/\∀l,H l=none->Q (.ref l) (aW H l (.lst ys))):=by
 intro pins s σ H xs us Q I r h;obtain⟨p,ys,rfl,hq,q⟩:=h;obtain⟨u,rfl,rx⟩:=mJ r;cases rx
 have fin:∀(its:List Value),Vals ys its->ys.length<=sizeLine->∀(h':Heap) (c':Nat),(∀b o',s.heap.get? b=some o'->h'.get? b=some o') ->
   h'.get? s.heap.objs.size=some { cls:=.type "list",dict:=none,data:=.seq its.toArray c',slots:=#[] }->EP X pins σ Q (.ref s.heap.objs.size) { s with heap:=h' }:=λits r' hz h' c' kp e =>
  ⟨.ref s.heap.objs.size,_,I.laid (t':=s.toks) kp (zD _) (show ObjOk X.prog X.w _ h' _ (.lst ys) from⟨hz,its,c',r',e⟩),rfl,q _ (I.hok.fresh (zD _))⟩
 rcases hq with hq|hq;obtain⟨its,r',pl,hz⟩:=I.list hq;have hlen:=r'.length;obtain⟨o,ho,hc,n,hd⟩:=pl.isList;exact call_list_seq p (.inl rfl) ho hc hd (λh' c' kp e=>fin its r' hz h' c' kp e) (by simp only[Zh]<;>lia);obtain⟨its,r',pl,hz⟩:=I.tuple hq;have hlen:=r'.length;obtain⟨o,ho,hc,n,hd⟩:=pl;exact call_list_seq p (.inr rfl) ho hc hd (λh' c' kp e=>fin its r' hz h' c' kp e) (by simp_all)
theorem ij:br X (.type "tuple") (λxs H Q=>∃p ys,xs=[.ref p]/\((iI X.K H p ys/\∀l,H l=none->Q (.ref l) (aW H l (.tup ys)))\/(jQ X.K H p ys/\Q (.ref p) H))):=by
 intro pins s σ H xs us Q I r h;obtain⟨p,ys,rfl,h⟩:=h;obtain⟨u,rfl,rx⟩:=mJ r;cases rx;rcases h with⟨hq,q⟩|⟨hq,q⟩;obtain⟨its,r',pl,hz⟩:=I.list hq;have hlen:=r'.length;refine call_tuple_list pl.isList (λh' kp=>?_) (by simp_all);have I1 :=I.kept (t':=s.toks) kp
 have I2  :=
  I1.laid (t':=s.toks) (λb o e=>hps0 _ e) (zD _) (show ObjOk X.prog X.w _ _ _ (.tup ys) from⟨hz,its,r',IsTup.new _ _⟩)
 exact⟨.ref h'.objs.size,_,I2,rfl,q _ (I1.hok.fresh (zD _))⟩;obtain⟨its,r',pl,hz⟩:=I.tuple hq;exact call_tuple_same pl ⟨.ref p,H,I,rfl,q⟩
def Mx(K:Fg0)(T:String)(x:V)(H:Hp):Prop:=match x with
 |.str _=>T="str"
 |.int _=>T="int"
 |.ref p=>(T="list"/\∃xs,iI K H p xs)\/(T="tuple"/\∃o,K.lookup p=some o/\o.cls=.type "tuple"/\o.dict=none) \/
  (T="dict"/\((∃kvs,H p=some (.dK kvs))\/∃kvs,H p=some (.dT kvs)))\/(T="set"/\∃S n,H p=some (.set S n))
 |_=>False
theorem yg{pins:List (Addr×Obj)}{σ:St}{H:Hp}{s:Shared}{T:String}{x:V}{v:Value}(I:Inv X pins σ H s)(r:RelV x v)(ty:Mx X.K T x H) :
  s.TypeIs v T/\∀a,v=.ref a->∃ob,s.heap.get? a=some ob/\ob.dict=none:=by
 cases x with
 |str z =>
  obtain⟨t,rfl⟩:=r
  cases (show T="str" from ty)
  exact⟨typeIs_str s z t,λ_ e=>nomatch e⟩
 |int i =>
  obtain⟨t,rfl⟩:=r
  cases (show T="int" from ty)
  exact⟨typeIs_int s i t,λ_ e=>nomatch e⟩
 |ref p =>
  cases r
  rcases ty with⟨rfl,xs,hq⟩|⟨rfl,o,hk,hc,hd⟩|⟨rfl,hk⟩|⟨rfl,S,n,hk⟩
  ·obtain⟨its,_,pl,_⟩:=I.list hq
   refine⟨pl.isList.typeIs,λa e=>?_⟩
   cases e
   obtain⟨o,n,e,c,hd,_⟩:=pl
   exact⟨o,e,hd⟩
  ·refine⟨⟨o,I.kIn p o hk,hc⟩,λa e=>?_⟩
   cases e
   exact⟨o,I.kIn _ o hk,hd⟩
  ·have z:∃o,s.heap.get? p=some o/\o.ExactDict:=by rcases hk with⟨kvs,hk⟩|⟨kvs,hk⟩;obtain⟨_,_,_,_,o,_,_,e,ex,_⟩:=I.hok p _ hk;exact⟨o,e,ex⟩;obtain⟨_,_,_,_,o,_,_,e,ex,_⟩:=I.hok p _ hk;exact⟨o,e,ex⟩
   obtain⟨o,e,ex⟩:=z
   refine⟨⟨o,e,ex.1⟩,λa e2=>?_⟩
   cases e2
   exact⟨o,e,ex.2.1⟩
  ·obtain⟨o,_,_,_,e,ex,_⟩:=I.hok p _ hk
   refine⟨⟨o,e,ex.1⟩,λa e2=>?_⟩
   cases e2
   exact⟨o,e,ex.2.1⟩
 |_=>exact False.elim ty
def MP(K:Fg0)(T:String)(r:V->List V->Hp->VK->Prop)(to:TE):TE:=λσ H Q=>to σ H λx H1=>Mx K T x H1/\r x [] H1 Q
def QA(K:Fg0)(T:String)(r:V->List V->Hp->VK->Prop)(to:TE)(t:TA):TE:=λσ H Q=>to σ H λx H1=>Mx K T x H1/\t σ H1 λxs H2=>r x xs H2 Q
variable {o e:Expr}{es:List Expr}{to:TE}{t:TA}{name:Str}{apos cpos:Pos}{T id:String}{r:V->List V->Hp->VK->Prop}
theorem Ga(pa:PlainAttrs T)(slot:Slot T name id)(hty:typeOf (.builtin id)=pure (.type "method_descriptor"))(hm:OB X id r)(ho:PE X o to)
  (hbase:attributeBase o name X.env (eval o X.env)=eval o X.env:=by rfl) (hline:(apos.endLine==cpos.line)=true:=by rfl):PE X (.Call (.Attribute o name apos) [] [] cpos) (MP X.K T r to):=by
 intro pins s σ H Q I h
 refine wpAny_Call_method0_late hbase hline (aU (ho pins s σ H _ I h) λv s1 zq=>?_)
 obtain⟨x,H1,I1,r1,ty,q1⟩:=zq
 obtain⟨h1,h2⟩:=yg I1 r1 ty
 exact⟨T,id,pa,slot,hty,h1,h2,Calls.callWith_builtin rfl (PySem.evalArgs_none (hm pins s1 σ H1 x [] v [] Q I1 r1 .nil q1))⟩
theorem ES(pa:PlainAttrs T)(slot:Slot T name id)(hty:typeOf (.builtin id)=pure (.type "method_descriptor"))(hm:OB X id r)(ho:PE X o to)(ha:PA X (e::es) t)
  (hbase:attributeBase o name X.env (eval o X.env)=eval o X.env:=by rfl)
  (hfew:((backTo cpos (starEach (e::es) X.env)).all (λx=>!x.1)&&(backToKw cpos (keywordEach [] X.env)).all (λx=>x.1.isSome)
   && decide ((e::es).length+([]:List Keyword).length+(if([]:List Keyword).isEmpty then 0 else 1)<30))=true:=by rfl)
  (hline:(apos.endLine==cpos.line)=true:=by rfl) (hs:starEach (e::es) X.env=(false,eval e X.env)::starEach es X.env:=by rfl) (hplain:(backTo cpos (starEach es X.env)).any (·.1)=false:=by rfl) :
  PE X (.Call (.Attribute o name apos) (e::es) [] cpos) (QA X.K T r to t):=by
 intro pins s σ H Q I h
 refine wpAny_Call_method_late hbase hfew hline rfl (aU (ho pins s σ H _ I h) λv s1 zq=>?_)
 obtain⟨x,H1,I1,r1,ty,q1⟩:=zq
 obtain⟨h1,h2⟩:=yg I1 r1 ty
 refine⟨T,id,pa,slot,hty,h1,h2,?_⟩
 have hA:=ha cpos pins s1 σ H1 _ I1 q1
 rw[hs]at hA ⊢
 exact Calls.callWith_builtin (by grind) (Calls.evalArgs_plain (aU hA λus s2 ⟨vs,H2,I2,r2,q2⟩=>hm pins s2 σ H2 x vs v us Q I2 r1 r2 q2))
end
def MV(X:Cx)(id:String)(r:V->List V->Hp->VK->Prop):Prop :=
 ∀(pins:List (Addr×Obj)) (s:Shared) (σ:St) (H:Hp) (x:V) (xs:List V) (v:Value) (us:List Value) (Q:VK),Inv X pins σ H s->RelV x v->Vals xs us->r x xs H Q ->
  wpAny (model X.prog X.w) X.A (call (.builtin id) (v::us)) (EP X pins σ Q) X.xe s
theorem Vals.one:∀{x:V}{us:List Value},Vals [x] us->∃u,us=[u]/\RelV x u
 |_,_,.cons r .nil=>⟨_,rfl,r⟩
theorem Vals.zero:∀{us:List Value},Vals [] us->us=[]
 |_,.nil=>rfl
theorem Vals.dropLast(h:Vals xs us):Vals xs.dropLast us.dropLast:=by
 induction h with
 |nil=>exact .nil
 |cons r t ih=>
  cases t with
  |nil=>exact .nil
  |cons q t'=>exact .cons r ih
theorem Vals.rep(h:Vals xs us):∀k:Nat,Vals (List.replicate k xs).flatten (List.replicate k us).flatten
 |0=>.nil
 |k+1=>Vals.append h (Vals.rep h k)
theorem mO(its):∀(k:Nat) (acc:List Value),
  List.foldl (λx1 x2=>x1++x2) acc.toArray (List.replicate k its.toArray)=(acc++(List.replicate k its).flatten).toArray
 |0,acc=>by simp
 |k+1,acc=>by
  have e:acc.toArray++its.toArray=(acc++its).toArray:=ZzS;have e2:(acc++its)++(List.replicate k its).flatten=acc++(List.replicate (k+1) its).flatten:=by grind
  rw[<- e2,<- mO its k (acc++its),<- e,List.replicate_succ,List.foldl_cons]
section
variable {X:Cx}{pins:List (Addr×Obj)}{σ:St}{H:Hp}{s:Shared}{l b:Addr}{xs ys zs:List V}
theorem Inv.lset{its its':List Value}{f:Array Value->Array Value}{t':Nat}(I:Inv X pins σ H s)(hH:H l=some (.lst xs))
  (e:s.heap.get? l=some { cls:=.type "list",data:=.seq its.toArray n }) (hf:f its.toArray=its'.toArray) (hv:Vals ys its') (hz:ys.length<=sizeLine) :
  Inv X pins σ (aW H l (.lst ys)) { s with heap:=s.heap.update l (Obj.mapSeq f),toks:=t' }:=by
 have q:=PySem.IsL.update e f
 rw[hf]at q
 refine I.write   (by rw[hH];exact trivial) (.inl rfl) (λb' u hb hu=>(Heap.get?_update_other s.heap (Obj.mapSeq f) (zzi hb)).trans hu) ⟨_,q⟩ ?_
 exact⟨hz,its',_,hv,q⟩
theorem Inv.lnew{its:List Value}{t':Nat}(I:Inv X pins σ H s)(hv:Vals ys its)(hz:ys.length<=sizeLine) :
  Inv X pins σ (aW H s.heap.objs.size (.lst ys)) { s with heap:=s.heap.push { cls:=.type "list",data:=.seq its.toArray },toks:=t' } :=
 I.laid (λ_ _ q=>hps0 _ q) (zD _) ⟨hz,its,0,hv,zG _ rfl⟩
theorem Inv.fresh(I:Inv X pins σ H s):H s.heap.objs.size=none:=I.hok.fresh (zD _)
theorem Inv.lstM(I:Inv X pins σ H s)(hH:H l=some (.lst xs)):xs.length<=sizeLine/\∃(its:List Value) (n:Nat),Vals xs its/\xs.length=its.length/\s.heap.get? l=some { cls:=.type "list",data:=.seq its.toArray n }:=by obtain⟨z,its,n,r,e⟩:=I.hok l _ hH;exact⟨z,its,n,r,r.length,e⟩
theorem qL(h:n<=sizeLine):Builtin.List.listTooLong n=false:=zV ZzL
end
section
variable {X:Cx}
def DS:V->List V->Hp->VK->Prop:=λx vs H Q=>∃l xs y,x=.ref l/\vs=[y]/\H l=some (.lst xs)/\xs.length<sizeLine/\Q .non (aW H l (.lst (xs++[y])))
theorem nJ:MV X "list.append" DS:=by
 intro pins s σ H x vs v us Q I rx rv h
 obtain⟨l,xs,y,rfl,rfl,hH,hz,q⟩:=h
 cases rx
 obtain⟨u,rfl,ru⟩:=rv.one
 obtain⟨z,its,n,r,hl,e⟩:=I.lstM hH
 refine call_meets F.slot_list_append ⟨_,e,rfl⟩ F.entry_list_append (F.args_list_append_2 _ _) (PySem.list_append l its.toArray n u (by grind)) ⟨e,(⟨.non,_,I.lset  hH e ZzS (r.append (.cons ru .nil)) ?_,rfl,q⟩)⟩
 grind
def D7:V->List V->Hp->VK->Prop:=λx vs H Q=>∃l b xs zs,x=.ref l/\vs=[.ref b]/\H l=some (.lst xs)/\H b=some (.lst zs)/\xs.length+zs.length<=sizeLine/\Q .non (aW H l (.lst (xs++zs)))
theorem wa:MV X "list.extend" D7:=by
 intro pins s σ H x vs v us Q I rx rv h
 obtain⟨l,b,xs,zs,rfl,rfl,hH,hB,hz,q⟩:=h
 cases rx
 obtain⟨u,rfl,ru⟩:=rv.one
 cases ru
 obtain⟨z,its,n,r,hl,e⟩:=I.lstM hH
 obtain⟨z2,its2,n2,r2,hl2,e2⟩:=I.lstM hB
 have hsz:its.toArray.size+its2.toArray.size<=sizeLine:=by grind
 have hlong:¬ (!its.toArray.isEmpty&&Builtin.List.listTooLong (its.toArray.size+its2.toArray.size))=true:=by
  rw[qL hsz,Bool.and_false]
  exact zR
 refine call_meets F.slot_list_extend ⟨_,e,rfl⟩ F.entry_list_extend (F.args_list_extend_2 _ _)
  (AutoSeq1.list_extend_list_list_0 l its.toArray n b its2.toArray n2 hlong (by grind) ZzL) ⟨e,e2,?_⟩
 refine⟨.non,_,I.lset (its':=its++its2) hH e ZzS (r.append r2) ?_,rfl,q⟩
 rw[zA]
 lia
def NN:V->List V->Hp->VK->Prop:=λx vs H Q=>∃l xs y,x=.ref l/\vs=[]/\H l=some (.lst xs)/\xs[xs.length-1]?=some y/\Q y (aW H l (.lst xs.dropLast))
theorem Gd:MV X "list.pop" NN:=by
 intro pins s σ H x vs v us Q I rx rv h
 obtain⟨l,xs,y,rfl,rfl,hH,hy,q⟩:=h
 cases rx
 have hus:=rv.zero
 subst hus
 obtain⟨z,its,n,r,hl,e⟩:=I.lstM hH
 obtain⟨u,hu,ru⟩:=r.get hy
 have hy':its.toArray[its.toArray.size-1]?=some u:=by simp_all
 refine call_meets F.slot_list_pop ⟨_,e,rfl⟩ F.entry_list_pop (F.args_list_pop_1 _) (MeetsSeq.list_pop_last l its.toArray n u hy' (by rw[Zh];lia)) ⟨e,?_⟩
 refine⟨y,_,I.lset  hH e ?_ r.dropLast ?_,ru,q⟩
 ·simp
 ·rw[List.length_dropLast]
  lia
def Oa:R2:=λx y H Q=>∃l b xs zs,x=.ref l/\y=.ref b/\H l=some (.lst xs)/\H b=some (.lst zs)/\xs.length+zs.length<=sizeLine/\∀p,H p=none->Q (.ref p) (aW H p (.lst (xs++zs)))
theorem sj:gq X (binaryOp .Add) Oa:=by intro pins s σ H x y v u Q I rx ry h;obtain⟨l,b,xs,zs,rfl,rfl,hH,hB,hz,q⟩:=h;cases rx;cases ry;obtain⟨z,its,n,r,hl,e⟩:=I.lstM hH;obtain⟨z2,its2,n2,r2,hl2,e2⟩:=I.lstM hB;refine PySem.P.add_list e e2 ?_ (by simp_all);have ea:its.toArray++its2.toArray=(its++its2).toArray:=ZzS;rw[ea];exact⟨.ref _,_,I.lnew  (r.append r2) (by simp_all),rfl,q _ I.fresh⟩
def Ni:R2:=λx y H Q=>∃l k xs,x=.ref l/\y=.int k/\H l=some (.lst xs)/\-(2^63)<=k/\k<2^63/\xs.length*k.toNat<=sizeLine /\
 ∀p,H p=none->Q (.ref p) (aW H p (.lst (List.replicate k.toNat xs).flatten))
theorem DY{α:Type}(xs:List α)(k:Nat):(List.replicate k xs).flatten.length=k*xs.length:=ZzS
theorem xP:gq X (binaryOp .Mult) Ni:=by
 intro pins s σ H x y v u Q I rx ry h
 obtain⟨l,k,xs,rfl,rfl,hH,h1,h2,hz,q⟩:=h
 cases rx
 obtain⟨t,rfl⟩:=ry
 obtain⟨z,its,n,r,hl,e⟩:=I.lstM hH
 have hlen:its.toArray.size*k.toNat<=sizeLine:=by rw[Zh,<- hl];exact hz
 have hcap:¬ its.toArray.size*k.toNat>(2^63-1)/8:=by
  have:(sizeLine:Nat)<=(2^63-1)/8:=ZzD
  lia
 have hfit:¬ (!Builtin.List.listFitsIndex k)=true:=by
  rw[fitsIndex_both h1 h2]
  exact zR
 have hlong:¬ Builtin.List.listTooLong (its.toArray.size*k.toNat)=true:=by
  rw[qL hlen]
  exact zR
 have hnew:List.foldl (λx1 x2=>x1++x2) #[] (List.replicate (if its.toArray.isEmpty=true then 0 else k.toNat) its.toArray)=(List.replicate k.toNat its).flatten.toArray:=by
  have f0 :=λm=>by
   have:=mO its m []
   rw[zzf]at this
   exact this
  rw[f0]
  cases its with
  |nil=>simp
  |cons a r'=>rw[zM ZzS]
 refine wpAny_binaryOp_repeat_ref (T:="list") (U:="int") ZzD ⟨_,e,rfl⟩ (λs'=>typeIs_int s' k t) noFill_list_mul F.fills_int_mul F.slot_int_rmul repeat_list F.slot_int_index.lookup
  (call_meets F.slot_int_rmul (typeIs_int s k t) F.entry_int_rmul (F.args_int_rmul_2 _ _) (int___rmul___int_list k t l its.toArray n)
   ⟨e,rfl,⟨_,e,rfl⟩,call_meets F.slot_list_mul ⟨_,e,rfl⟩ F.entry_list_mul (F.args_list_mul_2 _ _) (AutoListH.list___mul___list_int_3 l its.toArray n k t hfit hcap hlong) ⟨e,?_⟩⟩)
 rw[hnew]
 exact⟨.ref _,_,I.lnew (t':=s.toks) (r.rep k.toNat) (by rw[DY,Nat.mul_comm];exact hz),rfl,q _ I.fresh⟩
end
section
variable {prog:Program}{w:World}{A:Around}{E:Value->Shared->Prop}{s:Shared}
end
section
variable {X:Cx}
end
end L2
namespace Att
open PySem PySem.W PySem.Calls PyProof.Rows
theorem jW:∀ns vs,WellAll P h vs (ns.map WData.int)->IntsAre vs ns:=by
 intro ns;induction ns with
 |nil=>intro vs w;cases w;exact .nil
 |cons n ns ih=>
  intro vs w;cases w with
  |cons a b=>cases a;exact .cons _ _ (ih _ b)
theorem w4{l:OpenLaw}{n:Nat}(hn:l.most=some n){P:Params}{h:Heap}{args:List WData}{vals:List Value}
  (hpre:l.row.toRowW.claim.pre args=true) (hwl:WellAll P h vals args) :
  ∃a vs ns,vals=[Value.ref a]/\args=[WData.list (ns.map WData.int)]/\h.get? a=some { cls:=.type "list",data:=.seq vs.toArray }/\IntsAre vs ns/\ns.length<=n:=by
 have hsh :=(pre_splitW hpre).1
 have hc:l.pre.holds [] { args:=args }=true:=(pre_splitW hpre).2
 obtain⟨d,r,rfl,h1,h2⟩:=hasAllW_cons hsh
 obtain rfl:=hasAllW_nil h2
 obtain⟨xs,rfl,h3⟩:=hasW_list h1
 obtain⟨ns,rfl⟩:=items_int h3
 have hlen:ns.length<=n:=by
  unfold OpenLaw.pre at hc
  have h4 :=by
   have h4:=(holds_andW hc).1
   rw[hn]at h4
   exact h4
  have h5:=condW_of h4 (w_not (w_lt w_lit (w_len_list (w_arg rfl))))
  grind
 cases hwl with
 |cons w1 w2 =>
  cases w2
  cases w1 with
  |list ho hall=>exact⟨_,_,ns,rfl,rfl,ho,jW ns _ hall,hlen⟩
theorem wG(l:OpenLaw)(args:List WData):l.row.toRowW.claim.post args (.bool true) args=true :=
 postW_of
  (show WShape.has [] (.bool true) .bool=true by rfl)
  (w_eq_bool (w_res rfl) w_lit) rfl
theorem attach_call{l:OpenLaw}{n:Nat}{q:Program}{loose:List Str}{XP:(Str->Option Value)->Heap->Prop}{YP:World->Heap->Prop}{d:DefRec}
  (hn:l.most=some n) (hdf:d.params.defaults=[])
  (call:∀(w:World) (s₀ s₁:Shared) (mg mb:Str->Option Value) (fa:Addr) (o:Obj) (pm cd doc:Value) (a:Addr) (vs:List Value) (ns:List Int),
   Ground q loose [] XP w s₀ mg mb s₁.heap->YP w s₁.heap ->
   s₁.heap.get? fa=some o->o.data=.func (docDef d.name d.params d.body d.scope pm cd doc)->s₁.heap.CodeRec cd d.name->mg d.name=some (.ref fa) ->
   s₁.heap.get? a=some { cls:=.type "list",data:=.seq vs.toArray }->IntsAre vs ns->ns.length<=n->s₁.gens=#[] ->
   codeAny (model l.prog w) callerA (.call (.ref fa) ⟨[.ref a],[]⟩) (λr s'=>r=.ok (.ret (.bool true))/\OldK s₁.heap s'.heap/\s'.os=s₁.os/\AllBare s'.gens) s₁) :
  WalkO q loose XP YP l.row.toRowW d [] (λf vs=>PySem.call f vs):=by
 intro w s₀ s₁ mg mb G Y fa o pm cd doc dV kV ho hd hcd hD hmg hg args vals as hpre hlay hrd hwl hlo
 obtain rfl:dV=.none:=Dflts.none hD hdf
 obtain rfl:kV=.none:=Dflts.noKw hD
 obtain⟨a,vs,ns,rfl,rfl,hobj,hints,hlen⟩:=w4 hn hpre hwl
 refine enter_call (zzw (call w s₀ s₁ mg mb fa o pm cd doc a vs ns G Y ho (fd_plain hd) hcd hmg hobj hints hlen hg) λr s' hq=>?_)
 obtain⟨rfl,h2,h3,h4⟩:=hq
 exact⟨.inl ⟨.bool true,.bool true,[],rfl,λ_=>rfl,.bool true,wG l _,λ_=>⟨List.Pairwise.nil,λ_ hm=>(nomatch hm)⟩⟩,h2,h3,h4⟩
section
variable {prog:Program}{w:World}{A:Around}{E:Value->Shared->Prop}{s:Shared}{K:Frag}
end
end Att
namespace L2
open PySem PySem.Spec PyProof.Rows
theorem eS:∀{vs:List Value}{ns:List Int},IntsAre vs ns->Vals (ns.map V.int) vs
 |_,_,.nil=>.nil
 |_,_,.cons n t h=>.cons ⟨t,rfl⟩ (eS h)
def FU(H:Hp):Prop:=∀b,H b=none\/∃o xs,H b=some (.frz o (.lst xs))
theorem yS{P:Program}{w:World}{K:Fg0}{mg mb:Str->Option Value}{CX:B6}{k:Nat}{fa a:Addr}{fd:FuncData}{x:Str}{sp:Sp}{s₁:Shared}{vs:List Value}{ns:List Int}
  (KX:K.In s₁.heap) (hns:s₁.heap.Ns mainGlobals mg) (hb:s₁.heap.Ns builtinsNs mb) (hbb:∀x:Str,x≠"__name__"->mb x=bootBuiltins x) (hlim:s₁.heap.NoLimit) (hg:s₁.gens=#[])
  (ha:s₁.heap.get? a=some { cls:=.type "list",data:=.seq vs.toArray }) (hi:IntsAre vs ns) (hl:ns.length<=sizeLine) (hr:Room k callerA)
  (F:∀base:Heap,K.In base->base.Ns mainGlobals mg->FnOk P w K mg base CX k fa fd [x] sp) (hbind:∀(s:Shared) (u:Value),BindsTo s fd ⟨[u],[]⟩ [(x,u)])
  (hsp:∀H:Hp,FU H->iI K H a (ns.map V.int)->sp [.ref a] H (λv _=>v=.bl true) λ_ _ _=>False)
  (hCX:∀H e s',CX [] H s₁ (λ_ _ _=>False) e s'->False) :
  codeAny (model P w) callerA (.call (.ref fa) ⟨[.ref a],[]⟩) (λr s'=>r=.ok (.ret (.bool true))/\OldK s₁.heap s'.heap/\s'.os=s₁.os/\AllBare s'.gens) s₁:=by
 have rv:=eS hi
 have lenV:=hi.length
 have core:∀H:Hp,FU H->iI K H a (ns.map V.int)->HOk P w H s₁.heap->(∀b,H b≠none->b=a)->(H a≠none->K.lookup a=none) ->
   codeAny (model P w) callerA (.call (.ref fa) ⟨[.ref a],[]⟩) (λr s'=>r=.ok (.ret (.bool true))/\OldK s₁.heap s'.heap/\s'.os=s₁.os/\AllBare s'.gens) s₁:=by
  intro H hO hS hok hA hK
  have dX:∀{b:Addr}{o:Obj},s₁.heap.get? b=some o->H b=none->(om s₁.heap H).get? b=some o:=λe n=>y9 e n
  have noA:∀{b:Addr}{o:Obj}{es:Array DictEntry}{ep:Nat},s₁.heap.get? b=some o->o.data=.dict es ep->H b=none:=λ{b o es ep} e d=>by
   cases q:H b with
   |none=>rfl
   |some u=>have e':b=a:=hA b (by rw[q];simp);subst e';rw[ha]at e;cases e;have d':Data.seq vs.toArray _=Data.dict es ep:=d;cases d'
  have nsK:∀{b:Addr}{m:Str->Option Value},s₁.heap.Ns b m->(om s₁.heap H).Ns b m:=λ{b m} ⟨o,es,ep,e,d,r⟩=>⟨o,es,ep,dX e (noA e d),d,r⟩
  have hKb:K.In (om s₁.heap H):=λb o e=>dX (KX b o e) (by
   cases q:H b with
   |none=>rfl
   |some u =>
    have e':b=a:=hA b (by rw[q];simp)
    subst e'
    rw[hK (by rw[q];simp)]at e;cases e)
  have hM:Mod K mg (om s₁.heap H):=⟨hKb,nsK hns,⟨mb,nsK hb,hbb⟩,let ⟨mc,h1,h2⟩:=hlim;⟨mc,nsK h1,h2⟩⟩
  have e0:Env0 P w K mg (om s₁.heap H) callerA [] s₁ H:=⟨rfl,hM,λb o e=>DG e,Nat.le_of_eq (wM _ _),trivial,λb hb=>absurd (show b∈([]:List Addr) from hb) ZzS,hok,.of_eq hg⟩
  refine zzw ((F _ hKb (nsK hns)).run callerA [] s₁ H ⟨[.ref a],[]⟩ [.ref a] [.ref a] _ _ hr e0 (hbind s₁ (.ref a)) (.cons rfl .nil) (hsp H hO hS)) λr s' h=>?_
  cases r with
  |error e=>exact(hCX H e s' h).elim
  |ok fl =>
   cases fl with
   |next=>exact False.elim h
   |brk=>exact False.elim h
   |cont=>exact False.elim h
   |ret u =>
    obtain⟨v,H',os,bare,un,hok',r',q⟩:=h
    have q':v=.bl true:=q
    subst q'
    obtain rfl:u=Value.bool true:=r'
    refine⟨rfl,OldK.of_keep λb o e=>?_,os,bare⟩
    cases q:H b with
    |none=>exact un.keep b o e q (by intro z;exact absurd (show b∈([]:List Addr) from z) ZzS) ZzS
    |some u =>
     rcases hO b with z|⟨ob,xs,z⟩
     ·rw[q]at z;cases z
     ·have z2:=un.frzs b ob _ z
      obtain⟨e1,_⟩:=hok b _ z
      obtain⟨e2,_⟩:=hok' b _ z2
      rw[e]at e1;cases e1
      exact e2
 cases hk:K.lookup a with
 |some o =>
  have e:=KX a o hk
  rw[ha]at e
  cases e
  refine core (λ_=>none) (λ_=>.inl rfl) (.inr ⟨_,vs.toArray,_,hk,rfl,rfl,rfl,by rw[Zh,lenV];exact hl,by simpa using rv⟩) (λb u z=>by have z':(none:Option HO)=some u:=z;cases z') (λb z=>absurd rfl z) λz=>absurd rfl z
 |none =>
  refine core (λb=>if b=a then some (.frz { cls:=.type "list",data:=.seq vs.toArray } (.lst (ns.map V.int))) else none) (λb=>?_) (.inl (.inr ⟨{ cls:=.type "list",data:=.seq vs.toArray },zF rfl⟩)) (λb u z=>?_) (λb z=>?_) λ_=>hk
  ·by_cases hb:b=a
   ·exact .inr ⟨_,_,zF hb⟩
   ·exact .inl (zM hb)
  ·by_cases hb:b=a
   ·have z':=(zF hb).symm.trans z
    cases z'
    subst hb
    exact⟨ha,by rw[zo];exact hl,vs,_,rv,ha⟩
   ·have z':=(zM hb).symm.trans z
    cases z'
  ·by_cases hb:b=a
   ·exact hb
   ·exact absurd (zM hb) z
noncomputable abbrev Ri{K:Fg0}{h:Heap}(_:K.In h):Fg0:=K
theorem walk_of{l:PySem.W.OpenLaw}{n k:Nat}{q:Program}{loose:List Str}{XP:(Str->Option Value)->Heap->Prop}{YP:World->Heap->Prop}{d:DefRec}{K:Params->Fg0}{CX:World->B6}{sp:World->Sp}{x:Str}
  (hn:l.most=some n) (hn2:n<=sizeLine) (hdf:d.params.defaults=[]) (hr:Room k callerA)
  (hY:∀(w:World) (h:Heap),YP w h->(K w.params).In h)
  (F:∀(w:World) (mg:Str->Option Value) (fa:Addr) (h:Heap),(K w.params).In h->h.Ns mainGlobals mg->mg d.name=some (.ref fa) ->
   ∃fd:FuncData,(∀(s:Shared) (u:Value),BindsTo s fd ⟨[u],[]⟩ [(x,u)]) /\
    ∀base:Heap,(K w.params).In base->base.Ns mainGlobals mg->FnOk l.prog w (K w.params) mg base (CX w) k fa fd [x] (sp w))
  (hsp:∀(w:World) (H:Hp) (a:Addr) (ns:List Int),ns.length<=n->FU H->iI (K w.params) H a (ns.map V.int)->sp w [.ref a] H (λv _=>v=.bl true) λ_ _ _=>False)
  (hCX:∀(w:World) (H:Hp) (s:Shared) (e:Value) (s':Shared),CX w [] H s (λ_ _ _=>False) e s'->False) :
  PySem.W.WalkO q loose XP YP l.row.toRowW d [] (λf vs=>PySem.call f vs):=by
 refine Att.attach_call hn hdf λw s₀ s₁ mg mb fa o pm cd doc a vs ns G Y ho hd hcd hmg hobj hints hlen hg=>?_
 have KX:=hY w _ Y
 obtain⟨fd,hb,hF⟩:=F w mg fa _ KX G.T.g hmg
 exact yS KX G.T.g G.T.b G.T.builtins G.T.nolimit hg hobj hints (zf hlen hn2) hr hF hb (λH hO hS=>hsp w H a ns hlen hO hS) λH e s'=>hCX w H s₁ e s'
def bN(s:Stmt):Arguments:=match s with
 |.FunctionDef _ a _ _ _ _ _ _ _ _=>a
 |_=>{ posonlyargs:=[],args:=[],vararg:=none,kwonlyargs:=[],kw_defaults:=[],kwarg:=none,defaults:=[] }
def aT(s:Stmt):List Stmt:=match s with
 |.FunctionDef _ _ b _ _ _ _ _ _ _=>b
 |_=>[]
def aw(s:Stmt):Scope:=match s with
 |.FunctionDef _ _ _ _ _ _ sc _ _ _=>sc
 |_=>{ kind:=.function,names:=[],isGenerator:=false,isCoroutine:=false }
structure Fun (K:Fg0) (x qual:Str) (st:Stmt) (f:Addr) (fd:FuncData):Prop where
 ex:∃(oc:Value) (od:Option Addr) (kV doc pm:Value) (an:Option Addr) (cdv ct:Value) (osl:Array (Option Value)),
  fd=PySem.W.fnOf x qual (bN st) (aT st) (aw st) .none kV doc pm an cdv ct/\K.lookup f=some ⟨oc,od,.func fd,osl⟩/\PySem.W.codeIn K cdv qual=true
 kp:PySem.W.keepIn K (.ref f)=true
section
variable {P:Program}{w:World}{K:Fg0}{mg:Str->Option Value}{base:Heap}
theorem sY{x qual:Str}{st:Stmt}{f:Addr}{oc:Value}{od an:Option Addr}{osl:Array (Option Value)}{kV doc pm cdv ct:Value}(l:K.lookup f=some ⟨oc,od,.func (PySem.W.fnOf x qual (bN st) (aT st) (aw st) .none kV doc pm an cdv ct),osl⟩)
 (c:PySem.W.codeIn K cdv qual=true) (k:PySem.W.keepIn K (.ref f)=true):Fun K x qual st f (PySem.W.fnOf x qual (bN st) (aT st) (aw st) .none kV doc pm an cdv ct):=⟨⟨oc,od,kV,doc,pm,an,cdv,ct,osl,rfl,l,c⟩,k⟩
end
section
variable {X:Cx}
end
theorem qM{A B:Prop}(h:B):if false=true then A else B:=by grind
theorem rq{A B:Prop}(h:A):if true=true then A else B:=by grind
section
variable {κ:Type} [DecidableEq κ]
noncomputable def iE(kvs:List (κ×V))(k:κ):Option V:=(kvs.find? λkv=>decide (kv.1=k)).map (·.2)
noncomputable def gA(kvs:List (κ×V))(k:κ)(v:V):List (κ×V) :=
 if(kvs.any λkv=>decide (kv.1=k))=true then kvs.map (λkv=>if kv.1=k then(kv.1,v) else kv) else kvs++[(k,v)]
theorem iZ{p:κ×V}{r:List (κ×V)}{k:κ}(e:p.1=k):iE (p::r) k=some p.2:=by simp[iE,zzB,e]
theorem ja{p:κ×V}{r:List (κ×V)}{k:κ}(e:¬ p.1=k):iE (p::r) k=iE r k:=by simp[iE,zzB,e]
theorem qC(k:κ):∀kvs:List (κ×V),(kvs.any λkv=>decide (kv.1=k))=(iE kvs k).isSome
 |[]=>rfl
 |p::r=>by rw[zzp];by_cases e:p.1=k;simp only[iZ e,zX e,Bool.true_or,Option.isSome_some];rw[ja e,zV e];exact qC k r
theorem gx(kvs:List (κ×V))(k:κ)(v:V):(gA kvs k v).length<=kvs.length+1:=by
 unfold gA
 grind
theorem RelO.isSome_eq{o:Option V}{u:Option Value}(r:RelO o u):o.isSome=u.isSome:=by
 cases o with
 |none=>cases u with
  |none=>rfl
  |some _=>exact(r).elim
 |some _=>cases u with
  |none=>exact(r).elim
  |some _=>rfl
theorem RelO.getD{o:Option V}{u:Option Value}{d:V}{d':Value}(r:RelO o u)(rd:RelV d d'):RelV (o.getD d) (u.getD d'):=by
 cases o with
 |none=>cases u with
  |none=>exact rd
  |some _=>exact(r).elim
 |some _=>cases u with
  |none=>exact(r).elim
  |some _=>exact r
theorem KV.val{kvs:List (κ×V)}{vs:List (κ×Value)}(r:KV kvs vs)(k:κ):RelO (iE kvs k) (valueAt vs k):=by
 unfold KV at r;induction r with
 |nil=>exact True.intro
 | @cons p q ps qs h t ih=>
  obtain⟨h1,h2⟩:=h;by_cases e:p.1=k;have e':q.1=k:=h1.symm.trans e;have b:valueAt (q::qs) k=some q.2:=by simp[valueAt,zzB,e']
  rw[iZ e,b];exact h2;have e':¬ q.1=k:=λz=>e (h1.trans z);have b:valueAt (q::qs) k=valueAt qs k:=by simp[valueAt,zzB,e']
  rw[ja e,b];exact ih
theorem KV.any{kvs:List (κ×V)}{vs:List (κ×Value)}(r:KV kvs vs)(k:κ):(kvs.any λkv=>decide (kv.1=k))=vs.any λkv=>decide (kv.1=k):=by
 induction r with
 |nil=>rfl
 |cons h t ih=>simp_all
theorem KV.repl{kvs:List (κ×V)}{vs:List (κ×Value)}(r:KV kvs vs)(k:κ){y:V}{u:Value}(ry:RelV y u) :
  KV (kvs.map λkv=>if kv.1=k then(kv.1,y) else kv) (vs.map λkv=>if kv.1=k then(kv.1,u) else kv):=by
 induction r with
 |nil=>exact .nil
 | @cons p q ps qs h t ih =>
  refine .cons ?_ ih
  grind
theorem KV.put{kvs:List (κ×V)}{vs:List (κ×Value)}(r:KV kvs vs)(k:κ){y:V}{u:Value}(ry:RelV y u):KV (gA kvs k y) (stored vs k u):=by unfold gA stored;rw[r.any k];by_cases e:(vs.any λkv=>decide (kv.1=k))=true;rw[zF e,zF e];exact r.repl k ry;rw[zM e,zM e];exact Paired.snoc r ⟨rfl,ry⟩
theorem KV.length{kvs:List (κ×V)}{vs:List (κ×Value)}(r:KV kvs vs):kvs.length=vs.length:=Paired.length r
end
theorem kI{P:Program}{w:World}{k:bT}{u:Value}(r:RelV (kV k) u):(bc P w).is k u=true:=by
 cases k with
 |inl i=>obtain⟨t,e⟩:=(r);subst e;exact pP P w i t
 |inr x=>obtain⟨t,e⟩:=(r);subst e;exact qc P w x t
theorem mU{P:Program}{w:World}:∀{ks:List bT}{us:List Value},Vals (ks.map kV) us->ItemsAre (bc P w) ks us
 |[],_,r=>by cases r;exact .nil
 |k::ks,_,r=>by
  cases r with
  |cons h t=>exact .cons (kI h) (mU t)
abbrev KT(H:Hp):List (List bT×V)->List (List bT×Addr×Value)->Prop:=Paired λp q=>p.1=q.1/\H q.2.1=some (.tup (p.1.map kV))/\RelV p.2 q.2.2
theorem KT.val{H:Hp}{kvs:List (List bT×V)}{xs:List (List bT×Addr×Value)}(r:KT H kvs xs)(k:List bT):RelO (iE kvs k) ((atKey xs k).map (·.2)):=by
 induction r with
 |nil=>exact True.intro
 | @cons p q ps qs h t ih=>
  obtain⟨h1,_,h2⟩:=h;by_cases e:p.1=k;have e' :=h1.symm.trans e;have b:atKey (q::qs) k=some q.2:=by simp[atKey,zzB,e']
  rw[iZ e,b];exact h2;have e':¬ q.1=k:=λz=>e (h1.trans z);have b:atKey (q::qs) k=atKey qs k:=by simp[atKey,zzB,e']
  rw[ja e,b];lia
theorem KT.repl{H:Hp}{kvs:List (List bT×V)}{xs:List (List bT×Addr×Value)}(r:KT H kvs xs)(k:List bT){y:V}{u:Value}(ry:RelV y u) :
  KT H (kvs.map λkv=>if kv.1=k then(kv.1,y) else kv) (xs.map (putAt k u)):=by
 induction r with
 |nil=>exact .nil
 | @cons p q ps qs h t ih =>
  refine .cons ?_ ih
  unfold putAt
  grind
theorem KT.put{H:Hp}{kvs:List (List bT×V)}{xs:List (List bT×Addr×Value)}(r:KT H kvs xs)(k:List bT){b:Addr}{y:V}{u:Value}(hb:H b=some (.tup (k.map kV)))(ry:RelV y u) :
  KT H (gA kvs k y) (storedH xs k b u):=by
 have e:(kvs.any λkv=>decide (kv.1=k))=(atKey xs k).isSome:=by rw[qC,(r.val k).isSome_eq,Option.isSome_map]
 unfold gA storedH
 rw[e]
 by_cases q:(atKey xs k).isSome=true
 ·rw[zF q,zF q];exact r.repl k ry
 ·rw[zM q,zM q];exact Paired.snoc r ⟨rfl,hb,ry⟩
theorem KT.keeps{H H':Hp}{kvs:List (List bT×V)}{xs:List (List bT×Addr×Value)}(r:KT H kvs xs)(ht:∀b ys,H b=some (.tup ys)->H' b=some (.tup ys)):KT H' kvs xs :=
 Paired.mapP r λ_ _ z=>⟨z.1,ht _ _ z.2.1,z.2.2⟩
section
variable {P:Program}{w:World}{H:Hp}{h:Heap}{a:Addr}
theorem Ew{u:HO}(ok:HOk P w H h)(e:Rd H a u):ObjOk P w H h a u:=e.ok ok
theorem jf{kvs:List (bT×V)}(ok:HOk P w H h)(e:Rd H a (.dK kvs)):kvs.length<=sizeLine/\(a==sysModules)=false/\∃vs,KV kvs vs/\h.DictOf (bc P w) a vs :=
 Ew ok e
theorem Er{kvs:List (bT×V)}(ok:HOk P w H h)(e:H a=some (.dK kvs)):kvs.length<=sizeLine/\(a==sysModules)=false/\∃vs,KV kvs vs/\h.DictOf (bc P w) a vs:=jf ok (.inl e)
theorem jw{ks:List bT}(ok:HOk P w H h)(e:H a=some (.tup (ks.map kV))):(tupleKind (bc P w)).is h ks a:=by obtain⟨_,its,r,o,h1,h2,n,h3⟩:=(show ObjOk P w H h a (.tup (ks.map kV)) from ok a _ e);exact⟨o,its.toArray,n,h1,h2,h3,by simpa using mU r⟩
theorem mm{kvs:List (List bT×V)}(ok:HOk P w H h)(e:Rd H a (.dT kvs)):kvs.length<=sizeLine/\(a==sysModules)=false /\
  ∃xs,KT H kvs xs/\h.DictOfH (tupleKind (bc P w)) a xs:=by
 obtain⟨z,y,xs,r,o,es,ep,h1,h2,h3,h4,h5⟩:=(Ew ok e)
 refine⟨z,y,xs,r,o,es,ep,h1,h2,h3,h4,λx hx=>?_,h5⟩
 have all:∀{l:List (List bT×V)}{m:List (List bT×Addr×Value)},KT H l m->∀x∈m,(tupleKind (bc P w)).is h x.1 x.2.1:=by
  intro l m q;induction q with
  |nil=>intro x hx;exact nomatch hx
  | @cons p q ps qs hq t ih=>intro x hx;rcases zS.mp hx with e|hx;subst e;exact jw ok (by simp_all);exact ih x hx
 exact all r x hx
theorem K5{kvs:List (List bT×V)}(ok:HOk P w H h)(e:H a=some (.dT kvs)):kvs.length<=sizeLine/\(a==sysModules)=false /\
 ∃xs,KT H kvs xs/\h.DictOfH (tupleKind (bc P w)) a xs:=mm ok (.inl e)
end
def nU(H:Hp)(a:Addr)(y:V)(r:Option V):Prop :=
 (∃kvs k,Rd H a (.dK kvs)/\y=kV k/\r=iE kvs k)\/∃kvs k b,Rd H a (.dT kvs)/\y=.ref b/\H b=some (.tup (k.map kV))/\r=iE kvs k
def DPut(H:Hp)(a:Addr)(y v:V)(H':Hp):Prop :=
 (∃kvs k,H a=some (.dK kvs)/\y=kV k/\kvs.length<sizeLine/\H'=aW H a (.dK (gA kvs k v))) \/
 ∃kvs k b,H a=some (.dT kvs)/\y=.ref b/\H b=some (.tup (k.map kV))/\kvs.length<sizeLine/\H'=aW H a (.dT (gA kvs k v))
theorem DPut.k{H:Hp}{a:Addr}{kvs:List (bT×V)}{k:bT}{v:V}(e:H a=some (.dK kvs))(hl:kvs.length<sizeLine):DPut H a (kV k) v (aW H a (.dK (gA kvs k v))):=.inl ⟨kvs,k,e,rfl,hl,rfl⟩
section
variable {X:Cx}{pins:List (Addr×Obj)}{σ:St}{H:Hp}{s:Shared}{a:Addr}{y v:V}{u r:Value}{o:Option V}{A:Around}{E:Value->Shared->Prop}
theorem Inv.big(I:Inv X pins σ H s):sysModules<s.heap.objs.size:=by have h :=(I.mod.glob.keeps I.bk).lt;exact zzk ZzD h
theorem wO{Q:Value->Shared->Prop}(hu:A.units+1<cLine)(I:Inv X pins σ H s)(g:nU H a y (some v))(ry:RelV y u)(h:∀w' s',Inv X pins σ H s'->RelV v w'->Q w' s') :
  wpAny (model X.prog X.w) A (getItem (.ref a) u) Q E s:=by
 rcases g with⟨kvs,k,e,ey,l⟩|⟨kvs,k,b,e,ey,eb,l⟩
 ·subst ey
  obtain⟨z,hd,vs,rel,dd⟩:=jf I.hok e
  obtain⟨w',hw,rw'⟩:=RelO.some_of (v:=v) (o:=valueAt vs k) (by rw[l];exact rel.val k)
  exact wpAny_getItem_of (kI ry) dd.mapOf hw (h w' _ (I.tok _) rw')
 ·subst ey
  cases (show u=Value.ref b from ry)
  obtain⟨z,hd,xs,rel,dd⟩:=mm I.hok e
  obtain⟨w',hw,rw'⟩:=RelO.some_of (v:=v) (o:=(atKey xs k).map (·.2)) (by rw[l];exact rel.val k)
  obtain⟨p,hp,hp2⟩:=Zg.mp hw
  refine wpAny_getItem_heap (zzx hu) (jw I.hok eb) dd hp ?_
  rw[hp2]
  exact h w' _ (I.tok _) rw'
theorem MI{Q:Value->Shared->Prop}(hu:A.units+1<cLine)(I:Inv X pins σ H s)(g:nU H a y o)(ry:RelV y u)(h:∀s',Inv X pins σ H s'->Q (.bool o.isSome) s') :
  wpAny (model X.prog X.w) A (compareOp .In u (.ref a)) Q E s:=by
 rcases g with⟨kvs,k,e,ey,l⟩|⟨kvs,k,b,e,ey,eb,l⟩
 ·subst ey
  obtain⟨z,hd,vs,rel,dd⟩:=jf I.hok e
  refine wpAny_in_of (kI ry) hd dd.mapOf ?_
  rw[<- (rel.val k).isSome_eq,<- l]
  exact h _ (I.tok _)
 ·subst ey
  cases (show u=Value.ref b from ry)
  obtain⟨z,hd,xs,rel,dd⟩:=mm I.hok e
  refine wpAny_in_heap (zzx hu) (jw I.hok eb) hd dd ?_
  have q:=(rel.val k).isSome_eq
  rw[Option.isSome_map]at q
  rw[<- q,<- l]
  exact h _ (I.tok _)
theorem C4{Q:Value->Shared->Prop}(hu:A.units+1<cLine)(I:Inv X pins σ H s)(g:nU H a y o)(ry:RelV y u)(h:∀s',Inv X pins σ H s'->Q (.bool (!o.isSome)) s') :
  wpAny (model X.prog X.w) A (compareOp .NotIn u (.ref a)) Q E s:=by
 rcases g with⟨kvs,k,e,ey,l⟩|⟨kvs,k,b,e,ey,eb,l⟩
 ·subst ey
  obtain⟨z,hd,vs,rel,dd⟩:=jf I.hok e
  refine wpAny_notIn_of (kI ry) hd dd.mapOf ?_
  rw[<- (rel.val k).isSome_eq,<- l]
  exact h _ (I.tok _)
 ·subst ey
  cases (ry)
  obtain⟨z,hd,xs,rel,dd⟩:=mm I.hok e
  refine wpAny_notIn_heap (zzx hu) (jw I.hok eb) hd dd ?_
  have q:=(rel.val k).isSome_eq
  rw[Option.isSome_map]at q
  rw[<- q,<- l]
  exact h _ (I.tok _)
theorem nL{h':Heap}{t':Nat}{ob:HO}(I:Inv X pins σ H s)(mu:JS (H a))(hs:Heap.SameBut a s.heap h')(he:∃q,h'.get? a=some q)(new:ObjOk X.prog X.w (aW H a ob) h' a ob) :
  Inv X pins σ (aW H a ob) { s with heap:=h',toks:=t' } :=
 I.write (x:=a) (e:=a) mu (.inl rfl) (λb q hb z=>(hs.2 b hb).trans z) he new
theorem tE{P:Program}{w:World}{H':Hp}{h':Heap}{kvs:List (bT×V)}{vs:List (bT×Value)}(z:kvs.length<=sizeLine)(hd:(a==sysModules)=false)(rel:KV kvs vs)(dd:h'.DictOf (bc P w) a vs) :
 ObjOk P w H' h' a (.dK kvs):=⟨z,hd,vs,rel,dd⟩
theorem we{H':Hp}{Q:Unit->Shared->Prop}(hu:A.units+1<cLine)(I:Inv X pins σ H s)(g:DPut H a y v H')(ry:RelV y u)(rv:RelV v r)(h:∀s',Inv X pins σ H' s'->Q () s') :
  wpAny (model X.prog X.w) A (setItem (.ref a) u r) Q E s:=by
 rcases g with⟨kvs,k,e,ey,l,eH⟩|⟨kvs,k,b,e,ey,eb,l,eH⟩
 ·subst ey eH
  obtain⟨z,hd,vs,rel,dd⟩:=Er I.hok e
  have hz:vs.length<=sizeLine:=by rw[<- rel.length];exact z
  have hl:(gA kvs k v).length<=sizeLine:=by have:=gx kvs k v;lia
  refine wpAny_setItem_pairs (hsz:=hz) (kI ry) dd λh' dd' hs=>h _ ?_
  have he:∃q,h'.get? a=some q:=let ⟨q,_,_,hq,_⟩:=dd';⟨q,hq⟩
  exact nL I (by rw[e];exact True.intro) hs he (tE hl hd (rel.put k rv) dd')
 ·subst ey eH
  cases (show u=Value.ref b from ry)
  obtain⟨z,hd,xs,rel,dd⟩:=K5 I.hok e
  have hz:xs.length<=sizeLine:=by rw[<- Paired.length rel];exact z
  have hl:(gA kvs k v).length<=sizeLine:=by have:=gx kvs k v;lia
  refine wpAny_setItem_heap (hsz:=hz) (zzx hu) (jw I.hok eb) dd λh' dd' hs=>h _ ?_
  obtain⟨q,es,ep,hq,h2,h3,h4,_,h5⟩:=dd'
  refine nL I (by rw[e];exact True.intro) hs ⟨q,hq⟩ ⟨hl,hd,_,(rel.put k eb rv).keeps λc ys ec=>?_,q,es,ep,hq,h2,h3,h4,h5⟩
  rw[a6 (J5 ec e (λz=>nomatch z))]
  exact ec
end
section
variable {X:Cx}{pins:List (Addr×Obj)}{σ:St}{H:Hp}{s:Shared}{a:Addr}{kvs:List (bT×V)}{k:bT}{u:Value}{A:Around}{E:Value->Shared->Prop}
theorem Ks{Q:Value->Shared->Prop}(I:Inv X pins σ H s)(e:Rd H a (.dK kvs))(h:∀t s',Inv X pins σ H s'->Q (.int kvs.length t) s'):wpAny (model X.prog X.w) A (call (.builtin "len") [.ref a]) Q E s:=by obtain⟨z,hd,vs,rel,dd⟩:=jf I.hok e;refine call_len_dict hd dd (by rw[<- rel.length];rw[Zj]at z;lia) ?_;rw[<- rel.length];exact h _ _ (I.tok _)
end
theorem qo{X:Cx}{pins:List (Addr×Obj)}{σ:St}{H:Hp}{s:Shared}{a:Addr}{y:V}{o:Option V}(I:Inv X pins σ H s)(g:nU H a y o):s.TypeIs (.ref a) "dict":=by rcases g with⟨kvs,k,e,_,_⟩|⟨kvs,k,b,e,_,_,_⟩;obtain⟨_,_,vs,_,dd⟩:=jf I.hok e;exact dd.typeIs;obtain⟨_,_,xs,_,dd⟩:=mm I.hok e;exact dd.typeIs
section
variable {X:Cx}{o i e value:Expr}{pos pos' tpos:Pos}{td ty tv:TE}
end
theorem pR{P:Program}{w:World}{H:Hp}(h:Heap)(hb:sysModules<h.objs.size):ObjOk P w H (h.push { cls:=.type "dict",data:=.dict #[] }) h.objs.size (.dK []) :=
 ⟨ZQ _,ZZ.mpr (zzi (zU hb)),[],.nil,Heap.DictOf.new h⟩
def GV:TE:=λ_ H Q=>∀p,H p=none->Q (.ref p) (aW H p (.dK []))
section
variable {X:Cx}{pos:Pos}
theorem pe_dnewK:PE X (.Dict [] [] pos) GV:=λpins s σ H Q I h =>
 wpAny_Dict_empty ⟨.ref s.heap.objs.size,_,I.laid    (λ_ _ q=>hps0 _ q) (zD _) (pR s.heap I.big),rfl,h _ (I.hok.fresh (zD _))⟩
end
def sA:List (TE×TE)->St->Hp->(List (V×V)->Hp->Prop)->Prop
 |[],_,H,Q=>Q [] H
 |(tk,tv)::r,σ,H,Q=>tk σ H λx H1=>tv σ H1 λy H2=>sA r σ H2 λps H3=>Q ((x,y)::ps) H3
abbrev VV:List (V×V)->List (Value×Value)->Prop:=Paired λp q=>RelV p.1 q.1/\RelV p.2 q.2
def Mc(X:Cx)(pos:Pos)(keys:List (Option Expr))(values:List Expr)(trs:List (TE×TE)):Prop :=
 ∀(pins:List (Addr×Obj)) (s:Shared) (σ:St) (H:Hp) (Q:List (V×V)->Hp->Prop),Inv X pins σ H s->sA trs σ H Q ->
  wpAny (model X.prog X.w) X.A (evalPairs (pairTrees keys values X.env pos)) (λvs s'=>∃ps H',Inv X pins σ H' s'/\VV ps vs/\Q ps H') X.xe s
theorem Dc{X:Cx}{pos:Pos}:Mc X pos [] [] []:=λpins s σ H Q I h=>pairTrees_nil_walk ⟨[],H,I,.nil,h⟩
theorem x5{X:Cx}{pos:Pos}{k v:Expr}{ks:List (Option Expr)}{vs:List Expr}{tk tv:TE}{trs:List (TE×TE)}(hk:PE X k tk)(hv:PE X v tv)(hr:Mc X pos ks vs trs) :
  Mc X pos (some k::ks) (v::vs) ((tk,tv)::trs):=λpins s σ H Q I h =>
 pairTrees_cons_walk (aU (hk pins s σ H _ I h) λu s1 ⟨x,H1,I1,rx,q1⟩=>aU (hv pins s1 σ H1 _ I1 q1) λw2 s2 ⟨y,H2,I2,ry,q2⟩ =>
  aU (hr pins s2 σ H2 _ I2 q2) λws s3 ⟨ps,H3,I3,rel,q3⟩=>⟨(x,y)::ps,H3,I3,.cons ⟨rx,ry⟩ rel,q3⟩)
noncomputable def lG(kvs more:List (bT×V)):List (bT×V):=more.foldl (λacc kv=>gA acc kv.1 kv.2) kvs
theorem KV.merge:∀{more:List (bT×V)}{rs:List (bT×Value)}{kvs:List (bT×V)}{vs:List (bT×Value)},KV more rs->KV kvs vs->KV (lG kvs more) (merged vs rs):=by
 intro more rs kvs vs r;induction r generalizing kvs vs with
 |nil=>intro q;exact q
 | @cons p q ps qs h t ih=>
  intro r0;have e:KV (gA kvs p.1 p.2) (stored vs q.1 q.2):=by have:=r0.put p.1 h.2;simp_all
  exact ih e
theorem ib:∀(more kvs:List (bT×V)),(lG kvs more).length<=kvs.length+more.length
 |[],kvs=>by show kvs.length<=kvs.length+0;lia
 |p::r,kvs=>by
  have h1:=ib r (gA kvs p.1 p.2)
  have h2:=gx kvs p.1 p.2
  show(lG (gA kvs p.1 p.2) r).length<=_
  grind
theorem ma{P:Program}{w:World}:∀{kvs:List (bT×V)}{ws:List (Value×Value)},VV (kvs.map λkv=>(kV kv.1,kv.2)) ws->∃rs,Carries (bc P w) ws rs/\KV kvs rs
 |[],_,r=>by cases r;exact⟨[],True.intro,.nil⟩
 |p::kvs,_,r=>by
  cases r with
  | @cons a b as bs h t=>obtain⟨rs,c,q⟩:=ma   t;obtain⟨b1,b2⟩:=b;exact⟨(p.1,b2)::rs,⟨kI h.1,rfl,c⟩,.cons ⟨rfl,h.2⟩ q⟩
def Ll(trs:List (TE×TE)):TE:=λσ H Q=>∀p,H p=none->sA trs σ (aW H p (.dK [])) λps H2=>H2 p=some (.dK [])/\∃kvs:List (bT×V),ps=kvs.map (λkv=>(kV kv.1,kv.2))/\kvs.length<=15/\Q (.ref p) (aW H2 p (.dK (lG [] kvs)))
theorem Dy{X:Cx}{pos:Pos}{keys:List (Option Expr)}{values:List Expr}{trs:List (TE×TE)}(h:Mc X pos keys values trs)(hall:keys.all (·.isSome)=true)(hl:keys.length=values.length)(h0:keys≠[])
  (h15:keys.length<=15):PE X (.Dict keys values pos) (Ll trs):=by
 intro pins s σ H Q I q
 have hn:=I.hok.fresh (zD s.heap.objs.size)
 have I1:=I.laid  (o:=.dK [])  (t':=s.toks) (λ_ _ q=>hps0 _ q) (zD _) (pR s.heap I.big)
 refine wpAny_Dict_walk (knd:=bc X.prog X.w) hall hl h0 h15 (aU (h pins _ σ _ _ I1 (q _ hn)) λws s2 ⟨ps,H2,I2,rel,e,kvs,ep,lk,q2⟩=>?_)
 subst ep
 obtain⟨rs,c,rk⟩:=ma (P:=X.prog) (w:=X.w) rel
 obtain⟨z,hd,vs0,r0,dd⟩:=Er I2.hok e
 cases r0
 refine⟨rs,c,dd,λh' dd' hs=>⟨.ref s.heap.objs.size,_,?_,rfl,q2⟩⟩
 have hz:(lG [] kvs).length<=sizeLine:=by have h1:=ib kvs [];rw[List.length_nil]at h1;rw[Zj];lia
 have he:∃q,h'.get? s.heap.objs.size=some q:=let ⟨q,_,_,hq,_⟩:=dd';⟨q,hq⟩
 exact nL I2 (by rw[e];exact True.intro) hs he (tE hz hd (rk.merge .nil) dd')
structure M1 (X:Cx) (o:Expr) (m:Str) (apos:Pos) (e:Expr) (cpos:Pos):Prop where
 base:attributeBase o m X.env (eval o X.env)=eval o X.env
 few:((backTo cpos (starEach [e] X.env)).all (λx=>!x.1)&&(backToKw cpos (keywordEach [] X.env)).all (λx=>x.1.isSome)
  && decide (([e]:List Expr).length+([]:List Keyword).length+(if([]:List Keyword).isEmpty then 0 else 1)<30))=true
 line:(apos.endLine==cpos.line)=true
 trees:backTo cpos (starEach [e] X.env)=[(false,eval e X.env)]
structure M2 (X:Cx) (o:Expr) (m:Str) (apos:Pos) (e f:Expr) (cpos:Pos):Prop where
 base:attributeBase o m X.env (eval o X.env)=eval o X.env
 few:((backTo cpos (starEach [e,f] X.env)).all (λx=>!x.1)&&(backToKw cpos (keywordEach [] X.env)).all (λx=>x.1.isSome)
  && decide (([e,f]:List Expr).length+([]:List Keyword).length+(if([]:List Keyword).isEmpty then 0 else 1)<30))=true
 line:(apos.endLine==cpos.line)=true
 trees:backTo cpos (starEach [e,f] X.env)=[(false,eval e X.env),(false,eval f X.env)]
def OF(H:Hp)(a:Addr):Prop:=(∃kvs,Rd H a (.dK kvs))\/∃kvs,Rd H a (.dT kvs)
theorem Hg{X:Cx}{pins:List (Addr×Obj)}{σ:St}{H:Hp}{s:Shared}{a:Addr}(I:Inv X pins σ H s)(d:OF H a) :
  s.TypeIs (.ref a) "dict"/\(∀b,Value.ref a=.ref b->∃ob,s.heap.get? b=some ob/\ob.dict=none)/\(a==sysModules)=false:=by
 rcases d with⟨kvs,e⟩|⟨kvs,e⟩
 ·obtain⟨_,hd,vs,_,dd⟩:=jf I.hok e
  refine⟨dd.typeIs,λb q=>?_,hd⟩
  cases q
  obtain⟨ob,_,_,h1,h2,_⟩:=dd
  exact⟨ob,h1,h2.2.1⟩
 ·obtain⟨_,hd,xs,_,dd⟩:=mm I.hok e
  refine⟨dd.typeIs,λb q=>?_,hd⟩
  cases q
  obtain⟨ob,_,_,h1,h2,_⟩:=dd
  exact⟨ob,h1,h2.2.1⟩
section
variable {X:Cx}{pins:List (Addr×Obj)}{σ:St}{H:Hp}{s:Shared}{a:Addr}{y d:V}{u r:Value}{o:Option V}{A:Around}{E:Value->Shared->Prop}
theorem FJ{Q:Value->Shared->Prop}(hu:A.units+1<cLine)(I:Inv X pins σ H s)(g:nU H a y o)(ry:RelV y u)(h:∀w' s',Inv X pins σ H s'->RelV (o.getD .non) w'->Q w' s') :
  wpAny (model X.prog X.w) A (call (.builtin "dict.get") [.ref a,u]) Q E s:=by
 rcases g with⟨kvs,k,e,ey,l⟩|⟨kvs,k,b,e,ey,eb,l⟩
 ·subst ey
  obtain⟨z,hd,vs,rel,dd⟩:=jf I.hok e
  refine call_meetsIn PySem.F.slot_dict_get dd.typeIs PySem.F.entry_dict_get (PySem.F.args_dict_get_2 _ _) (meets_dict_get (bc X.prog X.w) a (kI ry) hd) ⟨_,dd.mapOf,h _ _ (I.tok _) ?_⟩
  rw[l]
  exact(rel.val k).getD rfl
 ·subst ey
  cases (show u=Value.ref b from ry)
  obtain⟨z,hd,xs,rel,dd⟩:=mm I.hok e
  refine call_meetsIn PySem.F.slot_dict_get dd.typeIs PySem.F.entry_dict_get (PySem.F.args_dict_get_2 _ _) (meetsH_dict_get (tupleKind (bc X.prog X.w)) a b hd) ⟨zzx hu,k,xs,jw I.hok eb,dd,h _ _ (I.tok _) ?_⟩
  rw[l]
  exact(rel.val k).getD rfl
end
def Iu(td ty:TE):TE:=λσ H Q=>td σ H λx H1=>∃a,x=.ref a/\OF H1 a/\ty σ H1 λy H2=>∃o,nU H2 a y o/\Q (o.getD .non) H2
section
variable {X:Cx}{o e f:Expr}{apos cpos:Pos}{td ty tx:TE}
theorem Af(hu:X.A.units+1<cLine)(ho:PE X o td)(he:PE X e ty)(m:M1 X o "get" apos e cpos):PE X (.Call (.Attribute o "get" apos) [e] [] cpos) (Iu td ty):=by intro pins s σ H Q I h;refine wpAny_Call_method m.base m.few m.line PySem.F.plainAttrs_dict PySem.F.slot_dict_get PySem.F.type_dict_get (aU (ho pins s σ H _ I h) λu s1 ⟨x,H1,I1,rx,a,ex,d,q1⟩=>?_);subst ex;obtain rfl:u=Value.ref a:=rx;obtain⟨t1,t2,_⟩:=Hg I1 d;refine⟨t1,t2,?_⟩;rw[m.trees];exact Calls.callWith_builtin rfl (Calls.evalArgs_plain (zzZ (aU (he pins s1 σ H1 _ I1 q1) λiv s2 ⟨y,H2,I2,ry,ov,g,q2⟩=>Calls.spliced_nil (FJ hu I2 g ry λw' s3 I3 rw'=>⟨_,H2,I3,rw',q2⟩))))
end
section
variable {X:Cx}{pins:List (Addr×Obj)}{σ:St}{H:Hp}{s:Shared}{a:Addr}{kvs:List (bT×V)}{A:Around}{E:Value->Shared->Prop}
theorem qt{Q:Value->Shared->Prop}(I:Inv X pins σ H s)(e:Rd H a (.dK kvs))(h:∀p s',H p=none->Inv X pins σ (aW H p (.dK kvs)) s'->Q (.ref p) s'):wpAny (model X.prog X.w) A (call (.type "dict") [.ref a]) Q E s:=by obtain⟨z,hd,vs,rel,dd⟩:=jf I.hok e;exact kt_call_dict hd dd (by rw[<- rel.length];lia) λh' dd' hs=>(h _ _ (I.hok.fresh (zD _)) (I.laid    (λb q hq=>((hs.2 b (zU (zL hq))).trans (hps0 _ hq))) (zD _) (tE z (ZZ.mpr (zzi (zU I.big))) rel dd')))
end
section
variable {X:Cx}{pins:List (Addr×Obj)}{σ:St}{H:Hp}{s:Shared}{a:Addr}{y:V}{u:Value}{A:Around}{E:Value->Shared->Prop}
end
section
variable {κ:Type} [DecidableEq κ]
end
end L2
set_option Elab.async false
set_option linter.all false
set_option maxRecDepth 100000
set_option maxHeartbeats 4000000
namespace J
open PySem PySem.Spec PyProof.Rows L2
noncomputable def jm:List Str->List Str
 |[]=>[]
 |x::xs=>if x∈xs then jm xs else x::jm xs
section
variable {P:Program}{w:World}{A:Around}{E:Value->Shared->Prop}{s:Shared}
theorem AQ(ho:s.heap.get? l=some o)(hc:o.cls=.type T)(hT:T="list"\/T="tuple")(hd:o.data=.seq vs.toArray n)
  (hz:vs.length<=sizeLine) (h:Q vs { s with heap:=(s.heap.push (seqObj "list" #[] 0)).update s.heap.objs.size (Obj.mapSeq (·++vs.toArray)) }):wpAny (model P w) A (collect (.ref l)) Q E s:=by
 unfold collect
 refine zd (wpAny_runValue (zzg entry_proto_collect' ?_))
 refine zd (wpAny_newList (zH ⟨zz0 _ (by decide +kernel),zzg entry_list_iadd' ?_⟩))
 show wpAny _ _ (Builtin.List.listExtendWith (.ref s.heap.objs.size) (.ref l) (.ref s.heap.objs.size)) _ _ _
 unfold Builtin.List.listExtendWith
 have ho1:(s.heap.push (seqObj "list" #[] 0)).get? l=some o:=hps0 _ ho
 refine zd (wpAny_typeOf (T:=T) ⟨o,ho1,hc⟩ ?_)
 have ht:((Value.type T==Value.type "list")||(Value.type T==Value.type "tuple"))=true:=by rcases hT with rfl|rfl<;>rfl
 rw[zF (by rw[Bool.or_assoc,ht,Bool.or_true])]
 refine zd (listItems_at ho1 hd ?_)
 refine zd (listItems_at (xs:=#[]) (n:=0) (zG _ rfl) rfl ?_)
 rw[zM ZzS]
 refine zd (listUpdate_at (xs:=#[]) (n:=0) (zG _ rfl) rfl ?_ (ZQ _) ?_)
 ·refine zH ?_
  show wpAny (model P w) A (do let o <- load s.heap.objs.size;(match o.data with|.seq xs _=>pure xs.toList|_=>unsupported "internal:collect")) Q E _
  refine zd (wpAny_load (get?_update_seq (zG _ rfl) _) ?_)
  show wpAny _ _ (pure (#[]++vs.toArray).toList) Q E _
  rw[show((#[]:Array Value)++vs.toArray).toList=vs by simp]
  exact zH h
 grind
theorem xE(ho:s.heap.get? l=some o)(hc:o.cls=.type T)(hT:T="list"\/T="tuple")(hd:o.data=.seq vs.toArray n)
  (hS:StrsAre vs ss) (h64:vs.length<64) (h:∀(out:Array Value) (ss':List Str),StrsAre out.toList ss'->ss'.Perm ss->sortedS ss'=true->Q (.ref (s.heap.objs.size+1)) { s with heap:=sortedAll s.heap vs out }) :
  wpAny (model P w) A (call (.builtin "sorted") [.ref l]) Q E s:=by
 refine Calls.call_function_entry kind_sorted plain_sorted entry_sorted (args_sorted1 _) ?_
 refine zd  (zH (zd (AQ ho hc hT hd (by rw[Zj];lia) (zd (wpAny_newList ?_)))))
 have z:((s.heap.push (seqObj "list" #[] 0)).update s.heap.objs.size (Obj.mapSeq (·++vs.toArray))).objs.size=s.heap.objs.size+1:=(Heap.size_update _ _ _).trans (size_push' _ _)
 have hL:(((s.heap.push (seqObj "list" #[] 0)).update s.heap.objs.size (Obj.mapSeq (·++vs.toArray))).push (seqObj "list" vs.toArray 0)).get? (s.heap.objs.size+1)=some (seqObj "list" vs.toArray 0):=(congrArg _ z.symm).trans (zG _ rfl)
 rw[z]
 refine zd (Zu (ZS slot_list_sort ⟨_,hL,rfl⟩ entry_list_sort (list_sort_treeK strKind_oneLt hL hS.keysOf (λv1 v2 r e=>keyKind_strs (by rw[<- e];exact hS)) h64 λst a1 a2=>⟨_,rfl,zH ⟨_,rfl,?_⟩⟩) (args_list_sort _)))
 obtain⟨ss',b1,b2,b3⟩:=sorted_out_str hS a1 a2
 exact h _ ss' b1 b2 b3
end
theorem qm(v):∀l,(jm (l++[v])).length=if v∈l then(jm l).length else(jm l).length+1
 |[]=>rfl
 |x::xs=>by
  have ih:=qm v xs
  rw[List.cons_append,jm,jm]
  grind
theorem o7:∀l,(jm l).length<=l.length
 |[]=>zD _
 |x::xs=>by
  have:=o7 xs
  rw[jm]
  grind
section
variable {P:Program}{w:World}{A:Around}{E:Value->Shared->Prop}{s:Shared}
theorem AF:∀{vs:List Value}{ss:List Str},StrsAre vs ss->∀{i:Nat}{v:Value},vs[i]?=some v->∃x t,ss[i]?=some x/\v=.str x t
 |_,_,.nil,i,v,h=>by simp_all
 |_,_,.cons x t _,0,v,h=>by simp at h;exact⟨x,t,rfl,h.symm⟩
 |_,_,.cons _ _ r,i+1,v,h=>AF r  (by simp_all)
theorem yF{R:Result->Shared->Prop}{I:Addr}{fp wr:List Addr}{G:Array GenState->Array GenState->Prop}{n:Nat}{Pv:Nat->Value->Prop}{St:Nat->Shared->Prop}{ss:List Str}(W:WalksS P w A.in1 I fp wr G n Pv St)(S:Addr)(hSf:S∉fp)
  (hn:n=ss.length) (hv:∀i v,Pv i v->∃x t,ss[i]?=some x/\v=.str x t) (hb:n+1<scanBound) :
  ∀(k i:Nat) (s:Shared),n-i=k->i<=n->St i s->s.heap.SetOf (PySem.strKind P w) S (λy=>decide (y∈ss.take i)) (jm (ss.take i)).length ->
   (∀s',Moved (S::wr) G s s'->s'.heap.SetOf (PySem.strKind P w) S (λy=>decide (y∈ss)) (jm ss).length->R (.ok (.ret .none)) s') ->
   codeAny (model P w) A (.builtin "set.update.loop" ⟨[.ref S,.ref I],[]⟩) R s:=by
 have hSw:S∉wr:=λh=>hSf (W.sub _ h)
 have sub:∀b∈wr,b∈S::wr:=λb h=>zB _ h
 have keepS:∀{s s':Shared}{f:Str->Bool}{c:Nat},Moved wr G s s'->s.heap.SetOf (PySem.strKind P w) S f c->s'.heap.SetOf (PySem.strKind P w) S f c:=λhm hS=>by obtain⟨o,es,ep,t,ho,cz⟩:=hS;exact⟨o,es,ep,t,hm.heap S _ hSw ho,cz⟩
 intro k
 induction k with
 |zero =>
  intro i s hk hi st hS hR
  have e:i=n:=ZzL
  subst e
  refine zzg PyProof.Rows.F.entry_set_update_loop ?_
  rw[Around.under_plainId Z0 _]
  show wpAny _ A.in1 (pyNext (.ref I) >>= _) _ _ _
  refine zd (W.done s _ _ st λs' hm=>zH (hR s' (hm.mono sub) ?_))
  rw[hn,ZC]at hS
  exact keepS hm hS
 |succ k ih =>
  intro i s hk hi st hS hR
  have hlt:i<n:=ZzL
  refine zzg PyProof.Rows.F.entry_set_update_loop ?_
  rw[Around.under_plainId Z0 _]
  show wpAny _ A.in1 (pyNext (.ref I) >>= _) _ _ _
  refine zd (W.item i s _ _ hlt st λv s1 hP st1 hm=>?_)
  obtain⟨x,t,hx,rfl⟩:=hv i v hP
  have hS1:=keepS hm hS
  show wpAny _ A.in1 (holding [Value.str x t] (setAdd S (.str x t)) >>= _) _ _ s1
  refine zd (Zu ?_)
  unfold setAdd
  refine Zu (zd ((PySem.strKind P w).pyHash (k:=x) (strKind_is _ _ _ _) ?_))
  have room:(jm (ss.take i)).length+1<scanBound:=by have:=o7 (ss.take i);rw[Zk]at this;lia
  refine wpAny_setAddHashed_of (knd:=PySem.strKind P w) (strKind_is _ _ _ _) rfl hS1 room λh2 hsb hS2=>?_
  have tk:ss.take (i+1)=ss.take i++[x]:=by rw[List.take_add_one,hx];rfl
  have hS3:h2.SetOf (PySem.strKind P w) S (λy=>decide (y∈ss.take (i+1))) (jm (ss.take (i+1))).length:=by refine SetOf_congr hS2 (λy=>?_) ?_;rw[tk];simp[Bool.decide_or];rw[tk,qm];simp only[Zl]
  refine zH ⟨plainId_quiet Z0 _,ih (i+1) _ ZzL hlt (W.frame _ s1 _ _ st1 (ZK _) λb hb o e=>?_) hS3 λs3 hm3 hS4=>hR s3 (Moved.trans W.gtrans ((hm.mono sub).then_heap (ZK _) λb o hb e=>?_) hm3) hS4⟩
  ·rw[hsb.2 b (λh:b=S=>hSf (h▸hb))];exact e
  ·rw[hsb.2 b (λh:b=S=>hb (h▸zN))];exact e
theorem tup_noset:isSubtype (.type "tuple") (.type "set")=pure false/\isSubtype (.type "tuple") (.type "frozenset")=pure false:=⟨rfl,rfl⟩
noncomputable abbrev pj(led:Bool):Obj:={ cls:=.type "set",dict:=none,data:=.set #[] 0 (.fresh 0 0 led) }
theorem qZ{l:Addr}{o IO:Obj}{T:String}{vs:List Value}{n:Nat}{ss:List Str}{St:Addr->Nat->Heap->Prop}{Q:Value->Shared->Prop}(hh:A.handled=none)(ho:s.heap.get? l=some o)(hc:o.cls=.type T)(hT:T="list"\/T="tuple")(hd:o.data=.seq vs.toArray n)
  (hS:StrsAre vs ss) (hb:vs.length+1<scanBound) (hIO:IO.isFreed=false) (iter:∀(A':Around) (s1:Shared) (R:Value->Shared->Prop) (F:Value->Shared->Prop),s1.heap.get? l=some o->R (.ref s1.heap.objs.size) { s1 with heap:=s1.heap.push IO }->wpAny (model P w) A' (pyIter (.ref l)) R F s1)
  (walk:∀(A':Around) (I:Addr),A'.handled=none->l≠I->Walks P w A' I [I,l] [I] vs.length (λi v=>vs[i]?=some v) (St I)) (IT:∀(I:Addr) (h:Heap),h.get? I=some IO->h.get? l=some o->St I 0 h)
  (h:∀(h':Heap) (tk:Nat),h'.SetOf (PySem.strKind P w) s.heap.objs.size (λy=>decide (y∈ss)) (jm ss).length->(∀b o,b<s.heap.objs.size->s.heap.get? b=some o->h'.get? b=some o)->Q (.ref s.heap.objs.size) { s with heap:=h',toks:=tk }) :
  wpAny (model P w) A (call (.type "set") [.ref l]) Q E s:=by
 obtain⟨c0,tl,hmro⟩:=ZI.mro
 have hmade:=ZI.made
 have hsub:=ZI.sub
 refine wpAny_call (codeAny_of_tree ?_)
 show wpAny _ _ (callAny (.type "set") _) _ _ _
 refine zH ⟨zz0 _ (by decide +kernel),zzg PySem.F.entry_type_call ?_⟩
 rw[Around.under_plain (weight_type_call_type "set" [.ref l] []) rfl]
 have h1:=ZI.notType
 have h2:=ZI.canCreate
 have hct:=PySem.F.typeCall_set_1 (.ref l)
 repeat (any_goals (first|assumption|wp_step))
 refine zzw (code_set_new_1 (.ref l) (E:=E) (Q₁:=λob s1=>∃led:Bool,ob=.ref s.heap.objs.size/\s1={ s with heap:=s.heap.push (pj led) }) λled=>⟨led,rfl,rfl⟩) λr s1 hr=>?_
 cases r with
 |error e=>exact hr
 |ok fl =>
  cases fl with
  |ret ob =>
   obtain⟨led,rfl,rfl⟩:=hr
   have hS0:(s.heap.push (pj led)).get? s.heap.objs.size=some (pj led):=zG _ rfl
   have hT0:Shared.TypeIs { s with heap:=s.heap.push (pj led) } (.ref s.heap.objs.size) "set":=⟨_,hS0,rfl⟩
   have hli:=ZI.init.lookup
   have hbi:=ZI.init.bind (.ref s.heap.objs.size)
   repeat (any_goals (first|assumption|wp_step))
   refine zzw (zzl (R:=wants (λr s2=>r=.none/\∃h' tk,s2={ s with heap:=h',toks:=tk }/\h'.SetOf (PySem.strKind P w) s.heap.objs.size (λy=>decide (y∈ss)) (jm ss).length/\(∀b o,b<s.heap.objs.size->s.heap.get? b=some o->h'.get? b=some o)) E) ZI.init.plain PySem.F.entry_set_init (check_set_init_1 hT0 ?_)) λr2 s2 hr2=>?_
   ·obtain⟨oc,od,odt,osl⟩:=o
    simp only at hc hd
    subst hc hd
    have ho':(s.heap.push (pj led)).get? l=some ⟨.type T,od,.seq vs.toArray n,osl⟩:=hps0 _ ho
    have hs1:isSubtype (.type T) (.type "set")=pure false:=by rcases hT with rfl|rfl;exact PySem.F.sub_list_set;exact tup_noset.1
    have hs2:isSubtype (.type T) (.type "frozenset")=pure false:=by rcases hT with rfl|rfl;exact PySem.F.sub_list_frozenset;exact tup_noset.2
    have hne:(Value.type T==Value.type "dict")=false:=by rcases hT with rfl|rfl<;>decide
    unfold Builtin.«set.__init__» noKeywords Builtin.Frozenset.updateFrom
    generalize hPI:pyIter=PI
    wp_walk
    subst hPI
    have hlS:l<s.heap.objs.size:=zL ho
    have z1:(s.heap.push (pj led)).objs.size=s.heap.objs.size+1:=ZW ..
    refine iter _ _ _ _ ho' (zd (wpAny_runValue ?_))
    refine yF (ss:=ss) ((walk _ _ (by simp[hh]) (by rw[z1];exact zU (Nat.lt_succ_of_lt hlS))).toS) s.heap.objs.size ?_ (by rw[hS.length]) (λi v e=>AF hS e) hb (vs.length-0) 0 _ rfl (ZQ _) (IT _ _ (zG _ hIO) (hps0 _ ho')) ?_ ?_
    ·rw[z1]
     simp only[zS,Zr,zzM,not_or]
     exact⟨zU (zzt _),ZO hlS⟩
    ·exact SetOf_congr ((setObjOf_fresh (knd:=PySem.strKind P w) led).setOf (hps0 _ hS0) (by unfold scanBound;lia)) (λ_=>rfl) rfl
    ·intro s' hm hS'
     obtain⟨h',g',d',tk',os'⟩:=s'
     have eg:g'=s.gens:=hm.gens
     have ed:d'=s.drawn:=hm.drawn
     have eo:os'=s.os:=hm.os
     subst eg ed eo
     refine zH (zH ⟨rfl,h',tk',rfl,hS',λb o hb e=>?_⟩)
     refine hm.heap b o ?_ (hps0 _ (hps0 _ e))
     rw[z1]
     simp only[zS,Zr,zzM,not_or]
     exact⟨zU hb,zU (Nat.lt_succ_of_lt hb)⟩
   ·cases r2 with
    |error e=>exact hr2
    |ok fl2 =>
     cases fl2 with
     |ret r =>
      obtain⟨rfl,h',tk,rfl,hS',hk'⟩:=hr2
      repeat (any_goals (first|assumption|wp_step))
      exact h _ _ hS' hk'
     |_=>exact hr2.elim
  |_=>exact hr.elim
end
inductive W where
 |non|bl (b:Bool)|int (i:Int)|str (s:Str)
 |tup (ws:List W)|lst (ws:List W)|scr (ws:List W)|dic (ks:List Str) (ws:List W)
 |ref (n:Nat)|ins (c:Nat) (ws:List W)
inductive Ob where
 |lst (ws:List W)|dic (ks:List Str) (ws:List W)
abbrev aa:=List Ob
inductive Res (α:Type) where
 |ok (a:α) (h:aa)|exc (c:Nat) (h:aa)|stuck
noncomputable def bnd{α β:Type}(r:Res α)(f:α->aa->Res β):Res β:=match r with
 |.ok a h=>f a h
 |.exc c h=>.exc c h
 |.stuck=>.stuck
noncomputable def eI:Nat->Str
 |0=>"Standing"
 |_=>"Register"
noncomputable def aK:Nat->List Str
 |0=>["deed","part_list","follows","dead"]
 |_=>["names","standings"]
noncomputable def nowh:Hp:=λ_=>none
def QT(K:Fg0)(ρ:List Addr)(H:Hp)(a:Addr)(xs:List V):Prop:=(a∉ρ/\Rd H a (.tup xs))\/jQ K nowh a xs
def QL(K:Fg0)(ρ:List Addr)(H:Hp)(a:Addr)(xs:List V):Prop:=(a∉ρ/\Rd H a (.lst xs))\/iI K nowh a xs
theorem Rd.nowh(h:Rd nowh a u):False:=by rcases h with h|⟨_,h⟩<;>cases h
theorem QT.sq{K:Fg0}(q:QT K ρ H a xs):jQ K H a xs:=by rcases q with⟨_,q⟩|q|q;exact .inl q;exact(Rd.nowh q).elim;exact .inr q
theorem QL.sq{K:Fg0}(q:QL K ρ H a xs):iI K H a xs:=by rcases q with⟨_,q⟩|q|q;exact .inl q;exact(Rd.nowh q).elim;exact .inr q
inductive RS (p:Addr->List V->Prop) (q:List V->Prop) (v:V):Prop
 |mk (a:Addr) (xs:List V) (e:v=.ref a) (h:p a xs) (rs:q xs)
inductive RT (ρ:List Addr) (H:Hp) (q:List V->Prop) (v:V):Prop
 |mk (a:Addr) (xs:List V) (e:v=.ref a) (n:a∉ρ) (h:H a=some (.lst xs)) (rs:q xs)
inductive RD (ρ:List Addr) (H:Hp) (ks:List Str) (q:List V->Prop) (v:V):Prop
 |mk (a:Addr) (xs:List V) (e:v=.ref a) (n:a∉ρ) (h:Rd H a (.dK ((ks.map Sum.inr).zip xs))) (l:ks.length=xs.length) (rs:q xs)
inductive RI (K:Fg0) (ρ:List Addr) (H:Hp) (c:Nat) (q:List V->Prop) (v:V):Prop
 |mk (a:Addr) (dx:Addr) (xs:List V) (C:Addr) (e:v=.ref a) (n:a∉ρ) (h:H a=some (.ins C dx ((aK c).zip xs))) (l:(aK c).length=xs.length) (m:PySem.W.nsIn K mainGlobals (eI c)=some (some (.ref C))) (rs:q xs)
inductive RC (p:V->Prop) (q:List V->Prop) (xs:List V):Prop
 |mk (y:V) (ys:List V) (e:xs=y::ys) (r:p y) (rs:q ys)
mutual
def Rel(K:Fg0)(ρ:List Addr)(H:Hp):W->V->Prop
 |.non,v=>v=.non
 |.bl b,v=>v=.bl b
 |.int i,v=>v=.int i
 |.str s,v=>v=.str s
 |.tup ws,v=>RS (QT K ρ H) (RelL K ρ H ws) v
 |.lst ws,v=>RT ρ H (RelL K ρ H ws) v
 |.scr ws,v=>RS (QL K ρ H) (RelL K ρ H ws) v
 |.dic ks ws,v=>RD ρ H ks (RelL K ρ H ws) v
 |.ref n,v=>∃a,v=.ref a/\ρ[n]?=some a
 |.ins c ws,v=>RI K ρ H c (RelL K ρ H ws) v
def RelL(K:Fg0)(ρ:List Addr)(H:Hp):List W->List V->Prop
 |[],xs=>xs=[]
 |w::ws,xs=>RC (Rel K ρ H w) (RelL K ρ H ws) xs
end
mutual
noncomputable def ak:W->Bool
 |.tup ws=>ah ws
 |.lst ws=>ah ws
 |.scr ws=>ah ws
 |.dic _ ws=>ah ws
 |.ref _=>false
 |.ins _ ws=>ah ws
 |_=>true
noncomputable def ah:List W->Bool
 |[]=>true
 |w::ws=>ak w&&ah ws
end
mutual
theorem Rel.less{K:Fg0}(hs:∀a,a∈ρ->a∈ρ'):∀w v,ak w=true->Rel K ρ' H w v->Rel K ρ H w v
 |.non,v,_,h=>by rw[Rel]at h ⊢;exact h
 |.bl b,v,_,h=>by rw[Rel]at h ⊢;exact h
 |.int i,v,_,h=>by rw[Rel]at h ⊢;exact h
 |.str s,v,_,h=>by rw[Rel]at h ⊢;exact h
 |.tup ws,v,p,h=>by rw[Rel]at h ⊢;rw[ak]at p;obtain⟨a,xs,e,q,r⟩:=h;exact⟨a,xs,e,q.imp (λz=>⟨λy=>z.1 (hs a y),z.2⟩) id,RelL.less hs ws xs p r⟩
 |.lst ws,v,p,h=>by rw[Rel]at h ⊢;rw[ak]at p;obtain⟨a,xs,e,n,q,r⟩:=h;exact⟨a,xs,e,λy=>n (hs a y),q,RelL.less hs ws xs p r⟩
 |.scr ws,v,p,h=>by rw[Rel]at h ⊢;rw[ak]at p;obtain⟨a,xs,e,q,r⟩:=h;exact⟨a,xs,e,q.imp (λz=>⟨λy=>z.1 (hs a y),z.2⟩) id,RelL.less hs ws xs p r⟩
 |.dic ks ws,v,p,h=>by rw[Rel]at h ⊢;rw[ak]at p;obtain⟨a,xs,e,n,q,l,r⟩:=h;exact⟨a,xs,e,λy=>n (hs a y),q,l,RelL.less hs ws xs p r⟩
 |.ref n,v,p,h=>by rw[ak]at p;cases p
 |.ins c ws,v,p,h=>by rw[Rel]at h ⊢;rw[ak]at p;obtain⟨a,dx,xs,C,e,n,q,l,z,r⟩:=h;exact⟨a,dx,xs,C,e,λy=>n (hs a y),q,l,z,RelL.less hs ws xs p r⟩
theorem RelL.less{K:Fg0}(hs:∀a,a∈ρ->a∈ρ'):∀ws xs,ah ws=true->RelL K ρ' H ws xs->RelL K ρ H ws xs
 |[],xs,_,h=>by rw[RelL]at h ⊢;exact h
 |w::ws,xs,p,h=>by rw[RelL]at h ⊢;rw[ah,zE]at p;obtain⟨y,ys,e,r,rs⟩:=h;exact⟨y,ys,e,Rel.less hs w y p.1 r,RelL.less hs ws ys p.2 rs⟩
end
def ObRel(K:Fg0)(ρ:List Addr)(H:Hp)(a:Addr):Ob->Prop
 |.lst ws=>ah ws=true/\∃xs,H a=some (.lst xs)/\RelL K ρ H ws xs
 |.dic ks ws=>ah ws=true/\∃xs,H a=some (.dK ((ks.map Sum.inr).zip xs))/\ks.length=xs.length/\RelL K ρ H ws xs
structure HRel (K:Fg0) (ρ:List Addr) (h:aa) (H:Hp):Prop where
 len:ρ.length=h.length
 nd:ρ.Nodup
 at_:∀(n:Nat) (a:Addr) (o:Ob),ρ[n]?=some a->h[n]?=some o->ObRel K ρ H a o
structure Ext (ρ:List Addr) (H:Hp) (ρ':List Addr) (H':Hp):Prop where
 pre:ρ <+: ρ'
 keep:∀a o,H a=some o->a∉ρ->H' a=some o\/∃ob kvs,o=.dK kvs/\H' a=some (.frz ob o)
 out:∀a o,H a=some o->a∉ρ->a∉ρ'
theorem Ext.refl:Ext ρ H ρ H:=⟨List.prefix_refl _,λ_ _ e _=>.inl e,λ_ _ _ h=>h⟩
theorem Ext.trans(x:Ext ρ H ρ1 H1)(y:Ext ρ1 H1 ρ2 H2):Ext ρ H ρ2 H2 :=
 ⟨x.pre.trans y.pre,λa o e n=>(by
  rcases x.keep a o e n with h|⟨ob,kvs,ek,h⟩
  ·exact y.keep a o h (x.out a o e n)
  ·rcases y.keep a _ h (x.out a o e n) with h2|⟨_,_,ek2,_⟩
   ·simp_all
   simp_all),λa o e n=>(by
  rcases x.keep a o e n with h|⟨ob,kvs,ek,h⟩
  ·exact y.out a o h (x.out a o e n)
  ·exact y.out a _ h (x.out a o e n))⟩
theorem Ext.keepN(x:Ext ρ H ρ' H')(e:H a=some o)(n:a∉ρ)(d:∀kvs,o≠.dK kvs):H' a=some o:=by
 rcases x.keep a o e n with h|⟨_,kvs,ek,_⟩
 ·lia
 simp_all
theorem Ext.keepD(x:Ext ρ H ρ' H')(e:Rd H a (.dK kvs))(n:a∉ρ):Rd H' a (.dK kvs)/\a∉ρ':=by rcases e with e|⟨ob,e⟩;refine⟨?_,x.out a _ e n⟩;rcases x.keep a _ e n with h|⟨ob,_,_,h⟩;exact .inl h;exact .inr ⟨ob,h⟩;exact⟨.inr ⟨ob,x.keepN e n (λ_ z=>by simp_all)⟩,x.out a _ e n⟩
section
variable {K:Fg0}{ρ ρ':List Addr}{H H':Hp}
theorem QT.ext{a:Addr}{xs:List V}(x:Ext ρ H ρ' H')(q:QT K ρ H a xs):QT K ρ' H' a xs:=by rcases q with⟨n,q|⟨o,q⟩⟩|q;exact .inl ⟨x.out a _ q n,.inl (x.keepN q n (λ_ z=>by cases z))⟩;exact .inl ⟨x.out a _ q n,.inr ⟨o,x.keepN q n (λ_ z=>by cases z)⟩⟩;exact .inr q
theorem QL.ext{a:Addr}{xs:List V}(x:Ext ρ H ρ' H')(q:QL K ρ H a xs):QL K ρ' H' a xs:=by rcases q with⟨n,q|⟨o,q⟩⟩|q;exact .inl ⟨x.out a _ q n,.inl (x.keepN q n (λ_ z=>by cases z))⟩;exact .inl ⟨x.out a _ q n,.inr ⟨o,x.keepN q n (λ_ z=>by cases z)⟩⟩;exact .inr q
mutual
theorem Rel.ext(x:Ext ρ H ρ' H'):∀(w:W) (v:V),Rel K ρ H w v->Rel K ρ' H' w v
 |.non,v,h=>by rw[Rel]at h ⊢;exact h
 |.bl b,v,h=>by rw[Rel]at h ⊢;exact h
 |.int i,v,h=>by rw[Rel]at h ⊢;exact h
 |.str s,v,h=>by rw[Rel]at h ⊢;exact h
 |.tup ws,v,h=>by rw[Rel]at h ⊢;obtain⟨a,xs,e,q,r⟩:=h;exact⟨a,xs,e,q.ext x,RelL.ext x ws xs r⟩
 |.lst ws,v,h=>by rw[Rel]at h ⊢;obtain⟨a,xs,e,n,q,r⟩:=h;exact⟨a,xs,e,x.out a _ q n,x.keepN q n (λ_ z=>by cases z),RelL.ext x ws xs r⟩
 |.scr ws,v,h=>by rw[Rel]at h ⊢;obtain⟨a,xs,e,q,r⟩:=h;exact⟨a,xs,e,q.ext x,RelL.ext x ws xs r⟩
 |.dic ks ws,v,h=>by rw[Rel]at h ⊢;obtain⟨a,xs,e,n,q,l,r⟩:=h;exact⟨a,xs,e,(x.keepD q n).2,(x.keepD q n).1,l,RelL.ext x ws xs r⟩
 |.ref n,v,h=>by rw[Rel]at h ⊢;obtain⟨a,e,q⟩:=h;obtain⟨t,rfl⟩:=x.pre;exact⟨a,e,by rw[zI (ze.mp q).1];exact q⟩
 |.ins c ws,v,h=>by rw[Rel]at h ⊢;obtain⟨a,dx,xs,C,e,n,q,l,z,r⟩:=h;exact⟨a,dx,xs,C,e,x.out a _ q n,x.keepN q n (λ_ z=>by cases z),l,z,RelL.ext x ws xs r⟩
theorem RelL.ext(x:Ext ρ H ρ' H'):∀(ws:List W) (xs:List V),RelL K ρ H ws xs->RelL K ρ' H' ws xs
 |[],xs,h=>by rw[RelL]at h ⊢;exact h
 |w::ws,xs,h=>by rw[RelL]at h ⊢;obtain⟨y,ys,e,r,rs⟩:=h;exact⟨y,ys,e,Rel.ext x w y r,RelL.ext x ws ys rs⟩
end
end
section
variable {K:Fg0}{ρ:List Addr}{H:Hp}
theorem RelL.length:∀{ws:List W}{xs:List V},RelL K ρ H ws xs->ws.length=xs.length
 |[],xs,h=>by subst h;rfl
 |w::ws,xs,h=>by obtain⟨y,ys,rfl,_,rs⟩:=h;simp[RelL.length rs]
theorem RelL.get:∀{ws:List W}{xs:List V}{i:Nat}{w:W},RelL K ρ H ws xs->ws[i]?=some w->∃x,xs[i]?=some x/\Rel K ρ H w x
 |[],_,_,_,_,e=>by simp_all
 |u::ws,xs,i,w,h,e=>by
  obtain⟨y,ys,rfl,r,rs⟩:=h;cases i with
  |zero=>simp_all
  |succ i=>obtain⟨x,h1,h2⟩:=RelL.get  rs (by assumption);simp_all
theorem RelL.nil:RelL K ρ H [] []:=rfl
theorem RelL.cons{w:W}{x:V}{ws:List W}{xs:List V}(r:Rel K ρ H w x)(rs:RelL K ρ H ws xs):RelL K ρ H (w::ws) (x::xs):=⟨x,xs,rfl,r,rs⟩
theorem RelL.append:∀{ws us:List W}{xs ys:List V},RelL K ρ H ws xs->RelL K ρ H us ys->RelL K ρ H (ws++us) (xs++ys)
 |[],_,xs,_,h,k=>by subst h;exact k
 |w::ws,us,xs,ys,h,k=>by obtain⟨y,zs,rfl,r,rs⟩:=h;exact RelL.cons r (RelL.append rs k)
theorem RelL.set:∀{ws:List W}{xs:List V}{w:W}{x:V} (i:Nat),RelL K ρ H ws xs->Rel K ρ H w x->RelL K ρ H (ws.set i w) (xs.set i x)
 |[],xs,_,_,_,h,_=>by subst h;rfl
 |u::ws,xs,w,x,i,h,r=>by
  obtain⟨y,ys,rfl,r',rs⟩:=h;cases i with
  |zero=>exact RelL.cons r rs
  |succ i=>exact RelL.cons r' (RelL.set i rs r)
theorem RelL.take:∀{ws:List W}{xs:List V} (n:Nat),RelL K ρ H ws xs->RelL K ρ H (ws.take n) (xs.take n)
 |_,_,0,_=>rfl
 |[],xs,_+1,h=>by subst h;rfl
 |w::ws,xs,n+1,h=>by obtain⟨y,ys,rfl,r,rs⟩:=h;exact RelL.cons r (RelL.take n rs)
theorem RelL.drop:∀{ws:List W}{xs:List V} (n:Nat),RelL K ρ H ws xs->RelL K ρ H (ws.drop n) (xs.drop n)
 |_,_,0,h=>h
 |[],xs,_+1,h=>by subst h;rfl
 |w::ws,xs,n+1,h=>by obtain⟨y,ys,rfl,r,rs⟩:=h;exact RelL.drop n rs
theorem RelL.flatrep(r:RelL K ρ H ws xs):∀n:Nat,RelL K ρ H (List.replicate n ws).flatten (List.replicate n xs).flatten
 |0=>.nil
 |n+1=>r.append (RelL.flatrep r n)
end
abbrev ag:=List (Option W)
def RelO(K:Fg0)(ρ:List Addr)(H:Hp)(o:Option W)(o':Option V):Prop:=∀w,o=some w->∃v,o'=some v/\Rel K ρ H w v
structure RelE (K:Fg0) (ρ:List Addr) (H:Hp) (σ:ag) (τ:L2.St):Prop where
 len:σ.length=τ.length
 at_:∀(i:Nat) (w:W),σ[i]?=some (some w)->∃v,τ[i]?=some (some v)/\Rel K ρ H w v
section
variable {K:Fg0}{ρ ρ':List Addr}{H H':Hp}{σ:ag}{τ:L2.St}
theorem RelE.ext(x:Ext ρ H ρ' H')(r:RelE K ρ H σ τ):RelE K ρ' H' σ τ:=⟨r.len,λi w e=>let ⟨v,h1,h2⟩:=r.at_ i w e;⟨v,h1,Rel.ext x w v h2⟩⟩
theorem RelE.set(r:RelE K ρ H σ τ)(i:Nat)(h:Rel K ρ H w v):RelE K ρ H (σ.set i (some w)) (τ.set i (some v)):=by refine⟨by simp[r.len],λj u e=>?_⟩;rw[List.getElem?_set]at e ⊢;split at e;rename_i hij;rw[zF hij];split at e;rename_i hl;rw[zF (by rw[<- r.len];exact hl)];simp_all;simp_all;rename_i hij;rw[zM hij];exact r.at_ j u e
end
abbrev cb:=Nat->aa->List Addr->Hp->Prop
def RQ{α:Type}(K:Fg0)(EX:cb)(ρ:List Addr)(H:Hp)(r:Res α)(k:α->aa->List Addr->Hp->Prop):Prop:=match r with
 |.ok a h=>∀ρ' H',Ext ρ H ρ' H'->HRel K ρ' h H'->k a h ρ' H'
 |.exc c h=>∀ρ' H',Ext ρ H ρ' H'->HRel K ρ' h H'->EX c h ρ' H'
 |.stuck=>False
section
variable {α β:Type}{K:Fg0}{EX:cb}{ρ:List Addr}{H:Hp}{h:aa}
theorem RQ.bnd{r:Res α}{f:α->aa->Res β}{k:β->aa->List Addr->Hp->Prop}(q:RQ K EX ρ H (bnd r f) k) :
  RQ K EX ρ H r (λa h' ρ' H'=>RQ K EX ρ' H' (f a h') k):=by
 cases r with
 |ok a h' =>
  intro ρ' H' x hr
  cases e:f a h' with
  |ok b h2 =>
   have q' :=by have q1:RQ K EX ρ H (f a h') k:=q;rw[e]at q1;omega
   exact λρ2 H2 y hr2=>q' ρ2 H2 (x.trans y) hr2
  |exc c h2 =>
   have q' :=by have q1:RQ K EX ρ H (f a h') k:=q;rw[e]at q1;omega
   exact λρ2 H2 y hr2=>q' ρ2 H2 (x.trans y) hr2
  |stuck =>
   have q1:RQ K EX ρ H (f a h') k:=q
   rw[e]at q1;exact q1
 |exc c h'=>exact q
 |stuck=>exact q
theorem RQ.mono{r:Res α}{k k':α->aa->List Addr->Hp->Prop}(q:RQ K EX ρ H r k)(m:∀a h' ρ' H',Ext ρ H ρ' H'->HRel K ρ' h' H'->k a h' ρ' H'->k' a h' ρ' H'):RQ K EX ρ H r k':=by
 cases r with
 |ok a h'=>exact λρ' H' x hr=>m _ _ _ _ x hr (q ρ' H' x hr)
 |exc c h'=>exact q
 |stuck=>exact q
theorem RQ.wk{r:Res α}{k:α->aa->List Addr->Hp->Prop}{ρ1:List Addr}{H1:Hp}(x:Ext ρ H ρ1 H1)(q:RQ K EX ρ H r k):RQ K EX ρ1 H1 r k:=by
 cases r with
 |ok a h'=>exact λρ' H' y hr=>q ρ' H' (x.trans y) hr
 |exc c h'=>exact λρ' H' y hr=>q ρ' H' (x.trans y) hr
 |stuck=>exact q
theorem RQ.here{a:α}{k:α->aa->List Addr->Hp->Prop}(hr:HRel K ρ h H)(q:RQ K EX ρ H (.ok a h) k):k a h ρ H:=q ρ H .refl hr
end
inductive TR {α:Type} (K:Fg0) (EX:cb) (ev:ag->aa->Res α) (k:α->aa->List Addr->Hp->Prop) (τ:L2.St) (H:Hp):Prop
 |mk (ρ:List Addr) (σ:ag) (h:aa) (re:RelE K ρ H σ τ) (hr:HRel K ρ h H) (q:RQ K EX ρ H (ev σ h) k)
def tI(K:Fg0)(EX:cb)(ev:ag->aa->Res W):TE:=λτ H Q=>TR K EX ev (λw _ ρ' H'=>∀v,Rel K ρ' H' w v->Q v H') τ H
def fC(K:Fg0)(EX:cb)(ev:ag->aa->Res Bool):TT:=λτ H Q=>TR K EX ev (λb _ _ H'=>Q b H') τ H
def mz(K:Fg0)(EX:cb)(ev:ag->aa->Res (List W)):TA:=λτ H Q=>TR K EX ev (λws _ ρ' H'=>∀vs,RelL K ρ' H' ws vs->Q vs H') τ H
inductive Fl where
 |nx (σ:ag)|ret (w:W)|brk (σ:ag)|cnt (σ:ag)
def kY(K:Fg0)(D:Ends):Fl->aa->List Addr->Hp->Prop
 |.nx σ,_,ρ,H=>∀τ,RelE K ρ H σ τ->D.nx τ H
 |.brk σ,_,ρ,H=>∀τ,RelE K ρ H σ τ->D.bk τ H
 |.cnt σ,_,ρ,H=>∀τ,RelE K ρ H σ τ->D.ct τ H
 |.ret w,_,ρ,H=>∀v,Rel K ρ H w v->D.rt v H
def dg(K:Fg0)(EX:cb)(ex:ag->aa->Res Fl):TS:=λD τ H=>TR K EX ex (kY K D) τ H
theorem _root_.L2.PE.sub(p:PE X e t)(h:∀τ H Q,t' τ H Q->t τ H Q):PE X e t':=λpins s σ H Q I q=>p pins s σ H Q I (h _ _ _ q)
theorem _root_.L2.PT.sub(p:PT X e t)(h:∀τ H Q,t' τ H Q->t τ H Q):PT X e t':=λpins s σ H Q I q=>p pins s σ H Q I (h _ _ _ q)
theorem _root_.L2.PW.sub(p:PW X e t)(h:∀τ H Q,t' τ H Q->t τ H Q):PW X e t':=λwhole pins s σ H Q I q=>p whole pins s σ H Q I (h _ _ _ q)
theorem _root_.L2.PA.sub(p:PA X e t)(h:∀τ H Q,t' τ H Q->t τ H Q):PA X e t':=λpos pins s σ H Q I q=>p pos pins s σ H Q I (h _ _ _ q)
theorem _root_.L2.PS.sub(p:PS X e t)(h:∀D τ H,t' D τ H->t D τ H):PS X e t':=λpins s σ H D I q=>p pins s σ H D I (h _ _ _ q)
theorem _root_.L2.PSs.sub(p:PSs X e t)(h:∀D τ H,t' D τ H->t D τ H):PSs X e t':=λpins s σ H D I q=>p pins s σ H D I (h _ _ _ q)
inductive Ty where|int|bool|str|tuple|list
 deriving DecidableEq
inductive Bl where|len|list|tuple|max|min|int|sorted|dict|all|any
 deriving DecidableEq
inductive Mt where|append|clear|pop|extend|get|get2|index
 deriving DecidableEq
set_option genInjectivity false
set_option genInjectivity false in
inductive E where
 |con (w:W)|var (i:Nat)
 |bin (op:Operator) (a b:E)|neg (a:E)
 |cmp (op:CmpOp) (a b:E)
 |and_ (a b:E)|or_ (a b:E)|not_ (a:E)|ite (c a b:E)
 |tup (es:List E)|lst (es:List E)
 |ix (a b:E)|sl (a:E) (lo hi:Option E)
 |call (f:Nat) (es:List E)|blt (b:Bl) (es:List E)|isi (a:E) (ts:List Ty)
 |meth (m:Mt) (a:E) (es:List E)
 |dic0|newAdd (a b:E)
 |fld (c k:Nat) (a:E)|mth (f:Nat) (a:E) (es:List E)|chn (o1 o2:CmpOp) (a b c:E)
 |slen (a:E)|lrng (a b:E)|zipE (a b:E)|enmE (k:Int) (a:E)|revE (a:E)|lrev (a:E)
 |compS (is:List Nat) (n:Nat) (a:E) (ifs:List E) (elt:E)
 |compR (is:List Nat) (n:Nat) (es:List E) (ifs:List E) (elt:E)
noncomputable def N6(t:Bool):Int:=if t then 3 else 2
abbrev V0:E:=.var 0
abbrev V1:E:=.var 1
abbrev V2:E:=.var 2
abbrev V3:E:=.var 3
abbrev V4:E:=.var 4
abbrev V5:E:=.var 5
abbrev V6:E:=.var 6
abbrev V7:E:=.var 7
abbrev V8:E:=.var 8
abbrev V9:E:=.var 9
abbrev eC:E:=.var 10
abbrev vf:E:=.var 11
abbrev Dm:E:=.var 12
abbrev Mm:E:=.var 13
abbrev Mv:E:=.var 14
abbrev O9:E:=.var 15
abbrev IL:E:=.var 16
abbrev Me:E:=.con (.int 11)
abbrev Md:E:=.con (.int 12)
abbrev KR:E:=.con (.int 19)
abbrev xq:E:=.con (.int 20)
abbrev IG:E:=.con (.int 26)
set_option genInjectivity false in
inductive It where
 |seq (a:E)|rng (es:List E)|rng2 (t:Bool) (a b:E)
set_option genInjectivity false in
inductive Fp where
 |lit|con|var (i:Nat)|rep (i:Nat)
inductive Hd where
 |ret (w:W)|asg (i:Nat) (w:W)
set_option genInjectivity false in
inductive S where
 |raise (c:Nat) (ps:List Fp)|tryR (e:E) (hs:List (Nat×Hd))|tryA (i:Nat) (e:E) (hs:List (Nat×Hd))|tryF (e:E) (i:Nat) (cs all:List Nat)|tryX (e:E) (i:Nat) (cs all:List Nat)|tryB (b:List S) (i:Nat) (cs all:List Nat)
 |dupd (i:Nat) (e:E) (k v:Nat)|freshD (i:Nat)|freshD1 (i:Nat) (k v:E)|freshC (i:Nat) (e:E)
 |asg (i:Nat) (e:E)|fresh (i:Nat) (e:E)|par (i j:Nat) (a b:E)|unp (is:List Nat) (e:E)
 |setix (a b e:E)|exp (e:E)|ret (e:E)
 |if_ (c:E) (a b:List S)|while_ (c:E) (b:List S)|for_ (is:List Nat) (it:It) (b:List S)
 |pass_|brk|cnt|bad
set_option genInjectivity true
noncomputable def seqL(h:aa):W->Option (List W)
 |.lst ws=>some ws
 |.scr ws=>some ws
 |.ref n=>match h[n]? with
  |some (.lst ws)=>some ws
  |_=>none
 |_=>none
noncomputable def aY(h:aa):W->Option (List Str×List W)
 |.dic ks ws=>some (ks,ws)
 |.ref n=>match h[n]? with
  |some (.dic ks ws)=>some (ks,ws)
  |_=>none
 |_=>none
noncomputable def dF:List Str->List W->Str->Option W
 |k::ks,w::ws,x=>if k=x then some w else dF ks ws x
 |_,_,_=>none
noncomputable def oV:List Str->List W->Str->W->List W
 |k::ks,w::ws,x,v=>(if k=x then v else w)::oV ks ws x v
 |_,ws,_,_=>ws
noncomputable def dO(ks:List Str)(ws:List W)(x:Str)(v:W):List Str×List W:=if(ks.any λk=>decide (k=x))=true then(ks,oV ks ws x v) else(ks++[x],ws++[v])
noncomputable def seqM(h:aa):W->Option (List W)
 |.lst ws=>some ws
 |.ref n=>match h[n]? with
  |some (.lst ws)=>some ws
  |_=>none
 |_=>none
noncomputable def eK:W->Option (List W)
 |.tup ws=>some ws
 |_=>none
noncomputable def seqA(h:aa)(w:W):Option (List W):=(eK w).or (seqL h w)
noncomputable def je(i:Int)(h:aa):Res W:=.ok (.int i) h
noncomputable def fX(b:Bool)(h:aa):Res W:=.ok (.bl b) h
noncomputable def rH{α:Type}(a:α):α:=Classical.choose (⟨a,rfl⟩:∃x,x=a)
theorem fA{α:Type}{a:α}:rH a=a:=Classical.choose_spec (⟨a,rfl⟩:∃x,x=a)
noncomputable def sU(i j:Int):Bool:=decide ((-(2^64)<i/\i<2^64)\/(-(2^64)<j/\j<2^64))||decide (PySem.Builtin.Int.intBits i+PySem.Builtin.Int.intBits j<=134217728)
noncomputable def eR(i j:Int):Bool:=rH (sU i j)
theorem gP:eR i j=sU i j:=fA
noncomputable def lT(op:Operator)(i j:Int)(h:aa):Res W:=match op with
 |.Add=>je (i+j) h
 |.Sub=>je (i-j) h
 |.Mult=>if eR i j then je (i*j) h else .stuck
 |.FloorDiv=>if j≠0/\j.natAbs.log2<9000 then je (i.fdiv j) h else .stuck
 |.Mod=>if j≠0 then je (i.fmod j) h else .stuck
 |.Pow=>if 0<=j/\j<=1000000/\i.natAbs<2^64 then je (i^j.toNat) h else .stuck
 |_=>.stuck
noncomputable def cX(x y:Option (List W))(h:aa):Res (List W):=match x,y with
 |some ws,some us=>if ws.length+us.length<=sizeLine then .ok (ws++us) h else .stuck
 |_,_=>.stuck
noncomputable def wR(x:Option (List W))(j:Int)(h:aa):Res (List W):=match x with
 |some ws=>if -(2^63)<=j/\j<2^63/\ws.length*j.toNat<=sizeLine then .ok (List.replicate j.toNat ws).flatten h else .stuck
 |none=>.stuck
noncomputable def BJ(r:Res (List W)):Res W:=bnd r λws h=>.ok (.lst ws) h
noncomputable def Mq(r:Res (List W)):Res W:=bnd r λws h=>.ok (.tup ws) h
noncomputable def i6(a b:Str):Bool:=decide (a.cps.toList<b.cps.toList)
noncomputable def ip(op:Operator)(x y:W)(h:aa):Res W:=match x,y with
 |.int i,.int j=>lT op i j h
 |.str a,.str b=>match op with
  |.Add=>if a.length+b.length<=sizeLine then .ok (.str (a++b)) h else .stuck
  |_=>.stuck
 |.str a,.int n=>match op with
  |.Mult=>if a.length<=1000/\-1000<=n/\n<=1000 then .ok (.str (Txt.mul a n)) h else .stuck
  |_=>.stuck
 |.tup ws,.tup us=>match op with
  |.Add=>Mq (cX (some ws) (some us) h)
  |_=>.stuck
 |x,.int j=>match op with
  |.Mult=>BJ (wR (seqM h x) j h)
  |_=>.stuck
 |x,y=>match op with
  |.Add=>BJ (cX (seqM h x) (seqM h y) h)
  |_=>.stuck
mutual
noncomputable def iq:W->PyData
 |.non=>.none
 |.bl b=>.bool b
 |.int i=>.int i
 |.str x=>.str x
 |.tup ws=>.tuple (iu ws)
 |.lst ws=>.list (iu ws)
 |.scr ws=>.list (iu ws)
 |.dic _ _=>.none
 |.ref _=>.none
 |.ins _ _=>.none
noncomputable def iu:List W->List PyData
 |[]=>[]
 |w::ws=>iq w::iu ws
end
mutual
noncomputable def wd:W->Bool
 |.tup ws=>m3 ws
 |.lst ws=>m3 ws
 |.scr ws=>m3 ws
 |.dic _ _=>false
 |.ref _=>false
 |.ins _ _=>false
 |_=>true
noncomputable def m3:List W->Bool
 |[]=>true
 |w::ws=>wd w&&m3 ws
end
noncomputable def dP(h:aa)(w:W):Option W:=match w with
 |.ref n=>match h[n]? with
  |some (.lst ws)=>if m3 ws then some (.lst ws) else none
  |_=>none
 |w=>if wd w then some w else none
noncomputable def B8(h:aa)(x y:W):Option Bool:=match x,y with
 |.int i,.int j=>some (decide (i=j))
 |.bl i,.bl j=>some (decide (i=j))
 |.str i,.str j=>some (decide (i=j))
 |x,y=>match dP h x,dP h y with
  |some a,some b=>if SeqAt.shaped (iq a)&&SeqAt.shaped (iq b) then some (PyData.eqv (iq a) (iq b)) else none
  |_,_=>none
noncomputable def dN:W->Bool
 |.non=>true
 |.bl _=>true
 |.int _=>true
 |.str _=>true
 |_=>false
noncomputable def sQ:W->V
 |.bl b=>.bl b
 |.int i=>.int i
 |.str x=>.str x
 |_=>.non
noncomputable def rJ(neg : Bool)(x y : W)(h : aa) : Res W := match aY h y with
 |some (ks, ws) => match x with
  |.str k=>fX (if neg then !(dF ks ws k).isSome else(dF ks ws k).isSome) h
  |_ => .stuck
 |none => match seqA h y with
  |some ws=>if dN x&&ws.all dN then fX (if neg then !IJ (sQ x) (ws.map sQ) else IJ (sQ x) (ws.map sQ)) h else .stuck
  |none=>.stuck
noncomputable def bo:W->Bool
 |.non=>true
 |_=>false
noncomputable def bI(op:CmpOp)(x y:W)(h:aa):Res W:=match op with
 |.Eq=>match B8 h x y with
  |some b=>fX b h
  |none=>.stuck
 |.NotEq=>match B8 h x y with
  |some b=>fX (!b) h
  |none=>.stuck
 |.Lt=>match x,y with
  |.int i,.int j=>fX (decide (i<j)) h
  |.str i,.str j=>fX (i6 i j) h
  |_,_=>.stuck
 |.LtE=>match x,y with
  |.int i,.int j=>fX (decide (i<=j)) h
  |.str i,.str j=>fX (!i6 j i) h
  |_,_=>.stuck
 |.Gt=>match x,y with
  |.int i,.int j=>fX (decide (j<i)) h
  |.str i,.str j=>fX (i6 j i) h
  |_,_=>.stuck
 |.GtE=>match x,y with
  |.int i,.int j=>fX (decide (j<=i)) h
  |.str i,.str j=>fX (!i6 i j) h
  |_,_=>.stuck
 |.In=>rJ false x y h
 |.NotIn=>rJ true x y h
 |.Is=>match y with
  |.non=>fX (bo x) h
  |_=>.stuck
 |.IsNot=>match y with
  |.non=>fX (!bo x) h
  |_=>.stuck
noncomputable def Mj(z:Str)(i:Int)(h:aa):Res W:=if z.length<=1000 then(match atI z.cps.toList i with
 |some c=>.ok (.str ⟨#[c]⟩) h
 |none=>.stuck) else .stuck
noncomputable def dC(x y:W)(h:aa):Res W:=match y with
 |.int i => match x with
  |.str z=>Mj z i h
  |x => match seqA h x with
   |some ws=>match atI ws i with
    |some w=>.ok w h
    |none=>.stuck
   |none=>.stuck
 |.str k=>match aY h x with
   |some (ks,ws)=>match dF ks ws k with
    |some w=>.ok w h
    |none=>.stuck
   |none=>.stuck
 |_=>.stuck
noncomputable def bq(h:aa)(x:W)(t:Ty):Option Bool:=match x with
 |.int _=>some (decide (t=.int))
 |.bl _=>some (decide (t=.int)||decide (t=.bool))
 |.str _=>some (decide (t=.str))
 |.tup _=>some (decide (t=.tuple))
 |.lst _=>some (decide (t=.list))
 |.scr _=>some (decide (t=.list))
 |.ref n=>match h[n]? with
  |some (.lst _)=>some (decide (t=.list))
  |_=>none
 |_=>none
noncomputable def cu:List W->Option (List Str)
 |[]=>some []
 |.str s::ws=>(cu ws).map (s::·)
 |_=>none
noncomputable def Gx:List W->Option (List Int)
 |[]=>some []
 |.int s::ws=>(Gx ws).map (s::·)
 |_=>none
noncomputable def fK:List W->Option (List Bool)
 |[]=>some []
 |.bl s::ws=>(fK ws).map (s::·)
 |_=>none
noncomputable def tq{α:Type}(lt:α->α->Bool)(x:α):List α->List α
 |[]=>[x]
 |y::ys=>if lt y x then y::tq lt x ys else x::y::ys
noncomputable def nV{α:Type}(lt:α->α->Bool):List α->List α
 |[]=>[]
 |x::xs=>tq lt x (nV lt xs)
noncomputable def hZ(x:W)(h:aa):Res W:=match seqA h x with
 |some us=>je us.length h
 |none=>match aY h x with
  |some (ks,_)=>je ks.length h
  |none=>match x with
   |.str z=>if z.length<=1000 then je z.length h else .stuck
   |_=>.stuck
noncomputable def uq(x:W)(h:aa):Res W:=match aY h x with
 |some (ks,ws)=>.ok (.dic ks ws) h
 |none=>.stuck
noncomputable def o9(x:W)(h:aa):Res W:=match seqA h x with
 |some us=>.ok (.tup us) h
 |none=>.stuck
noncomputable def vA(x:W)(h:aa):Res W:=match seqA h x with
 |some us=>.ok (.lst us) h
 |none=>.stuck
noncomputable def Ho(x:W)(h:aa):Res W:=match x with
 |.int i=>je i h
 |.bl k=>je (if k then 1 else 0) h
 |_=>.stuck
noncomputable def mF(x:W)(h:aa):Res W:=match(seqA h x).bind cu with
 |some ss=>if ss.length<64 then .ok (.lst ((nV i6 ss).map W.str)) h else .stuck
 |none=>.stuck
noncomputable def CI(f:List Bool->Bool)(x:W)(h:aa):Res W:=match(seqM h x).bind fK with
 |some bs=>fX (f bs) h
 |none=>.stuck
noncomputable def oR(f:W->aa->Res W)(ws:List W)(h:aa):Res W:=match ws with
 |[x]=>f x h
 |_=>.stuck
noncomputable def uC:W->Option Int
 |.int i=>some i
 |_=>none
noncomputable def L9(f:Int->Int->Int)(ws:List W)(h:aa):Res W:=match ws with
 |[x,y]=>match uC x with
  |some i=>match uC y with
   |some j=>je (f i j) h
   |none=>.stuck
  |none=>.stuck
 |_=>.stuck
noncomputable def bA:Bl->List W->aa->Res W
 |.len=>oR hZ
 |.dict=>oR uq
 |.tuple=>oR o9
 |.list=>oR vA
 |.int=>oR Ho
 |.sorted=>oR mF
 |.all=>oR (CI λbs=>bs.all id)
 |.any=>oR (CI λbs=>bs.any id)
 |.max=>L9 λi j=>if j>i then j else i
 |.min=>L9 λi j=>if j<i then j else i
noncomputable def qO(h:aa):W->Option Bool
 |.bl b=>some b
 |_=>none
noncomputable def iz(r:Res W):Res Bool:=bnd r λw h=>match qO h w with
 |some b=>.ok b h
 |none=>.stuck
noncomputable def jB(ws:List W)(lo hi:Option Int):List W:=(ws.drop (HT.sIx ws.length 0 lo)).take (HT.sIx ws.length ws.length hi-HT.sIx ws.length 0 lo)
noncomputable def Dg(x:W)(lo hi:Option Int)(h:aa):Res W:=match x with
 |.str z=>if z.length<=1000 then .ok (.str (Txt.slice z lo hi)) h else .stuck
 |.tup ws=>if HT.sIx ws.length 0 lo=0/\HT.sIx ws.length ws.length hi=ws.length then .stuck else .ok (.tup (jB ws lo hi)) h
 |x=>match seqL h x with
  |some ws=>.ok (.lst (jB ws lo hi)) h
  |none=>.stuck
noncomputable def vY(x w:W)(h:aa):Res W:=match x with
 |.ref n=>match h[n]? with
  |some (.lst us)=>if ak w=true/\us.length<sizeLine then .ok .non (h.set n (.lst (us++[w]))) else .stuck
  |_=>.stuck
 |_=>.stuck
noncomputable def N7(x:W)(h:aa):Res W:=match x with
 |.ref n=>match h[n]? with
  |some (.lst _)=>.ok .non (h.set n (.lst []))
  |_=>.stuck
 |_=>.stuck
noncomputable def HN(x:W)(h:aa):Res W:=match x with
 |.ref n=>match h[n]? with
  |some (.lst us)=>match us[us.length-1]? with
   |some w=>.ok w (h.set n (.lst us.dropLast))
   |none=>.stuck
  |_=>.stuck
 |_=>.stuck
noncomputable def CC(x y:W)(h:aa):Res W:=match x with
 |.ref n=>match h[n]? with
  |some (.lst us)=>match seqM h y with
   |some ws=>if ah ws=true/\us.length+ws.length<=sizeLine then .ok .non (h.set n (.lst (us++ws))) else .stuck
   |none=>.stuck
  |_=>.stuck
 |_=>.stuck
noncomputable def Ci(x k d:W)(h:aa):Res W:=match aY h x with
 |some (ks,ws)=>match k with
  |.str s=>.ok ((dF ks ws s).getD d) h
  |_=>.stuck
 |none=>.stuck
noncomputable def MR(x k:W)(h:aa):Res W:=match(seqM h x).bind cu,k with
 |some ss,.str s=>if s∈ss/\ss.length<=1000 then .ok (.int ((ss.idxOf s:Nat):Int)) h else .stuck
 |_,_=>.stuck
noncomputable def dG(m:Mt)(x:W)(ws:List W)(h:aa):Res W:=match m with
 |.append=>oR (vY x) ws h
 |.extend=>oR (CC x) ws h
 |.index=>oR (MR x) ws h
 |.clear=>if ws.isEmpty then N7 x h else .stuck
 |.pop=>if ws.isEmpty then HN x h else .stuck
 |.get=>oR (λk=>Ci x k .non) ws h
 |.get2=>match ws with
  |[k,d]=>Ci x k d h
  |_=>.stuck
noncomputable def bR(m:Mt)(h:aa)(x:W):Bool:=match m with
 |.get=>(aY h x).isSome
 |.get2=>(aY h x).isSome
 |_=>(seqM h x).isSome
noncomputable def uL:W->Bool
 |.ins 1 _=>true
 |_=>false
noncomputable section
noncomputable def cY:List Nat->List W->ag->Option ag
 |[],[],σ=>some σ
 |i::is,w::ws,σ=>cY is ws (σ.set i (some w))
 |_,_,_=>none
noncomputable def aV(is:List Nat)(w:W)(σ:ag):Option ag:=match is with
 |[i]=>some (σ.set i (some w))
 |is=>match w with
  |.tup ws=>cY is ws σ
  |.lst ws=>cY is ws σ
  |_=>none
noncomputable def jV(ws:List W):Option (List W):=match ws with
 |[.int j]=>if -(2^62)<=j/\j<2^62 then some ((List.range j.toNat).map λ(k:Nat)=>W.int (0+(k:Int))) else none
 |[.int i,.int j]=>if -(2^62)<=i/\i<2^62/\-(2^62)<=j/\j<2^62 then some ((List.range (j-i).toNat).map λ(k:Nat)=>W.int (i+(k:Int))) else none
 |_=>none
noncomputable def lQ(ws:List W):Option (List W):=rH (jV ws)
theorem cM:lQ ws=jV ws:=fA
noncomputable def iT(z:Str):List W:=z.cps.toList.map λc=>W.str ⟨#[c]⟩
noncomputable def Dp(h:aa):W->Option (List W)
 |.str z=>if z.length<=1000 then some (iT z) else none
 |x=>seqA h x
noncomputable def kA{α:Type}:List Nat->List (Option α)->List (Option α)
 |[],σ=>σ
 |i::is,σ=>kA is (σ.set i none)
noncomputable def lH:W->Option Nat
 |.ref k=>some k
 |_=>none
open Classical in
noncomputable def lc(n:Nat)(src:Option Nat)(f:W->aa->Res (Option W)):List W->aa->Res Unit
 |[],h=>.ok () h
 |w::ws,h=>bnd (f w h) λo h'=>if(∀k,src=some k->h'[k]?=h[k]?) then(match o with
  |none=>lc n src f ws h'
  |some u=>match h'[n]? with
   |some (.lst us)=>if ak u=true/\us.length<sizeLine then lc n src f ws (h'.set n (.lst (us++[u]))) else .stuck
   |_=>.stuck) else .stuck
noncomputable def jG(n0:Nat)(r:Res Unit):Res W:=match r with
 |.ok _ h=>match h[n0]? with
  |some (.lst us)=>.ok (.lst us) (h.take n0)
  |_=>.stuck
 |_=>.stuck
noncomputable def cA(bd:Option ag)(ts:ag->aa->Res Bool)(ev:ag->aa->Res W)(h:aa):Res (Option W):=match bd with
 |none=>.stuck
 |some σ=>bnd (ts σ h) λb h=>if b=true then bnd (ev σ h) λw h=>.ok (some w) h else .ok none h
abbrev CF:=Nat->List W->aa->Res W
mutual
noncomputable def evE(cf:CF):E->ag->aa->Res W
 |.con w,_,h=>.ok w h
 |.dic0,_,h=>.ok (.dic [] []) h
 |.newAdd a b,σ,h=>bnd (evE cf a σ h) λx h=>bnd (evE cf b σ h) λy h=>bnd (cX (seqM h x) (seqM h y) h) λws h=>if ah ws then .ok (.ref h.length) (h++[.lst ws]) else .stuck
 |.var i,σ,h=>match σ[i]? with
  |some (some w)=>.ok w h
  |_=>.stuck
 |.bin op a b,σ,h=>bnd (evE cf a σ h) λx h=>bnd (evE cf b σ h) λy h=>ip op x y h
 |.neg a,σ,h=>bnd (evE cf a σ h) λx h=>match x with
  |.int i=>je (-i) h
  |_=>.stuck
 |.cmp op a b,σ,h=>bnd (evE cf a σ h) λx h=>bnd (evE cf b σ h) λy h=>bI op x y h
 |.and_ a b,σ,h=>bnd (evE cf a σ h) λx h=>match x with
  |.bl true=>evE cf b σ h
  |.bl false=>fX false h
  |_=>.stuck
 |.or_ a b,σ,h=>bnd (evE cf a σ h) λx h=>match x with
  |.bl true=>fX true h
  |.bl false=>evE cf b σ h
  |_=>.stuck
 |.not_ a,σ,h=>bnd (iz (evE cf a σ h)) λb h=>fX (!b) h
 |.ite c a b,σ,h=>bnd (iz (evE cf c σ h)) λk h=>if k then evE cf a σ h else evE cf b σ h
 |.tup es,σ,h=>bnd (evA cf es σ h) λws h=>if ws.length<=sizeLine then .ok (.tup ws) h else .stuck
 |.lst es,σ,h=>bnd (evA cf es σ h) λws h=>if ws.length<=sizeLine then .ok (.lst ws) h else .stuck
 |.ix a b,σ,h=>bnd (evE cf a σ h) λx h=>bnd (evE cf b σ h) λy h=>dC x y h
 |.sl a lo hi,σ,h=>bnd (evE cf a σ h) λx h=>bnd (evO cf lo σ h) λl h=>bnd (evO cf hi σ h) λu h=>Dg x l u h
 |.call f es,σ,h=>bnd (evA cf es σ h) λws h=>cf f ws h
 |.blt b es,σ,h=>bnd (evA cf es σ h) λws h=>bA b ws h
 |.isi a ts,σ,h=>bnd (evE cf a σ h) λx h=>match ts.mapM (bq h x) with
  |some bs=>fX (bs.any id) h
  |none=>.stuck
 |.fld c k a,σ,h=>bnd (evE cf a σ h) λx h=>match x with
  |.ins c' ws=>if c'=c then(match ws[k]? with
   |some w=>.ok w h
   |none=>.stuck) else .stuck
  |_=>.stuck
 |.mth f a es,σ,h=>bnd (evE cf a σ h) λx h=>if uL x then bnd (evA cf es σ h) λws h=>cf f (x::ws) h else .stuck
 |.chn o1 o2 a b c,σ,h=>bnd (evE cf a σ h) λx h=>bnd (evE cf b σ h) λy h=>bnd (bI o1 x y h) λk h=>match k with
  |.bl true=>bnd (evE cf c σ h) λz h=>bI o2 y z h
  |.bl false=>fX false h
  |_=>.stuck
 |.slen a,σ,h=>bnd (evE cf a σ h) λx h=>match(seqA h x).bind cu with
  |some ss=>if ss.length<64 then je (jm ss).length h else .stuck
  |none=>.stuck
 |.lrng a b,σ,h=>bnd (evE cf a σ h) λx h=>bnd (evE cf b σ h) λy h=>match lQ [x,y] with
  |some ks=>if ks.length<=1000 then .ok (.lst ks) h else .stuck
  |none=>.stuck
 |.lrev a,σ,h=>bnd (evE cf a σ h) λx h=>match x with
  |.tup us=>if us.length<=1000 then .ok (.lst us.reverse) h else .stuck
  |_=>.stuck
 |.revE a,σ,h=>bnd (evE cf a σ h) λx h=>match seqA h x with
  |some us=>.ok (.lst us.reverse) h
  |none=>.stuck
 |.zipE a b,σ,h=>bnd (evE cf a σ h) λx h=>bnd (evE cf b σ h) λy h=>match seqA [] x,seqA [] y with
  |some us,some vs=>.ok (.lst (List.zipWith (λu v=>W.tup [u,v]) us vs)) h
  |_,_=>.stuck
 |.enmE k a,σ,h=>bnd (evE cf a σ h) λx h=>match seqA [] x with
  |some us=>.ok (.lst (us.mapIdx λi u=>W.tup [.int (k+(i:Int)),u])) h
  |none=>.stuck
 |.meth m a es,σ,h=>bnd (evE cf a σ h) λx h=>if bR m h x then bnd (evA cf es σ h) λws h=>dG m x ws h else .stuck
 |.compS is n a ifs elt,σ,h=>bnd (evE cf a σ h) λx h=>match Dp h x with
  |some ws=>jG h.length (lc h.length (lH x) (λw h=>cA (aV is w (kA is σ++List.replicate n none)) (evTs cf ifs) (evE cf elt) h) ws (h++[.lst []]))
  |none=>.stuck
 |.compR is n es ifs elt,σ,h=>bnd (evA cf es σ h) λws h=>match lQ ws with
  |some ks=>jG h.length (lc h.length none (λw h=>cA (aV is w (kA is σ++List.replicate n none)) (evTs cf ifs) (evE cf elt) h) ks (h++[.lst []]))
  |none=>.stuck
noncomputable def evTs(cf:CF):List E->ag->aa->Res Bool
 |[],_,h=>.ok true h
 |e::es,σ,h=>bnd (iz (evE cf e σ h)) λb h=>if b=true then evTs cf es σ h else .ok false h
noncomputable def evA(cf:CF):List E->ag->aa->Res (List W)
 |[],_,h=>.ok [] h
 |e::es,σ,h=>bnd (evE cf e σ h) λw h=>bnd (evA cf es σ h) λws h=>.ok (w::ws) h
noncomputable def evO(cf:CF):Option E->ag->aa->Res (Option Int)
 |none,_,h=>.ok none h
 |some e,σ,h=>bnd (evE cf e σ h) λw h=>match w with
  |.int i=>.ok (some i) h
  |_=>.stuck
end
noncomputable def evF(cf:CF):E->ag->aa->Res (List W)
 |.lst es,σ,h=>bnd (evA cf es σ h) λws h=>if ws.length<=sizeLine then .ok ws h else .stuck
 |.bin .Mult a b,σ,h=>bnd (evE cf a σ h) λx h=>bnd (evE cf b σ h) λy h=>match y with
  |.int j=>wR (seqM h x) j h
  |_=>.stuck
 |.bin .Add a b,σ,h=>bnd (evE cf a σ h) λx h=>bnd (evE cf b σ h) λy h=>cX (seqM h x) (seqM h y) h
 |.blt .list [a],σ,h=>bnd (evE cf a σ h) λx h=>match seqA h x with
  |some us=>.ok us h
  |none=>.stuck
 |.revE a,σ,h=>bnd (evE cf a σ h) λx h=>match seqL h x with
  |some us=>.ok us.reverse h
  |none=>.stuck
 |_,_,_=>.stuck
noncomputable def ub(σ:ag):Fp->Bool
 |.lit=>true
 |.con=>true
 |.var i=>match σ[i]? with
  |some (some (.int n))=>decide (n.natAbs<10^100)
  |some (some (.str s))=>decide (s.length<=1000)
  |_=>false
 |.rep i=>match σ[i]? with
  |some (some (.str s))=>decide (s.length<=1000)&&s.cps.toList.all λc=>decide (c<1000)
  |_=>false
noncomputable def vC(hs:List (Nat×Hd))(sub:Nat->Nat->Bool)(c:Nat)(σ:ag):Option Fl:=match hs with
 |[]=>none
 |(d,hd)::hs=>if sub c d then some (match hd with
  |.ret w=>.ret w
  |.asg i w=>.nx ((σ.map λ_=>none).set i (some w))) else vC hs sub c σ
noncomputable def wh(test:ag->aa->Res Bool)(body:ag->aa->Res Fl):Nat->ag->aa->Res Fl
 |0,_,_=>.stuck
 |n+1,σ,h=>bnd (test σ h) λc h=>if c then bnd (body σ h) λfl h=>match fl with
   |.nx σ=>wh test body n σ h
   |.cnt σ=>wh test body n σ h
   |.brk σ=>.ok (.nx σ) h
   |.ret w=>.ok (.ret w) h
  else .ok (.nx σ) h
noncomputable def fo(is:List Nat)(body:ag->aa->Res Fl):List W->ag->aa->Res Fl
 |[],σ,h=>.ok (.nx σ) h
 |w::ws,σ,h=>match aV is w σ with
  |none=>.stuck
  |some σ=>bnd (body σ h) λfl h=>match fl with
   |.nx σ=>fo is body ws σ h
   |.cnt σ=>fo is body ws σ h
   |.brk σ=>.ok (.nx σ) h
   |.ret w=>.ok (.ret w) h
noncomputable def vD(n:Nat)(is:List Nat)(body:ag->aa->Res Fl):Nat->Nat->ag->aa->Res Fl
 |0,_,_,_=>.stuck
 |k+1,i,σ,h=>match h[n]? with
  |some (.lst ws)=>match ws[i]? with
   |none=>.ok (.nx σ) h
   |some w=>match aV is w σ with
    |none=>.stuck
    |some σ=>bnd (body σ h) λfl h=>match fl with
     |.nx σ=>vD n is body k (i+1) σ h
     |.cnt σ=>vD n is body k (i+1) σ h
     |.brk σ=>.ok (.nx σ) h
     |.ret w=>.ok (.ret w) h
  |_=>.stuck
mutual
noncomputable def exS(cf:CF)(fw:Nat):S->ag->aa->Res Fl
 |.raise c ps,σ,h=>if ps.all (ub σ) then .exc c h else .stuck
 |.tryR e hs,σ,h=>match evE cf e σ h with
  |.ok w h=>.ok (.ret w) h
  |.exc c h=>match vC hs (λc d=>decide (c=d)) c σ with
   |some fl=>.ok fl h
   |none=>.stuck
  |.stuck=>.stuck
 |.tryA i e hs,σ,h=>match evE cf e σ h with
  |.ok w h=>.ok (.nx (σ.set i (some w))) h
  |.exc c h=>match vC hs (λc d=>decide (c=d)) c σ with
   |some fl=>.ok fl h
   |none=>.stuck
  |.stuck=>.stuck
 |.tryF e i cs all,σ,h=>match evE cf e σ h with
  |.ok w h=>.ok (.ret w) h
  |.exc c h=>if all.contains c then .ok (.nx ((σ.map λ_=>none).set i (some (.lst (cs.map λk=>.bl (decide (c=k))))))) h else .stuck
  |.stuck=>.stuck
 |.tryX e i cs all,σ,h=>match evE cf e σ h with
  |.exc c h=>if all.contains c then .ok (.nx ((σ.map λ_=>none).set i (some (.lst (cs.map λk=>.bl (decide (c=k)||k==999)))))) h else .stuck
  |_=>.stuck
 |.tryB b i cs all,σ,h=>match aA cf fw b σ h with
  |.exc c h=>if all.contains c then .ok (.nx ((σ.map λ_=>none).set i (some (.lst (cs.map λk=>.bl (decide (c=k))))))) h else .stuck
  |r=>r
 |.dupd i e k v,σ,h=>bnd (evE cf e σ h) λx h=>match aY h x,σ[k]?,σ[v]? with
  |some (ks,ws),some (some (.str s)),some (some y)=>if i≠k/\i≠v/\ks.length<1000 then .ok (.nx (σ.set i (some (.dic (dO ks ws s y).1 (dO ks ws s y).2)))) h else .stuck
  |_,_,_=>.stuck
 |.freshD i,σ,h=>.ok (.nx (σ.set i (some (.ref h.length)))) (h++[.dic [] []])
 |.freshC i e,σ,h=>bnd (evE cf e σ h) λx h=>match aY h x with
  |some (ks,ws)=>if ah ws then .ok (.nx (σ.set i (some (.ref h.length)))) (h++[.dic ks ws]) else .stuck
  |none=>.stuck
 |.freshD1 i k v,σ,h=>bnd (evE cf k σ (h++[.dic [] []])) λx h1=>bnd (evE cf v σ h1) λy h2=>match x,h2[h.length]? with
  |.str s,some (.dic [] [])=>if ak y then .ok (.nx (σ.set i (some (.ref h.length)))) (h2.set h.length (.dic [s] [y])) else .stuck
  |_,_=>.stuck
 |.asg i e,σ,h=>bnd (evE cf e σ h) λw h=>.ok (.nx (σ.set i (some w))) h
 |.fresh i e,σ,h=>bnd (evF cf e σ h) λws h=>if ah ws then .ok (.nx (σ.set i (some (.ref h.length)))) (h++[.lst ws]) else .stuck
 |.par i j a b,σ,h=>bnd (evE cf a σ h) λx h=>bnd (evE cf b σ h) λy h=>.ok (.nx ((σ.set i (some x)).set j (some y))) h
 |.unp is e,σ,h=>bnd (evE cf e σ h) λw h=>match w with
  |.tup ws=>match cY is ws σ with
   |some σ=>.ok (.nx σ) h
   |none=>.stuck
  |.lst ws=>match cY is ws σ with
   |some σ=>.ok (.nx σ) h
   |none=>.stuck
  |_=>.stuck
 |.setix a b e,σ,h=>bnd (evE cf e σ h) λw h=>bnd (evE cf a σ h) λx h=>bnd (evE cf b σ h) λy h=>match x,y with
  |.ref n,.int k=>match h[n]? with
   |some (.lst us)=>if ak w then(match ixN us.length k with
    |some j=>.ok (.nx σ) (h.set n (.lst (us.set j w)))
    |none=>.stuck) else .stuck
   |_=>.stuck
  |.ref n,.str k=>match h[n]? with
   |some (.dic ks ws)=>if ak w=true/\ks.length<sizeLine then .ok (.nx σ) (h.set n (.dic (dO ks ws k w).1 (dO ks ws k w).2)) else .stuck
   |_=>.stuck
  |_,_=>.stuck
 |.exp e,σ,h=>bnd (evE cf e σ h) λ_ h=>.ok (.nx σ) h
 |.ret e,σ,h=>bnd (evE cf e σ h) λw h=>.ok (.ret w) h
 |.if_ c a b,σ,h=>bnd (iz (evE cf c σ h)) λk h=>if k then aA cf fw a σ h else aA cf fw b σ h
 |.while_ c b,σ,h=>wh (λσ h=>iz (evE cf c σ h)) (aA cf fw b) fw σ h
 |.for_ is (.seq a) b,σ,h=>bnd (evE cf a σ h) λx h=>match x with
  |.ref n=>vD n is (aA cf fw b) fw 0 σ h
  |.tup ws=>fo is (aA cf fw b) ws σ h
  |.lst ws=>fo is (aA cf fw b) ws σ h
  |.scr ws=>fo is (aA cf fw b) ws σ h
  |_=>.stuck
 |.for_ is (.rng es) b,σ,h=>bnd (evA cf es σ h) λws h=>match lQ ws with
  |some ks=>fo is (aA cf fw b) ks σ h
  |none=>.stuck
 |.for_ is (.rng2 t a c) b,σ,h=>bnd (evE cf a σ h) λx h=>bnd (evE cf c σ h) λy h=>match x,y with
  |.int i,.int j=>if -1000<=i/\i<=1000/\-1000<=j/\j<=1000 then fo is (aA cf fw b) ((List.range ((j-i+N6 t-1)/N6 t).toNat).map λ(k:Nat)=>W.int (i+(k:Int)*N6 t)) σ h else .stuck
  |_,_=>.stuck
 |.pass_,σ,h=>.ok (.nx σ) h
 |.bad,_,_=>.stuck
 |.brk,σ,h=>.ok (.brk σ) h
 |.cnt,σ,h=>.ok (.cnt σ) h
noncomputable def aA(cf:CF)(fw:Nat):List S->ag->aa->Res Fl
 |[],σ,h=>.ok (.nx σ) h
 |s::ss,σ,h=>bnd (exS cf fw s σ h) λfl h=>match fl with
  |.nx σ=>aA cf fw ss σ h
  |fl=>.ok fl h
end
structure Fn where
 np:Nat
 ns:Nat
 body:List S
 ini:Option (Nat×List (Bool×E)):=none
mutual
noncomputable def i5(h:aa)(n0:Nat):W->Option W
 |.ref n=>if n<n0 then some (.ref n) else match h[n]? with
  |some (.lst ws)=>some (.lst ws)
  |some (.dic ks ws)=>some (.dic ks ws)
  |none=>none
 |.tup ws=>(gj h n0 ws).map .tup
 |.lst ws=>(gj h n0 ws).map .lst
 |.scr ws=>(gj h n0 ws).map .scr
 |.ins c ws=>(gj h n0 ws).map (.ins c)
 |.dic ks ws=>(gj h n0 ws).map (.dic ks)
 |w=>some w
noncomputable def gj(h:aa)(n0:Nat):List W->Option (List W)
 |[]=>some []
 |w::ws=>match i5 h n0 w,gj h n0 ws with
  |some u,some us=>some (u::us)
  |_,_=>none
end
noncomputable def fin(n0:Nat)(r:Res Fl):Res W:=match r with
 |.stuck=>.stuck
 |.exc c h=>.exc c (h.take n0)
 |.ok fl h => match fl with
  |.ret w => match i5 h n0 w with
   |some u=>.ok u (h.take n0)
   |none => .stuck
  |.nx _=>.ok .non (h.take n0)
  |_ => .stuck
noncomputable def finO(n0:Nat)(r:Res Fl):Res W:=match r with
 |.ok (.ret (.ref n)) h=>if n<n0 then .ok (.ref n) (h.take n0) else match h[n]? with
  |some (.lst ws)=>.ok (.ref n0) (h.take n0++[.lst ws])
  |_=>.stuck
 |r=>fin n0 r
noncomputable def ef(cf:CF)(σ:ag):List (Bool×E)->aa->Res (List W)
 |[],h=>.ok [] h
 |(false,e)::r,h=>bnd (evE cf e σ h) λw h=>bnd (ef cf σ r h) λws h=>.ok (w::ws) h
 |(true,e)::r,h=>bnd (evF cf e σ h) λus h=>if ah us then bnd (ef cf σ r (h++[.lst us])) λws h'=>.ok (.ref h.length::ws) h' else .stuck
noncomputable def ae(fw:Nat)(tb:List Fn):Nat->CF
 |0=>λ_ _ _=>.stuck
 |d+1=>λf ws h=>match tb[f]? with
  |some g=>if ws.length=g.np then fin h.length (aA (ae fw tb d) fw g.body (ws.map some++List.replicate (g.ns-g.np) none) h) else .stuck
  |none=>match tb[f-1000]? with
   |some g=>if 1000<=f/\ws.length=g.np then finO h.length (aA (ae fw tb d) fw g.body (ws.map some++List.replicate (g.ns-g.np) none) h) else .stuck
   |none=>match tb[f-2000]? with
    |some g=>match g.ini with
     |some (c,fl)=>if 2000<=f/\ws.length+1=g.np then bnd (ef (ae fw tb d) (none::ws.map some) fl h) λus h=>.ok (.ins c us) h else .stuck
     |none=>.stuck
    |none=>.stuck
end
section
variable {K:Fg0}{ρ:List Addr}{H:Hp}{h:aa}
theorem HRel.trk(r:HRel K ρ h H)(m:a∈ρ):∃o,H a=some o:=by
 obtain⟨n,hn,e⟩:=List.getElem_of_mem m;have hl:n<h.length:=by rw[<- r.len];lia
 have q:=r.at_ n a h[n] (by simp_all) (zJ hl);cases e2:h[n] with
 |lst ws=>rw[e2]at q;obtain⟨_,xs,z,_⟩:=q;simp_all
 |dic ks ws=>rw[e2]at q;obtain⟨_,xs,z,_⟩:=q;simp_all
theorem HRel.new(r:HRel K ρ h H)(n:H a=none):a∉ρ:=λm=>by
 obtain⟨o,e⟩:=r.trk m
 grind
theorem ext_new{a:Addr}{o:HO}(r:HRel K ρ h H)(n:H a=none):Ext ρ H ρ (aW H a o) :=
 ⟨List.prefix_refl _,λb u e _=>.inl (by rw[a6 (aX e n)];lia),λ_ _ _ z=>z⟩
theorem ObRel.ext{ρ':List Addr}{H':Hp}{a:Addr}{o:Ob}(x:Ext ρ H ρ' H')(k:∀u,H a=some u->H' a=some u)(q:ObRel K ρ H a o):ObRel K ρ' H' a o:=by
 cases o with
 |lst ws=>obtain⟨p,xs,e,r⟩:=q;exact⟨p,xs,k _ e,RelL.ext x ws xs r⟩
 |dic ks ws=>obtain⟨p,xs,e,l,r⟩:=q;exact⟨p,xs,k _ e,l,RelL.ext x ws xs r⟩
theorem HRel.ext_new{a:Addr}{o:HO}(r:HRel K ρ h H)(n:H a=none):HRel K ρ h (aW H a o) :=
 ⟨r.len,r.nd,λm b u e1 e2=>(r.at_ m b u e1 e2).ext (J.ext_new r n) λv e=>by rw[a6 (aX e n)];lia⟩
theorem ext_cell{a:Addr}{o:HO}(r:HRel K ρ h H)(n:H a=none):Ext ρ H (ρ++[a]) (aW H a o) :=
 ⟨List.prefix_append _ _,λb u e _=>.inl (by rw[a6 (aX e n)];lia),λb u e z m=>by simp_all⟩
theorem HRel.cell{a:Addr}{ws:List W}{xs:List V}(r:HRel K ρ h H)(n:H a=none)(p:ah ws=true)(q:RelL K ρ H ws xs):HRel K (ρ++[a]) (h++[.lst ws]) (aW H a (.lst xs)):=by
 have x:=J.ext_cell (o:=.lst xs) r n;refine⟨by simp[r.len],?_,λm b u e1 e2=>?_⟩;rw[Zw];refine⟨r.nd,ZzS,λb hb c hc=>?_⟩;rw[zP.mp hc];rintro rfl;exact r.new n hb;by_cases hm:m<ρ.length;rw[zI hm]at e1;rw[zI (by rw[<- r.len];exact hm)]at e2;exact(r.at_ m b u e1 e2).ext x λv e=>by rw[a6 (aX e n)];exact e
 rw[zK (by simp_all)]at e1;rw[zK (by have:=r.len;lia)]at e2;have h0:m-ρ.length=0:=by grind
 rw[h0]at e1;rw[show m-h.length=0 by have:=r.len;lia]at e2;simp at e1 e2;subst e1;subst e2;exact⟨p,xs,aE,RelL.ext x ws xs q⟩
theorem ext_write{n:Nat}{a:Addr}{o:HO}(e:ρ[n]?=some a):Ext ρ H ρ (aW H a o) :=
 ⟨List.prefix_refl _,λb u q z=>.inl (by
  have hb:b≠a:=by rintro rfl;exact z (zC e)
  rw[a6 hb];lia),λ_ _ _ z=>z⟩
theorem HRel.write(r:HRel K ρ h H)(e:ρ[n]?=some a)(p:ah ws=true)(q:RelL K ρ H ws xs):HRel K ρ (h.set n (.lst ws)) (aW H a (.lst xs)):=by
 have x:=J.ext_write (H:=H) (o:=.lst xs) e;refine⟨by simp[r.len],r.nd,λm b u e1 e2=>?_⟩;by_cases hm:n=m;subst hm;rw[e]at e1;cases e1;rw[zZ (by rw[<- r.len];grind)]at e2;cases e2;exact⟨p,xs,aE,RelL.ext x ws xs q⟩;rw[zY hm]at e2;refine(r.at_ m b u e1 e2).ext x λv hv=>?_;have hb:b≠a:=by rintro rfl;exact hm ((List.getElem?_inj (ze.mp e).1 r.nd).mp (e.trans e1.symm))
 rw[a6 hb];exact hv
theorem HRel.cellD(r:HRel K ρ h H)(n:H a=none):HRel K (ρ++[a]) (h++[.dic [] []]) (aW H a (.dK [])):=by
 have x:=J.ext_cell (o:=.dK []) r n;refine⟨by simp[r.len],?_,λm b u e1 e2=>?_⟩;rw[Zw];refine⟨r.nd,ZzS,λb hb c hc=>?_⟩;rw[zP.mp hc];rintro rfl;exact r.new n hb;by_cases hm:m<ρ.length;rw[zI hm]at e1;rw[zI (by rw[<- r.len];exact hm)]at e2;exact(r.at_ m b u e1 e2).ext x λv e=>by rw[a6 (aX e n)];exact e
 rw[zK ZzL]at e1;rw[zK (by have:=r.len;lia)]at e2;have h0:m-ρ.length=0:=by grind
 rw[h0]at e1;rw[show m-h.length=0 by have:=r.len;lia]at e2;simp at e1 e2;subst e1;subst e2;exact⟨rfl,[],aE,rfl,.nil⟩
theorem HRel.writeD(r:HRel K ρ h H)(e:ρ[n]?=some a)(p:ah ws=true)(l:ks.length=xs.length)(q:RelL K ρ H ws xs):HRel K ρ (h.set n (.dic ks ws)) (aW H a (.dK ((ks.map Sum.inr).zip xs))):=by
 have x:=J.ext_write (H:=H) (o:=.dK ((ks.map Sum.inr).zip xs)) e;refine⟨by simp[r.len],r.nd,λm b u e1 e2=>?_⟩;by_cases hm:n=m;subst hm;rw[e]at e1;cases e1;rw[zZ (by rw[<- r.len];grind)]at e2;cases e2;exact⟨p,xs,aE,l,RelL.ext x ws xs q⟩;rw[zY hm]at e2;refine(r.at_ m b u e1 e2).ext x λv hv=>?_;have hb:b≠a:=by rintro rfl;exact hm ((List.getElem?_inj (ze.mp e).1 r.nd).mp (e.trans e1.symm))
 rw[a6 hb];exact hv
theorem bL(r:HRel K ρ h H)(e:aY h w=some (ks,ws))(q:Rel K ρ H w v):∃a xs,v=.ref a/\Rd H a (.dK ((ks.map Sum.inr).zip xs))/\ks.length=xs.length/\RelL K ρ H ws xs:=by
 cases w with
 |dic ks' ws'=>rw[Rel]at q;obtain⟨a,xs,e1,_,e2,e3,e4⟩:=q;cases (zW e);exact⟨a,xs,e1,e2,e3,e4⟩
 |ref n=>
  obtain⟨a,e1,e2⟩:=q;have e':(match h[n]? with|some (.dic ks ws)=>some (ks,ws)|_=>none)=some (ks,ws):=e;split at e'<;>try (cases e';done)
  rename_i us vs e3;cases e';obtain⟨_,xs,z,zl,zr⟩:=r.at_ n a _ e2 e3;exact⟨a,xs,e1,.inl z,zl,zr⟩
 |_=>cases e
theorem iS{x:Str}:∀{ks:List Str}{ws:List W}{xs:List V},ks.length=xs.length->RelL K ρ H ws xs->(∀w,dF ks ws x=some w->∃v,iE ((ks.map Sum.inr).zip xs) (Sum.inr x:bT)=some v/\Rel K ρ H w v)/\(dF ks ws x=none->iE ((ks.map Sum.inr).zip xs) (Sum.inr x:bT)=none)
 |[],ws,xs,l,r=>⟨λw e=>(by cases e),λ_=>rfl⟩
 |k::ks,[],xs,l,r=>by rw[RelL]at r;subst r;cases l
 |k::ks,w::ws,xs,l,r=>by obtain⟨y,ys,rfl,r1,r2⟩:=r;have ih:=iS (x:=x) (ks:=ks) (ws:=ws) (xs:=ys) (by simpa using l) r2;rw[zO,Z7];unfold dF;by_cases hk:k=x;subst hk;rw[zF rfl,iZ rfl];simp_all;rw[zM hk,ja (by simp_all)];exact ih
theorem nD(l:ks.length=xs.length)(r:RelL K ρ H ws xs):(dF ks ws x).isSome=(iE ((ks.map Sum.inr).zip xs) (Sum.inr x:bT)).isSome:=by
 obtain⟨h1,h2⟩:=iS  l r;cases e:dF ks ws x with
 |none=>rw[h2 e];rfl
 |some w=>grind
theorem qT{x:Str}{w:W}{v:V}{ks:List Str}{ws:List W}{xs:List V}(l:ks.length=xs.length)(r:RelL K ρ H ws xs)(rv:Rel K ρ H w v) :
  ∃ys,gA ((ks.map Sum.inr).zip xs) (Sum.inr x:bT) v=(((dO ks ws x w).1).map Sum.inr).zip ys/\(dO ks ws x w).1.length=ys.length/\RelL K ρ H (dO ks ws x w).2 ys:=by
 have any_eq:∀{ks:List Str}{xs:List V},ks.length=xs.length->(((ks.map Sum.inr).zip xs).any λkv=>decide (kv.1=(Sum.inr x:bT)))=ks.any λk=>decide (k=x):=by
  intro ks;induction ks with
  |nil=>intro xs _;rfl
  |cons k ks ih=>
   intro xs l;cases xs with
   |nil=>cases l
   |cons y ys=>rw[zO,Z7,zzp,zzp,ih (by simpa using l)];congr 1;simp
 have set_eq:∀{ks:List Str}{ws:List W}{xs:List V},ks.length=xs.length->RelL K ρ H ws xs->∃ys,((ks.map Sum.inr).zip xs).map (λkv=>if kv.1=(Sum.inr x:bT) then(kv.1,v) else kv)=(ks.map Sum.inr).zip ys/\ks.length=ys.length/\RelL K ρ H (oV ks ws x w) ys:=by
  intro ks;induction ks with
  |nil=>intro ws xs l r;cases xs with
   |nil=>exact⟨[],rfl,rfl,by unfold oV;exact r⟩
   |cons y ys=>cases l
  |cons k ks ih=>
   intro ws xs l r;cases ws with
   |nil=>rw[RelL]at r;subst r;cases l
   |cons u ws=>rw[RelL]at r;obtain⟨y,ys,rfl,r1,r2⟩:=r;obtain⟨zs,e1,e2,e3⟩:=ih (ws:=ws) (xs:=ys) (by simpa using l) r2;rw[zO,Z7,zO,e1];unfold oV;by_cases hk:k=x;subst hk;rw[zF rfl,zF rfl];exact⟨v::zs,rfl,by simp[e2],.cons rv e3⟩;rw[zM hk,zM (by intro z;exact hk (Sum.inr.inj z))];exact⟨y::zs,rfl,by simp[e2],.cons r1 e3⟩
 unfold gA dO
 rw[any_eq l]
 by_cases ha:(ks.any λk=>decide (k=x))=true
 ·rw[zF ha,zF ha]
  exact set_eq l r
 ·rw[zM ha,zM ha]
  refine⟨xs++[v],?_,by simp[l],r.append (.cons rv .nil)⟩
  rw[Zc,List.zip_append (by simp[l])]
  rfl
theorem gy{w:W}{v:V}{ws:List W}(r:HRel K ρ h H)(e:seqL h w=some ws)(q:Rel K ρ H w v):∃a xs,v=.ref a/\iI K H a xs/\RelL K ρ H ws xs:=by
 cases w with
 |lst us=>rw[Rel]at q;obtain⟨a,xs,e1,_,e2,e3⟩:=q;cases (show us=ws from zW e);exact⟨a,xs,e1,.inl (.inl e2),e3⟩
 |scr us=>rw[Rel]at q;obtain⟨a,xs,e1,e2,e3⟩:=q;cases (zW e);exact⟨a,xs,e1,e2.sq,e3⟩
 |ref n=>
  rw[Rel]at q;obtain⟨a,e1,e2⟩:=q;have e':(match h[n]? with|some (.lst ws)=>some ws|_=>none)=some ws:=e;split at e'<;>try (cases e';done)
  rename_i us e3;cases e';obtain⟨_,xs,z,zr⟩:=r.at_ n a _ e2 e3;exact⟨a,xs,e1,.inl (.inl z),zr⟩
 |_=>cases e
theorem bS{w:W}{v:V}{ws:List W}(r:HRel K ρ h H)(e:seqM h w=some ws)(q:Rel K ρ H w v):∃a xs,v=.ref a/\H a=some (.lst xs)/\RelL K ρ H ws xs:=by
 cases w with
 |lst us=>rw[Rel]at q;obtain⟨a,xs,e1,_,e2,e3⟩:=q;cases (show us=ws from zW e);simp_all
 |ref n=>
  rw[Rel]at q;obtain⟨a,e1,e2⟩:=q;have e':(match h[n]? with|some (.lst ws)=>some ws|_=>none)=some ws:=e;split at e'<;>try (cases e';done)
  rename_i us e3;cases e';obtain⟨_,xs,z,zr⟩:=r.at_ n a _ e2 e3;simp_all
 |_=>cases e
theorem xS(e:eK w=some ws)(q:Rel K ρ H w v):∃a xs,v=.ref a/\jQ K H a xs/\RelL K ρ H ws xs:=by
 cases w with
 |tup us=>obtain⟨a,xs,e1,e2,e3⟩:=q;cases (zW e);exact⟨a,xs,e1,e2.sq,e3⟩
 |_=>cases e
theorem dQ(r:HRel K ρ h H)(e:seqA h w=some ws)(q:Rel K ρ H w v):∃a xs,v=.ref a/\(iI K H a xs\/jQ K H a xs)/\RelL K ρ H ws xs:=by
 unfold seqA at e;cases e1:eK w with
 |some us=>rw[e1]at e;cases e;obtain⟨a,xs,h1,h2,h3⟩:=xS e1 q;exact⟨a,xs,h1,.inr h2,h3⟩
 |none=>rw[e1]at e;obtain⟨a,xs,h1,h2,h3⟩:=gy r e q;exact⟨a,xs,h1,.inl h2,h3⟩
end
section
variable {X:Cx}{EX:cb}{cf:CF}{pos:Pos}
def rW(K:Fg0)(EX:cb)(f:W->W->aa->Res W):R2:=λx y H Q =>
 ∃ρ h w1 w2,HRel K ρ h H/\Rel K ρ H w1 x/\Rel K ρ H w2 y/\RQ K EX ρ H (f w1 w2 h) λw _ ρ' H'=>∀v,Rel K ρ' H' w v->Q v H'
theorem Mi{K:Fg0}
  (q:tI K EX (λσ h=>bnd (ea σ h) λx h=>bnd (eb σ h) λy h=>f x y h) τ H Q) :
  IH (rW K EX f) (tI K EX ea) (tI K EX eb) τ H Q:=by
 obtain⟨ρ,σ,h,re,hr,q⟩:=q
 exact⟨ρ,σ,h,re,hr,q.bnd.mono λw1 h1 ρ1 H1 x1 hr1 q1 v1 r1=>(⟨ρ1,σ,h1,re.ext x1,hr1,q1.bnd.mono λw2 h2 ρ2 H2 x2 hr2 q2 v2 r2=>(⟨ρ2,h2,w1,w2,hr2,Rel.ext x2 _ _ r1,r2,q2⟩)⟩)⟩
theorem one{K:Fg0}{f:W->aa->Res W}
  (q:tI K EX (λσ h=>bnd (ea σ h) λx h=>f x h) τ H Q) :
  tI K EX ea τ H λx H1=>∃ρ h w1,HRel K ρ h H1/\Rel K ρ H1 w1 x/\RQ K EX ρ H1 (f w1 h) λw _ ρ' H'=>∀v,Rel K ρ' H' w v->Q v H':=by
 obtain⟨ρ,σ,h,re,hr,q⟩:=q
 exact⟨ρ,σ,h,re,hr,q.bnd.mono λw1 h1 ρ1 H1 x1 hr1 q1 v1 r1=>⟨ρ1,h1,w1,hr1,r1,q1⟩⟩
theorem wQ:PE X (.Constant (.int i) j pos) (tI X.K EX (evE cf (.con (.int i)))):=pe_int.sub λτ H Q zq=>by obtain⟨ρ,σ,h,re,hr,q⟩:=zq;exact RQ.here hr q _ (rfl)
theorem Aw:PE X (.Constant (.bool b) j pos) (tI X.K EX (evE cf (.con (.bl b)))):=pe_bl.sub λτ H Q zq=>by obtain⟨ρ,σ,h,re,hr,q⟩:=zq;exact RQ.here hr q _ (rfl)
theorem wg:PE X (.Constant (.str s) j pos) (tI X.K EX (evE cf (.con (.str s)))):=pe_str.sub λτ H Q zq=>by obtain⟨ρ,σ,h,re,hr,q⟩:=zq;exact RQ.here hr q _ (rfl)
theorem wU:PE X (.Constant .none j pos) (tI X.K EX (evE cf (.con .non))):=pe_non.sub λτ H Q zq=>by obtain⟨ρ,σ,h,re,hr,q⟩:=zq;exact RQ.here hr q _ (rfl)
theorem G7(hg:Gl X x)(hm:X.mg x=some u)(r:RelV v u)(rw':∀ρ H,Rel X.K ρ H w v)(hd:(x==("__debug__"))=false):PE X (.Name x pos) (tI X.K EX (evE cf (.con w))) :=
 (uX hg hm r hd).sub λτ H Q zq=>by obtain⟨ρ,σ,h,re,hr,q⟩:=zq;exact RQ.here hr q _ (rw' _ _)
theorem LS(hN:X.N[i]?=some x)(hv:va X.env.scope x)(hd:(x==("__debug__"))=false)(hcd:(x==("__classdict__"))=false) :
  PE X (.Name x pos) (tI X.K EX (evE cf (.var i))):=(eN hN hv hd hcd).sub λτ H Q zq=>by
 obtain⟨ρ,σ,h,re,hr,q⟩:=zq
 rw[evE]at q
 split at q
 ·rename_i w e
  obtain⟨v,h1,h2⟩:=re.at_ i w e
  exact⟨v,h1,RQ.here hr q v h2⟩
 ·exact q.elim
variable {a b:Expr}{ea eb:ag->aa->Res W}
theorem Jl(ho:gq X (binaryOp op) (rW X.K EX (ip op)))(ha:PE X a (tI X.K EX (evE cf a')))(hb:PE X b (tI X.K EX (evE cf b'))) :
 PE X (.BinOp a op b pos) (tI X.K EX (evE cf (.bin op a' b'))):=(uO ho ha hb).sub λτ H Q q=>Mi (by assumption)
theorem y0(h:eR i j=true):PySem.IntMulOk i j:=by rw[gP]at h;unfold sU at h;rw[zzh]at h;rcases h with h|h;rcases Zd h with⟨h1,h2⟩|⟨h1,h2⟩;exact .of_left (intBits_le_64 h1 h2);exact .of_right (intBits_le_64 h1 h2);exact PyProof.Rows.mulOk_of_bits (zD _) (zD _) (Zd h)
theorem BB:gq X (binaryOp .Mult) (rI (λi j=>eR i j=true) λi j=>.int (i*j)):=L2.opI λ_ _ _ _ _ _ _ hc q=>mul_int q (y0 hc)
theorem xM:gq X (binaryOp .FloorDiv) (rI (λ_ j=>j≠0/\j.natAbs.log2<9000) λi j=>.int (i.fdiv j)):=L2.opI λ_ _ _ _ _ _ _ hc q=>floordiv_int hc.1 q (.inl (PyProof.noPylong_of_log2 hc.2))
theorem az{K:Fg0}(h:Rel K ρ H (.int i) v):v=.int i:=h
theorem aB{K:Fg0}(h:Rel K ρ H (.str i) v):v=.str i:=h
theorem bP{K:Fg0}(h:Rel K ρ H (.bl i) v):v=.bl i:=h
theorem km{K:Fg0}(h:Rel K ρ H .non v):v=.non:=h
theorem bh{K:Fg0}:Rel K ρ H (.int i) (.int i):=rfl
theorem gB{K:Fg0}:Rel K ρ H (.str i) (.str i):=rfl
theorem bu{K:Fg0}:Rel K ρ H (.bl i) (.bl i):=rfl
theorem lh{K:Fg0}:Rel K ρ H .non .non:=rfl
theorem HZ{K:Fg0}{a:Addr}(hr:HRel K ρ h H)(n:H a=none)(r:RelL K ρ H ws xs):Rel K ρ (aW H a (.tup xs)) (.tup ws) (.ref a):=⟨a,xs,rfl,.inl ⟨hr.new n,.inl aE⟩,RelL.ext (ext_new hr n) _ _ r⟩
theorem Gu{K:Fg0}{a:Addr}(hr:HRel K ρ h H)(n:H a=none)(r:RelL K ρ H ws xs):Rel K ρ (aW H a (.lst xs)) (.lst ws) (.ref a):=⟨a,xs,rfl,hr.new n,aE,RelL.ext (ext_new hr n) _ _ r⟩
theorem RQ.tup{K:Fg0}{Q:VK}(hr:HRel K ρ h H)(r:RelL K ρ H ws xs)
  (q:RQ K EX ρ H (.ok (.tup ws) h) λw _ ρ' H'=>∀v,Rel K ρ' H' w v->Q v H'):∀p,H p=none->Q (.ref p) (aW H p (.tup xs)):=λp n =>
 q ρ _ (ext_new hr n) (hr.ext_new n) _ (HZ hr n r)
theorem RQ.lst{K:Fg0}{Q:VK}(hr:HRel K ρ h H)(r:RelL K ρ H ws xs)
  (q:RQ K EX ρ H (.ok (.lst ws) h) λw _ ρ' H'=>∀v,Rel K ρ' H' w v->Q v H'):∀p,H p=none->Q (.ref p) (aW H p (.lst xs)):=λp n =>
 q ρ _ (ext_new hr n) (hr.ext_new n) _ (Gu hr n r)
theorem wY(h:x.length<=1000/\-1000<=n/\n<=1000):PySem.MulOk x n:=by
 obtain⟨h1,h2,h3⟩:=h
 refine⟨?_,λh4 _=>?_,λh4 _=>?_⟩
 ·grind
 ·have h6:(1000:Int)<=(2^63-1)/n:=Int.le_ediv_of_mul_le ZzL ZzL
  lia
 ·have h6:x.length*n.toNat<=1000*1000:=Z8 h1 ZzL
  exact zV (by rw[Zj];lia)
theorem D5{E:Value->Shared->Prop}{t b:Addr}{vs us:List Value}(ht:IsTup s.heap t vs.toArray)(hb:IsTup s.heap b us.toArray)(hv:vs=[])
  (h:Q (.ref b) s):wpAny (model prog w) A (binaryOp .Add (.ref t) (.ref b)) Q E s:=by
 obtain⟨⟨c1,d1,o1,l1⟩,h1,k1,n1,z1⟩:=id ht
 obtain⟨⟨c2,d2,o2,l2⟩,h2,k2,n2,z2⟩:=id hb
 subst k1 z1 k2 z2
 exact concat_meets ⟨_,h1,rfl⟩ ⟨_,h2,rfl⟩ noFill_tuple_add seq_tuple_add zz7 zz4 (zzV _ _) (tuple_addW0 t b vs.toArray us.toArray n1 n2 d1 d2 l1 l2 (by simp_all)) ⟨h1,h2,h⟩
theorem GL(op:Operator):gq X (binaryOp op) (rW X.K EX (ip op)):=by
 intro pins s σ H x y v u Q I rx ry zq12
 obtain⟨ρ,h,w1,w2,hr,r1,r2,q⟩:=zq12
 unfold ip at q
 split at q
 ·-- ints
  rename_i i j
  cases az r1;cases az r2
  unfold lT at q
  cases op with
  |Add=>exact G2 pins s σ H _ _ v u Q I rx ry ⟨i,j,rfl,rfl,RQ.here hr q _ bh⟩
  |Sub=>exact Gj pins s σ H _ _ v u Q I rx ry ⟨i,j,rfl,rfl,RQ.here hr q _ bh⟩
  |Mult =>
   dsimp only at q
   split at q
   ·rename_i hm;exact BB pins s σ H _ _ v u Q I rx ry ⟨i,j,rfl,rfl,hm,RQ.here hr q _ bh⟩
   ·exact q.elim
  |FloorDiv =>
   dsimp only at q
   split at q
   ·rename_i hm;exact xM pins s σ H _ _ v u Q I rx ry ⟨i,j,rfl,rfl,hm,RQ.here hr q _ bh⟩
   ·exact q.elim
  |Mod =>
   dsimp only at q
   split at q
   ·rename_i hm;exact Dn pins s σ H _ _ v u Q I rx ry ⟨i,j,rfl,rfl,hm,RQ.here hr q _ bh⟩
   ·exact q.elim
  |Pow =>
   dsimp only at q
   split at q
   ·rename_i hm;exact Gy pins s σ H _ _ v u Q I rx ry ⟨i,j,rfl,rfl,hm,RQ.here hr q _ bh⟩
   ·exact q.elim
  |_=>exact q.elim
 ·rename_i i j
  cases aB r1;cases aB r2
  split at q
  ·split at q
   ·rename_i hm;exact rR pins s σ H _ _ v u Q I rx ry ⟨i,j,rfl,rfl,hm,RQ.here hr q _ gB⟩
   ·exact q.elim
  ·exact q.elim
 ·rename_i z n
  cases aB r1;cases az r2
  split at q
  ·split at q
   ·rename_i hm
    obtain⟨t,rfl⟩:=rx
    obtain⟨t',rfl⟩:=ry
    exact PySem.SB.mul (wY hm) λt' k=>⟨.str _,H,I.tok _,⟨_,rfl⟩,RQ.here hr q _ gB⟩
   ·exact q.elim
  ·exact q.elim
 ·rename_i ws us
  split at q
  ·rw[Rel]at r1 r2
   obtain⟨a,xs,rfl,q1,s1⟩:=r1
   obtain⟨b,ys,rfl,q2,s2⟩:=r2
   unfold cX Mq at q
   dsimp only at q
   split at q
   ·rename_i hm
    cases ws with
    |nil =>
     have e0:=s1.length
     cases xs with
     |cons _ _=>cases e0
     |nil =>
     cases rx
     cases ry
     obtain⟨its,l1,p1,_⟩:=I.tuple q1.sq
     obtain⟨its2,l2,p2,_⟩:=I.tuple q2.sq
     refine D5 p1 p2 (l1.nil_iff.mpr rfl) ⟨.ref b,H,I,rfl,?_⟩
     refine RQ.here hr q _ ?_
     rw[zzf,Rel]
     exact⟨b,ys,rfl,q2,s2⟩
    |cons w0 ws0 =>
    refine(Cd (X:=X)) pins s σ H _ _ v u Q I rx ry ⟨a,b,xs,ys,rfl,rfl,q1.sq,q2.sq,?_,by rw[<- s1.length,<- s2.length];exact hm,λe=>?_,λ_=>RQ.tup hr (s1.append s2) q⟩
    ·intro e
     have:=s1.length
     rw[e]at this
     cases this
    ·subst e
     have:=s2.length
     cases us with
     |nil =>
      refine RQ.here hr q _ ?_
      rw[Zf,Rel]
      exact⟨a,xs,rfl,q1,s1⟩
     |cons w ws=>simp at this
   ·exact q.elim
  ·exact q.elim
 ·rename_i j _ _
  split at q
  ·cases az r2
   unfold BJ at q
   cases e:seqM h w1 with
   |none=>rw[e]at q;exact q.elim
   |some ws =>
    rw[e]at q
    unfold wR at q
    dsimp only at q
    split at q
    ·rename_i hm
     obtain⟨a,xs,rfl,e1,s1⟩:=bS hr e r1
     exact(xP (X:=X)) pins s σ H _ _ v u Q I rx ry ⟨a,j,xs,rfl,rfl,e1,hm.1,hm.2.1,by rw[<- s1.length];exact hm.2.2,RQ.lst hr (s1.flatrep _) q⟩
    ·exact q.elim
  ·exact q.elim
 ·split at q
  ·unfold BJ at q
   cases e:seqM h w1 with
   |none=>rw[e]at q;exact q.elim
   |some ws =>
    cases e':seqM h w2 with
    |none=>rw[e,e']at q;exact q.elim
    |some us =>
     rw[e,e']at q
     unfold cX at q
     dsimp only at q
     split at q
     ·rename_i hm
      obtain⟨a,xs,rfl,e1,s1⟩:=bS hr e r1
      obtain⟨b,ys,rfl,e2,s2⟩:=bS hr e' r2
      exact(sj (X:=X)) pins s σ H _ _ v u Q I rx ry ⟨a,b,xs,ys,rfl,rfl,e1,e2,by rw[<- s1.length,<- s2.length];exact hm,RQ.lst hr (s1.append s2) q⟩
     ·exact q.elim
  ·exact q.elim
end
section
variable {X:Cx}{EX:cb}{cf:CF}{pos:Pos}{a b c:Expr}{a' b' c':E}
mutual
theorem pN{pins:List (Addr×Obj)}{σ:L2.St}{H:Hp}{s:Shared}(I:Inv X pins σ H s){ρ:List Addr}:∀(w:W) (v:V) (u:Value),wd w=true->Rel X.K ρ H w v->RelV v u->∃as,Reads s.heap u (iq w) as
 |.non,v,u,_,r,q=>by cases km r;cases q;exact⟨_,.none⟩
 |.bl b,v,u,_,r,q=>by cases bP r;cases q;exact⟨_,.bool b⟩
 |.int i,v,u,_,r,q=>by cases az r;obtain⟨t,rfl⟩:=q;exact⟨_,.int i t⟩
 |.str i,v,u,_,r,q=>by cases aB r;obtain⟨t,rfl⟩:=q;exact⟨_,.str i t⟩
 |.tup ws,v,u,ok,r,q=>by rw[Rel]at r;rw[wd]at ok;obtain⟨a,xs,rfl,hq,rs⟩:=r;cases q;obtain⟨its,rv,⟨o,ho,hc,n,hd⟩,hz⟩:=I.tuple hq.sq;obtain⟨as,ra⟩:=eP I ws xs its ok rs rv;exact⟨as,by rw[iq];exact .tuple ho hc hd (by simpa using ra)⟩
 |.lst ws,v,u,ok,r,q=>by rw[Rel]at r;rw[wd]at ok;obtain⟨a,xs,rfl,_,hq,rs⟩:=r;cases q;obtain⟨its,rv,⟨o,n,ho,hc,_,hd⟩,hz⟩:=I.list (.inl (.inl hq));obtain⟨as,ra⟩:=eP I ws xs its ok rs rv;exact⟨_,by rw[iq];exact .list ho hc hd (by simpa using ra)⟩
 |.scr ws,v,u,ok,r,q=>by rw[Rel]at r;rw[wd]at ok;obtain⟨a,xs,rfl,hq,rs⟩:=r;cases q;obtain⟨its,rv,⟨o,n,ho,hc,_,hd⟩,hz⟩:=I.list hq.sq;obtain⟨as,ra⟩:=eP I ws xs its ok rs rv;exact⟨_,by rw[iq];exact .list ho hc hd (by simpa using ra)⟩
 |.dic _ _,v,u,ok,r,q=>by rw[wd]at ok;cases ok
 |.ref _,v,u,ok,r,q=>by rw[wd]at ok;cases ok
 |.ins _ _,v,u,ok,r,q=>by rw[wd]at ok;cases ok
theorem eP{pins:List (Addr×Obj)}{σ:L2.St}{H:Hp}{s:Shared}(I:Inv X pins σ H s){ρ:List Addr}:∀(ws:List W) (xs:List V) (us:List Value),m3 ws=true->RelL X.K ρ H ws xs->Vals xs us->∃as,ReadsAll s.heap us (iu ws) as
 |[],xs,us,_,r,q=>by rw[RelL]at r;subst r;cases q;exact⟨[],by rw[iu];exact .nil⟩
 |w::ws,xs,us,ok,r,q=>by
  rw[RelL]at r;rw[m3,zE]at ok;obtain⟨y,ys,rfl,r1,r2⟩:=r;cases q with
  |cons q1 q2=>obtain⟨as,ra⟩:=pN I w y _ ok.1 r1 q1;obtain⟨bs,rb⟩:=eP I ws ys _ ok.2 r2 q2;exact⟨_,by rw[iu];exact .cons ra rb⟩
end
theorem eG{pins:List (Addr×Obj)}{σ:L2.St}{H:Hp}{s:Shared}(I:Inv X pins σ H s){ρ:List Addr}{h:aa}{w w':W}{v:V}{u:Value}(hr:HRel X.K ρ h H)(e:dP h w=some w')(r:Rel X.K ρ H w v)(q:RelV v u):∃as,Reads s.heap u (iq w') as:=by
 have plain:∀(z:dP h w=if wd w then some w else none),∃as,Reads s.heap u (iq w') as:=λz=>by rw[z]at e;split at e;rename_i ok;cases e;exact pN I w v u ok r q;cases e
 cases w with
 |ref n=>
  have e':(match h[n]? with|some (.lst ws)=>if m3 ws then some (W.lst ws) else none|_=>none)=some w':=e;split at e'<;>try (cases e';done)
  rename_i ws e3;split at e';rename_i ok;cases e';obtain⟨l,xs,rfl,hx,rs⟩:=bS  (ws:=ws) hr (by show(match h[n]? with|some (.lst ws)=>some ws|_=>none)=some ws;rw[e3]) r;cases q;obtain⟨its,rv,⟨o,n,ho,hc,_,hd⟩,hz⟩:=I.list (.inl (.inl hx));obtain⟨as,ra⟩:=eP I ws xs its ok rs rv;exact⟨_,by rw[iq];exact .list ho hc hd (by simpa using ra)⟩;cases e'
 |non=>exact plain rfl
 |bl k=>exact plain rfl
 |int k=>exact plain rfl
 |str k=>exact plain rfl
 |tup k=>exact plain rfl
 |lst k=>exact plain rfl
 |scr k=>exact plain rfl
 |dic k l=>exact plain rfl
 |ins k l=>exact plain rfl
theorem qF{K:Fg0}(e:B8 h x y=some k)(r1:Rel K ρ H x v)(r2:Rel K ρ H y u):(HF v u=true/\decide (v=u)=k) \/
  ∃a b,dP h x=some a/\dP h y=some b/\SeqAt.shaped (iq a)=true/\SeqAt.shaped (iq b)=true/\PyData.eqv (iq a) (iq b)=k:=by
 unfold B8 at e
 split at e
 ·rename_i i j
  cases az r1;cases az r2;cases e
  exact .inl ⟨rfl,ZzS⟩
 ·rename_i i j
  cases bP r1;cases bP r2;cases e
  exact .inl ⟨rfl,ZzS⟩
 ·rename_i i j
  cases aB r1;cases aB r2;cases e
  exact .inl ⟨rfl,ZzS⟩
 ·split at e
  ·simp_all
  ·cases e
theorem lB{K:Fg0}(f:dN w=true)(r:Rel K ρ H w v):v=sQ w:=by
 cases w with
 |non=>assumption
 |bl b=>assumption
 |int b=>assumption
 |str b=>assumption
 |_=>cases f
theorem jE{K:Fg0}{ρ:List Addr}{H:Hp}:∀{ws:List W}{xs:List V},ws.all dN=true->RelL K ρ H ws xs->xs=ws.map sQ
 |[],xs,_,r=>by assumption
 |w::ws,xs,f,r=>by rw[ZB,zE]at f;obtain⟨y,ys,rfl,r1,r2⟩:=r;rw[lB f.1 r1,jE f.2 r2];rfl
theorem kU(f:dN w=true):ia (sQ w)=true:=by
 cases w with
 |non=>rfl
 |bl b=>rfl
 |int b=>rfl
 |str b=>rfl
 |_=>rfl
theorem j1:∀{ws:List W},ws.all dN=true->(ws.map sQ).all ia=true
 |[],_=>rfl
 |w::ws,f=>by rw[ZB,zE]at f;rw[zO,ZB,kU f.1,j1 f.2];rfl
theorem mD{K:Fg0}(r:Rel K ρ H w v):decide (v=.non)=bo w:=by
 cases w with
 |non=>cases km r;rfl
 |bl b=>cases bP r;rfl
 |int b=>cases az r;rfl
 |str b=>cases aB r;rfl
 |ref n=>obtain⟨a,rfl,_⟩:=r;rfl
 |ins c us=>obtain⟨a,dx,xs,C,rfl⟩:=r;rfl
 |_=>obtain⟨a,xs,rfl⟩:=r;rfl
theorem gT(hu:X.A.units+64<cLine)(op:CmpOp):gq X (compareOp op) (rW X.K EX (bI op)):=by
 intro pins s σ H x y v u Q I rx ry zq12;obtain⟨ρ,h,w1,w2,hr,r1,r2,q⟩:=zq12;unfold bI at q;cases op with
 |Eq=>dsimp only at q;split at q;rename_i k e;rcases qF e r1 r2 with⟨h1,h2⟩|⟨a,b,h1,h2,h3,h4,h5⟩;exact LH pins s σ H _ _ v u Q I rx ry ⟨h1,by rw[h2];exact RQ.here hr q _ bu⟩;obtain⟨as,ra⟩:=eG I hr h1 r1 rx;obtain⟨bs,rb⟩:=eG I hr h2 r2 ry;exact eq_dataH ra rb h3 h4 hu ⟨.bl k,H,I,by rw[h5];rfl,RQ.here hr q _ bu⟩;exact q.elim
 |NotEq=>dsimp only at q;split at q;rename_i k e;rcases qF e r1 r2 with⟨h1,h2⟩|⟨a,b,h1,h2,h3,h4,h5⟩;exact La pins s σ H _ _ v u Q I rx ry ⟨h1,by rw[h2];exact RQ.here hr q _ bu⟩;obtain⟨as,ra⟩:=eG I hr h1 r1 rx;obtain⟨bs,rb⟩:=eG I hr h2 r2 ry;exact ne_dataH ra rb h3 h4 hu ⟨.bl (!k),H,I,by rw[h5];rfl,RQ.here hr q _ bu⟩;exact q.elim
 |Lt=>dsimp only at q;split at q;rename_i i j;cases az r1;cases az r2;exact Lz pins s σ H _ _ v u Q I rx ry ⟨i,j,rfl,rfl,RQ.here hr q _ bu⟩;rename_i i j;cases aB r1;cases aB r2;obtain⟨t,rfl⟩:=rx;obtain⟨t',rfl⟩:=ry;exact PySem.P.lt_str ⟨.bl (i6 i j),H,I,rfl,RQ.here hr q _ bu⟩;exact q.elim
 |LtE=>dsimp only at q;split at q;rename_i i j;cases az r1;cases az r2;exact Mb pins s σ H _ _ v u Q I rx ry ⟨i,j,rfl,rfl,RQ.here hr q _ bu⟩;rename_i i j;cases aB r1;cases aB r2;obtain⟨t,rfl⟩:=rx;obtain⟨t',rfl⟩:=ry;exact PySem.P.le_str ⟨.bl (!i6 j i),H,I,rfl,RQ.here hr q _ bu⟩;exact q.elim
 |Gt=>dsimp only at q;split at q;rename_i i j;cases az r1;cases az r2;exact Lr pins s σ H _ _ v u Q I rx ry ⟨i,j,rfl,rfl,RQ.here hr q _ bu⟩;rename_i i j;cases aB r1;cases aB r2;obtain⟨t,rfl⟩:=rx;obtain⟨t',rfl⟩:=ry;exact PySem.P.gt_str ⟨.bl (i6 j i),H,I,rfl,RQ.here hr q _ bu⟩;exact q.elim
 |GtE=>dsimp only at q;split at q;rename_i i j;cases az r1;cases az r2;exact L3 pins s σ H _ _ v u Q I rx ry ⟨i,j,rfl,rfl,RQ.here hr q _ bu⟩;rename_i i j;cases aB r1;cases aB r2;obtain⟨t,rfl⟩:=rx;obtain⟨t',rfl⟩:=ry;exact PySem.P.ge_str ⟨.bl (!i6 i j),H,I,rfl,RQ.here hr q _ bu⟩;exact q.elim
 |In=>dsimp only at q;unfold rJ at q;split at q;rename_i ks ws e;split at q;rename_i k;cases aB r1;obtain⟨a,xs,rfl,hd,hl,rs⟩:=bL hr e r2;have hdg:nU H a (.str k) (iE ((ks.map Sum.inr).zip xs) (Sum.inr k:bT)):=(.inl ⟨_,Sum.inr k,hd,rfl,rfl⟩);cases ry;refine MI (zzk ZzL hu) I hdg rx λs' I'=>⟨.bl _,H,I',rfl,?_⟩;rw[<- nD hl rs];exact RQ.here hr q _ bu;exact q.elim;rename_i hnd;split at q;rename_i ws e;split at q;rename_i hf;rw[zE]at hf;obtain⟨a,xs,rfl,hq,rs⟩:=dQ hr e r2;have e1:=lB hf.1 r1;have e2:=jE hf.2 rs;subst e1 e2;exact xh pins s σ H _ _ v u Q I rx ry ⟨a,_,rfl,hq,kU hf.1,j1 hf.2,RQ.here hr q _ bu⟩;exact q.elim;exact q.elim
 |NotIn=>dsimp only at q;unfold rJ at q;split at q;rename_i ks ws e;split at q;rename_i k;cases aB r1;obtain⟨a,xs,rfl,hd,hl,rs⟩:=bL hr e r2;have hdg:nU H a (.str k) (iE ((ks.map Sum.inr).zip xs) (Sum.inr k:bT)):=(.inl ⟨_,Sum.inr k,hd,rfl,rfl⟩);cases ry;refine C4 (zzk ZzL hu) I hdg rx λs' I'=>⟨.bl _,H,I',rfl,?_⟩;rw[<- nD hl rs];exact RQ.here hr q _ bu;exact q.elim;rename_i hnd;split at q;rename_i ws e;split at q;rename_i hf;rw[zE]at hf;obtain⟨a,xs,rfl,hq,rs⟩:=dQ hr e r2;have e1:=lB hf.1 r1;have e2:=jE hf.2 rs;subst e1 e2;exact oB pins s σ H _ _ v u Q I rx ry ⟨a,_,rfl,hq,kU hf.1,j1 hf.2,RQ.here hr q _ bu⟩;exact q.elim;exact q.elim
 |Is=>dsimp only at q;split at q;cases km r2;exact Gg pins s σ H _ _ v u Q I rx ry ⟨rfl,by rw[mD r1];exact RQ.here hr q _ bu⟩;exact q.elim
 |IsNot=>dsimp only at q;split at q;cases km r2;exact BK pins s σ H _ _ v u Q I rx ry ⟨rfl,by rw[mD r1];exact RQ.here hr q _ bu⟩;exact q.elim
noncomputable def k8(e:Expr):Bool:=match e with
 |.Set ..=>false
 |_=>true
theorem qr(h:k8 e=true):behindInMarks op e=false:=by cases e<;>first|rfl|cases h
theorem Kl(hu:X.A.units+64<cLine)(ha:PE X a (tI X.K EX (evE cf a')))(hb:PE X b (tI X.K EX (evE cf b')))(hp:k8 b=true) :
 PE X (.Compare a [op] [b] pos) (tI X.K EX (evE cf (.cmp op a' b'))):=(BA (gT hu op) ha hb (qr hp)).sub λτ H Q q=>Mi (by assumption)
theorem Jz{K:Fg0}{h:aa}{w:W}{k:Bool}(e:qO h w=some k):w=.bl k:=by cases w<;>first|(cases e;rfl)|cases e
noncomputable abbrev bw(cf:CF)(a:E):ag->aa->Res Bool:=λσ h=>iz (evE cf a σ h)
theorem oS{K:Fg0}(q:fC K EX (λσ h=>iz (ev σ h)) τ H Q):tI K EX ev τ H λx H1=>∃k,x=.bl k/\Q k H1:=by obtain⟨ρ,σ,h,re,hr,q⟩:=q;refine⟨ρ,σ,h,re,hr,q.bnd.mono λw h1 ρ1 H1 x1 hr1 q1 v r=>?_⟩;split at q1;rename_i k e;have e':=Jz (K:=K) e;subst e';exact⟨k,bP r,RQ.here hr1 q1⟩;exact q1.elim
theorem KS{op:CmpOp}(hu:X.A.units+64<cLine)(ha:PE X a (tI X.K EX (evE cf a')))(hb:PE X b (tI X.K EX (evE cf b')))(hp:k8 b=true) :
  PT X (.Compare a [op] [b] pos) (fC X.K EX (bw cf (.cmp op a' b'))):=(Cn (gT hu op) ha hb (qr hp)).sub λτ H Q q=>by
 have q':=oS q
 exact Mi (by assumption)
theorem qK{K:Fg0}(q:tI K EX (evE cf (.chn op op' a' b' c')) τ H Q) :
  sg (rW K EX (bI op)) (rW K EX (bI op')) (tI K EX (evE cf a')) (tI K EX (evE cf b')) (tI K EX (evE cf c')) τ H Q:=by
 obtain⟨ρ,σ,h,re,hr,q⟩:=q
 refine⟨ρ,σ,h,re,hr,q.bnd.mono λw1 h1 ρ1 H1 x1 hr1 q1 v1 r1=>⟨ρ1,σ,h1,re.ext x1,hr1,q1.bnd.mono λw2 h2 ρ2 H2 x2 hr2 q2 v2 r2=>(⟨ρ2,h2,w1,w2,hr2,Rel.ext x2 _ _ r1,r2,q2.bnd.mono λwk h3 ρ3 H3 x3 hr3 q3 vk rk=>?_⟩)⟩⟩
 cases wk with
 |bl k =>
  cases k with
  |true=>exact⟨true,bP rk,rq ⟨ρ3,σ,h3,((re.ext x1).ext x2).ext x3,hr3,(q3).bnd.mono λwz h4 ρ4 H4 x4 hr4 q4 vz rz=>⟨ρ4,h4,w2,wz,hr4,Rel.ext x4 _ _ (Rel.ext x3 _ _ r2),rz,q4⟩⟩⟩
  |false=>exact⟨false,bP rk,qM (RQ.here hr3 q3 _ bu)⟩
 |_=>exact q3.elim
theorem Kd{op op':CmpOp}(hu:X.A.units+64<cLine)(ha:PE X a (tI X.K EX (evE cf a')))(hb:PE X b (tI X.K EX (evE cf b')))(hc:PE X c (tI X.K EX (evE cf c')))(hm:lastMarks [op,op'] [b,c]=false) :
 PE X (.Compare a [op,op'] [b,c] pos) (tI X.K EX (evE cf (.chn op op' a' b' c'))):=(Am (gT hu op) (gT hu op') ha hb hc hm).sub λ_ _ _ q=>qK q
theorem Kh{op op':CmpOp}(hu:X.A.units+64<cLine)(ha:PE X a (tI X.K EX (evE cf a')))(hb:PE X b (tI X.K EX (evE cf b')))(hc:PE X c (tI X.K EX (evE cf c')))(hm:lastMarks [op,op'] [b,c]=false) :
 PT X (.Compare a [op,op'] [b,c] pos) (fC X.K EX (bw cf (.chn op op' a' b' c'))):=(B1 (gT hu op) (gT hu op') ha hb hc hm).sub λ_ _ _ q=>qK (oS q)
noncomputable def tG(e:Expr):Bool:=match e with
 |.UnaryOp .Not _ _=>false
 |.BoolOp ..=>false
 |.IfExp ..=>false
 |.Compare ..=>false
 |_=>true
theorem xb(h:tG e=true):∀env whole,isTrue e env whole=(do let v <- whole;standAt e.pos;holding [v] (truthy v)):=by
 intro env whole;cases e with
 |UnaryOp op x p=>cases op<;>first|rfl|cases h
 |BoolOp=>cases h
 |IfExp=>cases h
 |Compare=>cases h
 |_=>rfl
theorem CM(ha:PE X a (tI X.K EX (evE cf a')))(hp:tG a=true):PT X a (fC X.K EX (bw cf a')) :=
 (HW ha (xb hp _)).sub λτ H Q q=>oS q
theorem Jc(ha:PE X a (tI X.K EX (evE cf a'))):PE X (.UnaryOp .Not a pos) (tI X.K EX (evE cf (.not_ a'))):=(Ig ha).sub λτ H Q zq=>by obtain⟨ρ,σ,h,re,hr,q⟩:=zq;refine oS ⟨ρ,σ,h,re,hr,q.bnd.mono λk h1 ρ1 H1 x1 hr1 q1=>RQ.here hr1 q1 _ bu⟩
theorem Lv(ha:PT X a (fC X.K EX (bw cf a'))):PT X (.UnaryOp .Not a pos) (fC X.K EX (bw cf (.not_ a'))):=(Fe ha).sub λτ H Q zq=>by obtain⟨ρ,σ,h,re,hr,q⟩:=zq;refine⟨ρ,σ,h,re,hr,?_⟩;have q1:=q.bnd;exact q1.bnd.mono λk h1 ρ1 H1 x1 hr1 q2=>RQ.here hr1 (RQ.here hr1 q2)
theorem KW{cz:List Expr}(ha:PE X a (tI X.K EX (evE cf a')))(hb:PE X (.BoolOp .And (b::cz) pos) (tI X.K EX (evE cf b'))):PE X (.BoolOp .And (a::b::cz) pos) (tI X.K EX (evE cf (.and_ a' b'))) :=
 (G1 ha hb).sub λτ H Q zq=>by obtain⟨ρ,σ,h,re,hr,q⟩:=zq;refine⟨ρ,σ,h,re,hr,q.bnd.mono λw h1 ρ1 H1 x1 hr1 q1 v r=>?_⟩;split at q1;exact⟨true,bP r,by rw[zF rfl];exact⟨ρ1,σ,h1,re.ext x1,hr1,q1⟩⟩;exact⟨false,bP r,by exact RQ.here hr1 q1 _ bu⟩;exact q1.elim
theorem NY{cz:List Expr}(ha:PE X a (tI X.K EX (evE cf a')))(hb:PE X (.BoolOp .Or (b::cz) pos) (tI X.K EX (evE cf b'))):PE X (.BoolOp .Or (a::b::cz) pos) (tI X.K EX (evE cf (.or_ a' b'))) :=
 (KP ha hb).sub λτ H Q zq=>by obtain⟨ρ,σ,h,re,hr,q⟩:=zq;refine⟨ρ,σ,h,re,hr,q.bnd.mono λw h1 ρ1 H1 x1 hr1 q1 v r=>?_⟩;split at q1;exact⟨true,bP r,by rw[zF rfl];exact RQ.here hr1 q1 _ bu⟩;exact⟨false,bP r,by exact⟨ρ1,σ,h1,re.ext x1,hr1,q1⟩⟩;exact q1.elim
theorem ye{op:BoolOp}(ha:PT X a (fC X.K EX (bw cf a'))):PW X (.BoolOp op [a] pos) (fC X.K EX (bw cf a')):=by
 cases op with
 |And=>exact CP ha
 |Or=>exact Fw ha
theorem cD(r)(f:α->aa->Res β)(g:β->aa->Res γ):bnd (bnd r f) g=bnd r λx h=>bnd (f x h) g:=by cases r<;>rfl
theorem o6(cf)(a b)(σ)(h):bw cf (.and_ a b) σ h=bnd (bw cf a σ h) λk h=>if k=true then bw cf b σ h else .ok false h:=by
 show iz (evE cf (.and_ a b) σ h)=bnd (iz (evE cf a σ h)) _;rw[evE];cases evE cf a σ h with
 |ok w h1=>
  cases w with
  |bl k=>cases k<;>rfl
  |_=>rfl
 |exc c h1=>rfl
 |stuck=>rfl
theorem tF(cf)(a b)(σ)(h):bw cf (.or_ a b) σ h=bnd (bw cf a σ h) λk h=>if k=true then .ok true h else bw cf b σ h:=by
 show iz (evE cf (.or_ a b) σ h)=bnd (iz (evE cf a σ h)) _;rw[evE];cases evE cf a σ h with
 |ok w h1=>
  cases w with
  |bl k=>cases k<;>rfl
  |_=>rfl
 |exc c h1=>rfl
 |stuck=>rfl
theorem BH(cf)(c a b)(σ)(h):bw cf (.ite c a b) σ h=bnd (bw cf c σ h) λk h=>if k=true then bw cf a σ h else bw cf b σ h:=by
 show iz (evE cf (.ite c a b) σ h)=bnd (iz (evE cf c σ h)) _;rw[evE];cases evE cf c σ h with
 |ok w h1=>
  cases w with
  |bl k=>cases k<;>rfl
  |_=>rfl
 |exc c h1=>rfl
 |stuck=>rfl
theorem ED{cz:List Expr}(ha:PT X a (fC X.K EX (bw cf a')))(hb:PW X (.BoolOp .And (b::cz) pos) (fC X.K EX (bw cf b'))):PW X (.BoolOp .And (a::b::cz) pos) (fC X.K EX (bw cf (.and_ a' b'))) :=
 (Fj ha hb).sub λτ H Q zq=>by
  obtain⟨ρ,σ,h,re,hr,q⟩:=zq;rw[o6]at q;refine⟨ρ,σ,h,re,hr,q.bnd.mono λk h1 ρ1 H1 x1 hr1 q1=>?_⟩;cases k with
  |true=>exact rq ⟨ρ1,σ,h1,re.ext x1,hr1,by simp_all⟩
  |false=>exact qM (RQ.here hr1 (by assumption))
theorem LV{cz:List Expr}(ha:PT X a (fC X.K EX (bw cf a')))(hb:PW X (.BoolOp .Or (b::cz) pos) (fC X.K EX (bw cf b'))):PW X (.BoolOp .Or (a::b::cz) pos) (fC X.K EX (bw cf (.or_ a' b'))) :=
 (LD ha hb).sub λτ H Q zq=>by
  obtain⟨ρ,σ,h,re,hr,q⟩:=zq;rw[tF]at q;refine⟨ρ,σ,h,re,hr,q.bnd.mono λk h1 ρ1 H1 x1 hr1 q1=>?_⟩;cases k with
  |true=>exact rq (RQ.here hr1 (by assumption))
  |false=>exact qM ⟨ρ1,σ,h1,re.ext x1,hr1,by simp_all⟩
theorem JV(hc:PT X c (fC X.K EX (bw cf c')))(ha:PE X a (tI X.K EX (evE cf a')))(hb:PE X b (tI X.K EX (evE cf b'))):PE X (.IfExp c a b pos) (tI X.K EX (evE cf (.ite c' a' b'))) :=
 (xr hc ha hb).sub λτ H Q zq=>by
  obtain⟨ρ,σ,h,re,hr,q⟩:=zq;refine⟨ρ,σ,h,re,hr,q.bnd.mono λk h1 ρ1 H1 x1 hr1 q1=>?_⟩;cases k with
  |true=>exact rq ⟨ρ1,σ,h1,re.ext x1,hr1,by simp_all⟩
  |false=>exact qM ⟨ρ1,σ,h1,re.ext x1,hr1,by simp_all⟩
theorem mX:PA X [] (mz X.K EX (evA cf [])):=pa_nil.sub λτ H Q zq=>by obtain⟨ρ,σ,h,re,hr,q⟩:=zq;rw[evA]at q;exact RQ.here hr q _ .nil
noncomputable def au(e:Expr):Bool:=match e with
 |.Starred ..=>false
 |_=>true
theorem ar(h:au e=true)(es)(env):starEach (e::es) env=(false,eval e env)::starEach es env:=by cases e<;>first|rfl|cases h
theorem gN(ha:PE X a (tI X.K EX (evE cf a')))(hr:PA X es (mz X.K EX (evA cf es')))(hs:au a=true):PA X (a::es) (mz X.K EX (evA cf (a'::es'))) :=
 (aN ha hr (ar hs es _)).sub λτ H Q zq=>by obtain⟨ρ,σ,h,re,hr,q⟩:=zq;exact⟨ρ,σ,h,re,hr,q.bnd.mono λw h1 ρ1 H1 x1 hr1 q1 v r=>(⟨ρ1,σ,h1,re.ext x1,hr1,q1.bnd.mono λws h2 ρ2 H2 x2 hr2 q2 vs rs=>RQ.here hr2 q2 _ (.cons (Rel.ext x2 _ _ r) rs)⟩)⟩
theorem Ju(h:PA X es (mz X.K EX (evA cf es'))):PE X (.Tuple es k pos) (tI X.K EX (evE cf (.tup es'))):=(F4 h).sub λτ H Q zq=>by obtain⟨ρ,σ,h,re,hr,q⟩:=zq;refine⟨ρ,σ,h,re,hr,q.bnd.mono λws h1 ρ1 H1 x1 hr1 q1 vs rs=>?_⟩;split at q1;exact⟨by rw[<- rs.length];lia,RQ.tup hr1 rs q1⟩;exact q1.elim
theorem IQ(h:PA X es (mz X.K EX (evA cf es'))):PE X (.List es pos) (tI X.K EX (evE cf (.lst es'))):=(oA h).sub λτ H Q zq=>by obtain⟨ρ,σ,h,re,hr,q⟩:=zq;refine⟨ρ,σ,h,re,hr,q.bnd.mono λws h1 ρ1 H1 x1 hr1 q1 vs rs=>?_⟩;split at q1;exact⟨by rw[<- rs.length];lia,RQ.lst hr1 rs q1⟩;exact q1.elim
theorem G3:PE X (.Dict [] [] pos) (tI X.K EX (evE cf .dic0)):=pe_dnewK.sub λτ H Q zq=>by obtain⟨ρ,σ,h,re,hr,q⟩:=zq;intro p n;exact q ρ _ (ext_new hr n) (hr.ext_new n) _ (⟨p,[],rfl,hr.new n,.inl aE,rfl,.nil⟩)
noncomputable def gR(e:Expr):Bool:=match e with
 |.Slice ..=>false
 |_=>true
theorem Kf(h:gR e=true):vw e:=λo i=>by cases e<;>first|rfl|cases h
theorem CQ{K:Fg0}(r:RelL K ρ H ws xs)(e:atI ws i=some w):∃v,atI xs i=some v/\Rel K ρ H w v:=by
 unfold atI at e ⊢;rw[<- r.length];cases e1:ixN ws.length i with
 |none=>simp_all
 |some j=>rw[e1]at e;exact r.get e
theorem Fy(hu:X.A.units+64<cLine):Lk X (rW X.K EX dC):=by
 intro value slice pins s σ H x y v u Q I rx ry zq14 hs;obtain⟨ρ,h,w1,w2,hr,r1,r2,q⟩:=zq14;unfold dC at q;split at q;rename_i i;cases az r2;split at q;rename_i z;cases aB r1;unfold Mj at q;split at q;rename_i hz;split at q;rename_i c ec;exact G4 value slice pins s σ H _ _ v u Q I rx ry ⟨z,i,c,rfl,rfl,zf hz ZzD,ec,RQ.here hr q _ gB⟩ hs;exact q.elim;exact q.elim;split at q;rename_i ws e;split at q;rename_i w e2;obtain⟨a,xs,rfl,hq,rs⟩:=dQ hr e r1;obtain⟨z,ez,rz⟩:=CQ rs e2;rcases hq with hq|hq;exact DM value slice pins s σ H _ _ v u Q I rx ry ⟨a,xs,i,z,rfl,rfl,hq,ez,RQ.here hr q _ rz⟩ hs;exact FL value slice pins s σ H _ _ v u Q I rx ry ⟨a,xs,i,z,rfl,rfl,hq,ez,RQ.here hr q _ rz⟩ hs;exact q.elim;exact q.elim;rename_i k;cases aB r2;split at q;rename_i ks ws e;split at q;rename_i w e2;obtain⟨a,xs,rfl,hd,hl,rs⟩:=bL hr e r1;obtain⟨z,ez,rz⟩:=(iS (x:=k) hl rs).1 w e2;have hdg:nU H a (.str k) (some z):=by rw[<- ez];exact(.inl ⟨_,Sum.inr k,hd,rfl,rfl⟩)
 cases rx;exact tail_any (qo I hdg) PySem.F.slot_dict_getitem.lookup (wO (zzk ZzL hu) I hdg ry λw' s' I' rw'=>⟨z,H,I',rw',RQ.here hr q _ rz⟩) hs;exact q.elim;exact q.elim;exact q.elim
theorem NG(hu:X.A.units+64<cLine)(ha:PE X a (tI X.K EX (evE cf a')))(hb:PE X b (tI X.K EX (evE cf b')))(hp:gR b=true):PE X (.Subscript a b pos) (tI X.K EX (evE cf (.ix a' b'))) :=
 (Ly (Fy hu) ha hb (Kf hp)).sub λτ H Q q=>Mi (by assumption)
theorem JL(ha:PE X a (tI X.K EX (evE cf a'))):PE X (.UnaryOp .USub a pos) (tI X.K EX (evE cf (.neg a'))):=(KH F6 ha).sub λτ H Q zq=>by obtain⟨ρ,σ,h,re,hr,q⟩:=zq;refine⟨ρ,σ,h,re,hr,q.bnd.mono λw h1 ρ1 H1 x1 hr1 q1 v r=>?_⟩;split at q1;rename_i i;exact⟨i,az r,RQ.here hr1 q1 _ bh⟩;exact q1.elim
end
section
variable {X:Cx}{EX:cb}{cf:CF}{fw:Nat}{pos:Pos}{a b c e:Expr}{a' b' c' e':E}
def rB(K:Fg0)(EX:cb)(f:List W->aa->Res W):List V->Hp->VK->Prop:=λxs H Q =>
 ∃ρ h ws,HRel K ρ h H/\RelL K ρ H ws xs/\RQ K EX ρ H (f ws h) λw _ ρ' H'=>∀v,Rel K ρ' H' w v->Q v H'
theorem qp{K:Fg0}(r:RelL K ρ H [w] xs):∃x,xs=[x]/\Rel K ρ H w x:=by obtain⟨y,ys,rfl,r1,r2⟩:=r;rw[RelL]at r2;simp_all
theorem An{K:Fg0}(r:RelL K ρ H [w,w2] xs):∃x y,xs=[x,y]/\Rel K ρ H w x/\Rel K ρ H w2 y:=by obtain⟨y,ys,rfl,r1,r2⟩:=r;obtain⟨z,rfl,r3⟩:=qp r2;exact⟨y,z,rfl,r1,r3⟩
theorem gL{fv:Value}(k:∀(pins:List (Addr×Obj)) (s:Shared) (σ:L2.St) (H:Hp) (x:V) (u:Value) (Q:VK) (ρ:List Addr) (h:aa) (w:W),Inv X pins σ H s->RelV x u->HRel X.K ρ h H->Rel X.K ρ H w x ->
  RQ X.K EX ρ H (f w h) (λw _ ρ' H'=>∀v,Rel X.K ρ' H' w v->Q v H')->wpAny (model X.prog X.w) X.A (call fv [u]) (EP X pins σ Q) X.xe s):br X fv (rB X.K EX (oR f)):=by
 intro pins s σ H xs us Q I r zq9
 obtain⟨ρ,h,ws,hr,rl,q⟩:=zq9
 match ws,rl,q with
 |[w],rl,q =>
  obtain⟨x,rfl,rx⟩:=qp rl
  obtain⟨u,rfl,ru⟩:=r.one
  exact k pins s σ H x u Q ρ h w I ru hr rx q
 |[],rl,q=>exact q.elim
 |_::_::_,rl,q=>exact q.elim
theorem GW:br X (.builtin "len") (rB X.K EX (bA .len)):=gL λpins s σ H x u Q ρ h w I ru hr rx q=>by
 unfold hZ at q;cases e:seqA h w with
 |some us'=>rw[e]at q;obtain⟨p,ys,rfl,hq,rs⟩:=dQ hr e rx;exact oj pins s σ H _ _ Q I (.cons ru .nil) ⟨p,ys,rfl,hq,RQ.here hr q _ (by rw[rs.length];exact bh)⟩
 |none=>
  rw[e]at q;cases e2:aY h w with
  |some kw=>obtain⟨ks,us'⟩:=kw;rw[e2]at q;obtain⟨p,ys,rfl,hd,hl,rs⟩:=bL hr e2 rx;cases ru;exact Ks I hd λt s' I'=>⟨.int _,H,I',⟨t,rfl⟩,RQ.here hr q _ (by rw[List.length_zip,zo,<- hl,Nat.min_self];exact bh)⟩
  |none=>
   rw[e2]at q;cases w with
   |str z=>cases aB rx;dsimp only at q;split at q;rename_i hz;exact nX pins s σ H _ _ Q I (.cons ru .nil) ⟨z,rfl,zf hz (by rw[Zj];decide),RQ.here hr q _ bh⟩;exact q.elim
   |_=>exact q.elim
theorem DK:br X (.type "list") (rB X.K EX (bA .list)):=gL λpins s σ H x u Q ρ h w I ru hr rx q=>by
 unfold vA at q;cases e:seqA h w with
 |some us'=>rw[e]at q;obtain⟨p,ys,rfl,hq,rs⟩:=dQ hr e rx;exact jh pins s σ H _ _ Q I (.cons ru .nil) ⟨p,ys,rfl,hq,RQ.lst hr rs q⟩
 |none=>rw[e]at q;exact q.elim
theorem yt:br X (.type "tuple") (rB X.K EX (bA .tuple)):=gL λpins s σ H x u Q ρ h w I ru hr rx q=>by
 unfold o9 at q;cases e1:eK w with
 |some us2=>
  cases w with
  |tup ws'=>have rx':=rx;obtain⟨p,ys,rfl,hq,rs⟩:=rx';exact ij pins s σ H _ _ Q I (.cons ru .nil) ⟨p,ys,rfl,.inr ⟨hq.sq,RQ.here hr q _ rx⟩⟩
  |_=>cases e1
 |none=>
  cases e:seqA h w with
  |some us'=>rw[e]at q;unfold seqA at e;rw[e1]at e;obtain⟨p,ys,rfl,hq,rs⟩:=gy hr e rx;exact ij pins s σ H _ _ Q I (.cons ru .nil) ⟨p,ys,rfl,.inl ⟨hq,RQ.tup hr rs q⟩⟩
  |none=>rw[e]at q;exact q.elim
theorem xA{f:Int->Int->Int}{K:Fg0}{Q:VK}(hr:HRel K ρ h H)(rl:RelL K ρ H ws xs)(q:RQ K EX ρ H (L9 f ws h) λw _ ρ' H'=>∀v,Rel K ρ' H' w v->Q v H'):∃i j,xs=[.int i,.int j]/\Q (.int (f i j)) H:=by
 match ws,rl,q with
 |[x,y],rl,q =>
  obtain⟨a,b,rfl,rx,ry⟩:=An rl
  cases x with
  |int i =>
   cases y with
   |int j =>
    cases az rx;cases az ry
    exact⟨i,j,rfl,RQ.here hr q _ bh⟩
   |_=>exact q.elim
  |_=>exact q.elim
 |[],rl,q=>exact q.elim
 |[_],rl,q=>exact q.elim
 |_::_::_::_,rl,q=>exact q.elim
theorem Ii(hc:X.calm=true):br X (.builtin "max") (rB X.K EX (bA .max)):=λpins s σ H xs us Q I r zq=>by obtain⟨ρ,h,ws,hr,rl,q⟩:=zq;exact wV hc pins s σ H _ us Q I r (xA hr rl q)
theorem Ht(hc:X.calm=true):br X (.builtin "min") (rB X.K EX (bA .min)):=λpins s σ H xs us Q I r zq=>by obtain⟨ρ,h,ws,hr,rl,q⟩:=zq;exact wo hc pins s σ H _ us Q I r (xA hr rl q)
theorem Hv:br X (.type "int") (rB X.K EX (bA .int)):=gL λpins s σ H x u Q ρ h w I ru hr rx q=>by
 cases w with
 |int i=>cases az rx;exact ny pins s σ H _ _ Q I (.cons ru .nil) (.inl ⟨i,rfl,RQ.here hr q _ bh⟩)
 |bl i=>cases bP rx;exact ny pins s σ H _ _ Q I (.cons ru .nil) (.inr ⟨i,rfl,RQ.here hr q _ bh⟩)
 |_=>exact q.elim
theorem C6:br X (.type "dict") (rB X.K EX (bA .dict)):=gL λpins s σ H x u Q ρ h w I ru hr rx q=>by
 unfold uq at q;cases e:aY h w with
 |some kw=>rw[e]at q;obtain⟨p,ys,rfl,hd,hl,rs⟩:=bL hr e rx;cases ru;exact qt I hd λp' s' n I'=>⟨.ref p',_,I',rfl,(q ρ _ (ext_new hr n) (hr.ext_new n) _ (⟨p',ys,rfl,hr.new n,.inl aE,hl,RelL.ext (ext_new hr n) _ _ rs⟩))⟩
 |none=>rw[e]at q;exact q.elim
section
variable {α:Type}{lt:α->α->Bool}
theorem jF(x:α):∀l,(tq lt x l).Perm (x::l)
 |[]=>.refl _
 |y::ys=>by unfold tq;split;exact((jF x ys).cons y).trans (.swap x y ys);rfl
theorem cC:∀l:List α,(nV lt l).Perm l
 |[]=>.refl _
 |x::xs=>(jF x _).trans ((cC xs).cons x)
def gu(lt:α->α->Bool)(l:List α):Prop:=l.Pairwise λa b=>lt b a=false
theorem nB(tr:∀a b c,lt a b=false->lt b c=false->lt a c=false)(as:∀a b,lt a b=true->lt b a=false)(x:α):∀l,gu lt l->gu lt (tq lt x l)
 |[],_=>by simp[tq,gu]
 |y::ys,h=>by
  unfold gu at h
  rw[ZT]at h
  unfold tq
  split
  ·rename_i hl
   unfold gu
   rw[ZT]
   refine⟨λz hz=>?_,nB tr as x ys h.2⟩
   rcases zS.mp ((jF x ys).mem_iff.mp hz) with e|hz
   ·subst e;exact as _ _ hl
   ·exact h.1 z hz
  ·rename_i hl
   unfold gu
   rw[ZT,ZT]
   grind
theorem mY(tr:∀a b c,lt a b=false->lt b c=false->lt a c=false)(as:∀a b,lt a b=true->lt b a=false):∀l,gu lt (nV lt l)
 |[]=>by simp[nV,gu]
 |x::xs=>nB tr as x _ (mY tr as xs)
theorem mC(an:∀a b,lt a b=false->lt b a=false->a=b):∀{l k:List α},gu lt l->gu lt k->l.Perm k->l=k
 |[],k,_,_,p=>p.nil_eq
 |x::l,[],_,_,p=>by simp_all
 |x::l,y::k,hl,hk,p=>by
  unfold gu at hl hk
  rw[ZT]at hl hk
  have e:x=y:=by
   have h1:x∈y::k:=p.mem_iff.mp zN
   have h2 :=p.mem_iff.mpr zN
   grind
  subst e
  rw[mC an hl.2 hk.2 (List.perm_cons x |>.mp p)]
end
theorem Ft(a b)(h:i6 a b=true):i6 b a=false:=by
 unfold i6 at *
 grind
theorem Ae(a b c)(h:i6 a b=false)(k:i6 b c=false):i6 a c=false:=by
 unfold i6 at *
 grind
theorem FR(a b)(h:i6 a b=false)(k:i6 b a=false):a=b:=by have h1:=zz1 h;have k1:=zz1 k;have e:=List.le_antisymm (List.not_lt.mp k1) (List.not_lt.mp h1);cases a;simp_all
theorem FT:∀{l:List Str},sortedS l=true->gu i6 l:=by
 have tr:∀(p:Str) (l:List Str),risingS p l=true->(∀x∈l,i6 x p=false)/\gu i6 l:=by
  intro p l;induction l generalizing p with
  |nil=>exact λ_=>⟨ZzS,by simp[gu]⟩
  |cons x r ih=>
   intro h;have h':(!ltCps x.cps.toList p.cps.toList&&risingS x r)=true:=h;rw[zE,ltCps_eq]at h';have hx:i6 x p=false:=by unfold i6;simpa using h'.1
   obtain⟨i1,i2⟩:=ih x h'.2;refine⟨λz hz=>?_,?_⟩;rcases zS.mp hz with e|hz;subst e;exact hx;exact Ae _ _ _ (i1 z hz) hx;unfold gu;rw[ZT];exact⟨i1,i2⟩
 intro l h;cases l with
 |nil=>simp[gu]
 |cons x r=>obtain⟨i1,i2⟩:=tr x r h;unfold gu;rw[ZT];exact⟨i1,i2⟩
theorem rm{K:Fg0}:∀{ws:List W}{ss:List Str}{xs:List V},cu ws=some ss->RelL K ρ H ws xs->xs=ss.map V.str
 |[],ss,xs,e,r=>by cases e;exact r
 |w::ws,ss,xs,e,r=>by
  obtain⟨y,ys,rfl,r1,r2⟩:=r;cases w with
  |str s=>
   have e':(cu ws).map (s::·)=some ss:=e;cases e1:cu ws with
   |none=>simp_all
   |some ts=>rw[e1]at e';cases e';rw[aB r1,rm e1 r2];rfl
  |_=>cases e
theorem j5:∀{ss:List Str}{us:List Value},Vals (ss.map V.str) us->StrsAre us ss
 |[],us,h=>by cases h;exact .nil
 |s::ss,us,h=>by
  cases h with
  |cons r rs=>obtain⟨t,rfl⟩:=r;exact .cons s t (j5 rs)
theorem nr:∀{ss:List Str}{us:List Value},StrsAre us ss->Vals (ss.map V.str) us
 |[],us,h=>by cases h;exact .nil
 |s::ss,us,h=>by
  cases h with
  |cons _ t rs=>exact .cons ⟨t,rfl⟩ (nr rs)
theorem pS{K:Fg0}:∀ss:List Str,RelL K ρ H (ss.map W.str) (ss.map V.str)
 |[]=>.nil
 |s::ss=>.cons gB (pS ss)
theorem nK{K:Fg0}:∀{ws:List W}{bs:List Bool}{xs:List V},fK ws=some bs->RelL K ρ H ws xs->xs=bs.map V.bl
 |[],bs,xs,e,r=>by cases e;exact r
 |w::ws,bs,xs,e,r=>by
  obtain⟨y,ys,rfl,r1,r2⟩:=r;cases w with
  |bl s=>obtain⟨ts,e1,rfl⟩:=Zg.mp (e);rw[bP r1,nK e1 r2];rfl
  |_=>cases e
theorem uf{pins:List (Addr×Obj)}{σ:L2.St}{H:Hp}{s:Shared}{ρ:List Addr}{h:aa}{w:W}{x:V}{ss:List Str}(I:Inv X pins σ H s)(hr:HRel X.K ρ h H)(rx:Rel X.K ρ H w x)(e:(seqA h w).bind cu=some ss) :
  ∃p T o n its,x=.ref p/\(T="list"\/T="tuple")/\s.heap.get? p=some o/\o.cls=.type T/\o.data=.seq its.toArray n/\StrsAre its ss/\its.length=ss.length:=by
 obtain⟨us',e1,e2⟩:=obs e
 obtain⟨p,ys,rfl,hq,rs⟩:=dQ hr e1 rx
 have ey:=rm e2 rs
 subst ey
 rcases hq with hq|hq
 ·obtain⟨its,rv,⟨o,n,ho,hc,_,hd⟩,hz⟩:=I.list hq
  exact⟨p,"list",o,n,its,rfl,.inl rfl,ho,hc,hd,j5 rv,by rw[<- rv.length,zo]⟩
 ·obtain⟨its,rv,⟨o,ho,hc,n,hd⟩,hz⟩:=I.tuple hq
  exact⟨p,"tuple",o,n,its,rfl,.inr rfl,ho,hc,hd,j5 rv,by rw[<- rv.length,zo]⟩
theorem wZ:br X (.builtin "sorted") (rB X.K EX (bA .sorted)):=gL λpins s σ H x u Q ρ h w I ru hr rx q=>by unfold mF at q;split at q;rename_i ss e;split at q;obtain⟨p,T,o,n,its,rfl,hT,ho,hc,hd,hS,hl⟩:=uf I hr rx e;cases ru;refine xE ho hc hT hd hS (by simp_all) λout ss' a1 a2 a3=>?_;obtain⟨ep,he⟩:=sortedAll_at s.heap its out;have e' :=mC FR (FT a3) (mY Ae Ft ss) (a2.trans (cC ss).symm);subst e';refine⟨.ref (s.heap.objs.size+1),_,I.laid  (o:=.lst ((nV i6 ss).map V.str)) (λ_ _ e=>sortedAll_old e) (ZK _) ⟨?_,out.toList,ep,nr a1,he⟩,rfl,RQ.lst hr (pS _) q _ (I.hok.fresh (ZK _))⟩;rw[zo,(cC ss).length_eq,Zj];lia;exact q.elim;exact q.elim
theorem u6:∀{bs:List Bool}{us:List Value},Vals (bs.map V.bl) us->∀{i:Nat}{v:Value},us[i]?=some v->v=.bool (bs.getD i false)
 |[],us,h,i,v,e=>by cases h;simp_all
 |b::bs,us,h,i,v,e=>by
  cases h with
  |cons r rs=>
   cases i with
   |zero=>cases r;simp_all
   |succ i=>exact u6 rs  (by simp_all)
theorem nF(bs:List Bool):(List.range bs.length).all (λi=>bs.getD i false)=bs.all id/\(List.range bs.length).any (λi=>bs.getD i false)=bs.any id:=by
 have e:(List.range bs.length).map (λi=>bs.getD i false)=bs:=by refine List.ext_getElem ZzS λi h1 h2=>?_;simp_all
 have a1:=List.all_map (l:=List.range bs.length) (f:=λi=>bs.getD i false) (p:=id);have a2:=List.any_map (l:=List.range bs.length) (f:=λi=>bs.getD i false) (p:=id);simp_all
theorem l0{pins : List (Addr×Obj)}{σ : L2.St}{H : Hp}{s : Shared}{ρ : List Addr}{h : aa}{w : W}{x : V}{u : Value}{bs : List Bool}{A : Around}{E : Value -> Shared -> Prop}(hh : A.handled = none)(I : Inv X pins σ H s)(hr : HRel X.K ρ h H)(rx : Rel X.K ρ H w x)(ru : RelV x u)(e : (seqM h w).bind fK = some bs) : wpAny (model X.prog X.w) A (pyIter u) (λit s2 => ∃I0 fp wr n P St tr, it = .ref I0 /\ Walks X.prog X.w A I0 fp wr n P St /\ St 0 s2.heap /\ TruthOf X.prog X.w A P tr /\ n = bs.length /\ (∀i, tr i = bs.getD i false) /\
   ∀h' tk,(∀b o,b∉wr->s2.heap.get? b=some o->h'.get? b=some o)->Inv X pins σ H { s2 with heap:=h',toks:=tk }) E s:=by
 obtain⟨us',e1,e2⟩:=obs e
 obtain⟨p,ys,rfl,hq,rs⟩:=bS hr e1 rx
 have ey:=nK e2 rs
 subst ey
 cases ru
 obtain⟨its,rv,⟨o,n,ho,hc,_,hd⟩,hz⟩:=I.list (.inl (.inl hq))
 have hL:s.heap.IsList p its.toArray:=⟨o,ho,hc,n,hd⟩
 have hlt:p<s.heap.objs.size:=zL ho
 refine zzJ hL ⟨_,_,_,_,_,_,λi=>bs.getD i false,rfl,Walks.list hh _ p (zU hlt) its.toArray,⟨⟨_,zG _ rfl,rfl,rfl⟩,hL.push _⟩,?_,?_,λ_=>rfl,λh' tk hk=>?_⟩
 ·intro i v s Q E hP hQ
  have :=u6 rv (by simpa using hP)
  subst this
  exact ZE hQ
 ·rw[<- zo (f:=V.bl),rv.length];simp
 ·refine I.kept λb ob eb=>hk b ob ?_ (hps0 _ eb)
  simp only[zP]
  exact zU (zL eb)
theorem Hx(hc:X.calm=true):br X (.builtin "all") (rB X.K EX (bA .all)):=gL λpins s σ H x u Q ρ h w I ru hr rx q=>by unfold CI at q;split at q;rename_i bs e;refine call_all_walk (ZA (l0 (by simpa using I.ok.hd hc) I hr rx ru e) (λit s2 zq=>?_) λ_ _ z=>z);obtain⟨I0,fp,wr,n,P,S0,tr,e1,W,st,t,e2,e3,k⟩:=zq;refine⟨I0,fp,wr,n,P,S0,tr,e1,W,st,t,λh' tk hk=>?_⟩;have e4 :=funext e3;rw[e2,e4,(nF bs).1];exact⟨.bl _,H,k h' tk hk,rfl,RQ.here hr q _ bu⟩;exact q.elim
theorem Fu(hc:X.calm=true):br X (.builtin "any") (rB X.K EX (bA .any)):=gL λpins s σ H x u Q ρ h w I ru hr rx q=>by unfold CI at q;split at q;rename_i bs e;refine call_any_walk (ZA (l0 (by simpa using I.ok.hd hc) I hr rx ru e) (λit s2 zq=>?_) λ_ _ z=>z);obtain⟨I0,fp,wr,n,P,S0,tr,e1,W,st,t,e2,e3,k⟩:=zq;refine⟨I0,fp,wr,n,P,S0,tr,e1,W,st,t,λh' tk hk=>?_⟩;have e4 :=funext e3;rw[e2,e4,(nF bs).2];exact⟨.bl _,H,k h' tk hk,rfl,RQ.here hr q _ bu⟩;exact q.elim
noncomputable def kh:Bl->Str
 |.len=>"len"|.list=>"list"|.tuple=>"tuple"|.max=>"max"|.min=>"min"|.int=>"int"|.sorted=>"sorted"|.dict=>"dict"|.all=>"all"|.any=>"any"
theorem eV:∀{es:List Expr} (h:es.all au=true) (pos:Pos) (env:Env),(backTo pos (starEach es env)).any (·.1)=false
 |[],_,_,_=>rfl
 |e::es,h,pos,env=>by rw[ZB,zE]at h;rw[ar h.1];have:=eV h.2 pos env;simpa [backTo] using this
theorem J6(hc:X.calm=true)(hg:Gl X (kh bb))(hm:X.mg (kh bb)=none)(ha:PA X (e::es) (mz X.K EX (evA cf es')))(hs:(e::es).all au=true) :
  PE X (.Call (.Name (kh bb) p) (e::es) [] pos) (tI X.K EX (evE cf (.blt bb es'))):=by
 have hs':=hs
 rw[ZB,zE]at hs'
 have h1:=ar hs'.1 es X.env
 have h2:=eV hs'.2 pos X.env
 have key:∀τ H Q,tI X.K EX (evE cf (.blt bb es')) τ H Q->Nw (rB X.K EX (bA bb)) (mz X.K EX (evA cf es')) τ H Q:=λτ H Q zq=>by obtain⟨ρ,σ,h,re,hr,q⟩:=zq;rw[evE]at q;exact⟨ρ,σ,h,re,hr,q.bnd.mono λws h1 ρ1 H1 x1 hr1 q1 vs rs=>⟨ρ1,h1,ws,hr1,rs,q1⟩⟩
 cases bb with
 |len=>exact(cg GW hg hm PySem.boot_len ha (by decide +kernel) (by decide +kernel) h1 h2).sub key
 |list=>exact(bC DK hg hm zz9 ha (by decide +kernel) (by decide +kernel) h1 h2).sub key
 |tuple=>exact(bC yt hg hm PyProof.Rows.boot_tuple ha (by decide +kernel) (by decide +kernel) h1 h2).sub key
 |max=>exact(cg (Ii hc) hg hm PyProof.Rows.boot_max ha (by decide +kernel) (by decide +kernel) h1 h2).sub key
 |min=>exact(cg (Ht hc) hg hm PyProof.Rows.boot_min ha (by decide +kernel) (by decide +kernel) h1 h2).sub key
 |int=>exact(bC Hv hg hm PyProof.Rows.boot_int ha (by decide +kernel) (by decide +kernel) h1 h2).sub key
 |dict=>exact(bC C6 hg hm (by decide +kernel) ha (by decide +kernel) (by decide +kernel) h1 h2).sub key
 |sorted=>exact(cg wZ hg hm PyProof.Rows.boot_sorted ha (by decide +kernel) (by decide +kernel) h1 h2).sub key
 |all=>exact(cg (Hx hc) hg hm PyProof.Rows.boot_all ha (by decide +kernel) (by decide +kernel) h1 h2).sub key
 |any=>exact(cg (Fu hc) hg hm PyProof.Rows.boot_any ha (by decide +kernel) (by decide +kernel) h1 h2).sub key
noncomputable abbrev yu(X:Cx)(ss:List Str)(p:Addr):HO:=.ext λh=>h.SetOf (PySem.strKind X.prog X.w) p (λy=>decide (y∈ss)) (jm ss).length
theorem Fd(hc:X.calm=true):br X (.type "set") (λxs H Q=>∃ρ h w x ss,xs=[x]/\HRel X.K ρ h H/\Rel X.K ρ H w x/\(seqA h w).bind cu=some ss/\ss.length<64/\∀q,H q=none->Q (.ref q) (aW H q (yu X ss q))):=by
 intro pins s σ H xs us Q I r zq9;obtain⟨ρ,h,w,x,ss,e0,hr,rx,e,h64,q⟩:=zq9;subst e0;obtain⟨u,rfl,ru⟩:=r.one;obtain⟨p,T,o,n,its,rfl,hT,ho,hcl,hd,hS,hl⟩:=uf I hr rx e;cases ru
 have fin:∀(h':Heap) (tk:Nat),h'.SetOf (PySem.strKind X.prog X.w) s.heap.objs.size (λy=>decide (y∈ss)) (jm ss).length->(∀b o,b<s.heap.objs.size->s.heap.get? b=some o->h'.get? b=some o)->EP X pins σ Q (.ref s.heap.objs.size) { s with heap:=h',toks:=tk }:=λh' tk hS' k =>
  ⟨.ref s.heap.objs.size,_,I.laid (o:=yu X ss s.heap.objs.size) (λb o e=>k b o (zL e) e) (zD _) ⟨hS',(by obtain⟨o,_,_,_,z,_⟩:=hS';exact⟨o,z⟩),λh1 h2 z k2=>(by obtain⟨o,es,ep,t,z,cz⟩:=z;exact⟨o,es,ep,t,k2 _ z,cz⟩)⟩,rfl,q _ (I.hok.fresh (zD _))⟩
 have hb:its.length+1<scanBound:=by unfold scanBound;lia
 rcases hT with rfl|rfl
 exact qZ  (St:=λI0 i h=>h.IsListIter I0 p i/\h.IsList p its.toArray) (I.ok.hd hc) ho hcl (.inl rfl) hd hS hb rfl (λA' s1 R F e k=>zzJ ⟨o,e,hcl,n,hd⟩ k)
  (λA' I0 h1 h2=>by simpa using Walks.list (prog:=X.prog) (w:=X.w) h1 I0 p h2 its.toArray) (λI0 h e1 e2=>⟨⟨_,e1,rfl,rfl⟩,o,e2,hcl,n,hd⟩) fin
 exact qZ  (St:=λI0 i h=>h.IsTupleIter I0 p i/\h.IsTuple p its.toArray) (I.ok.hd hc) ho hcl (.inr rfl) hd hS hb rfl (λA' s1 R F e k=>wpAny_pyIter_tuple ⟨o,e,hcl,n,hd⟩ k)
  (λA' I0 h1 h2=>by simpa using Walks.tuple (prog:=X.prog) (w:=X.w) h1 I0 p h2 its.toArray) (λI0 h e1 e2=>⟨⟨_,e1,rfl,rfl⟩,o,e2,hcl,n,hd⟩) fin
theorem vG:br X (.builtin "len") (λxs H Q=>∃p ss,xs=[.ref p]/\ss.length<64/\H p=some (yu X ss p)/\Q (.int (jm ss).length) H):=by
 intro pins s σ H xs us Q I r zq9;obtain⟨p,ss,e0,h64,hp,q⟩:=zq9;subst e0;obtain⟨u,rfl,ru⟩:=r.one;cases ru;obtain⟨⟨o,es,ep,t,ho,hex,hd,hel,hmem,hb,hf,hn⟩,_⟩:=I.hok p _ hp;have:=o7 ss;have e:((es.size))=((jm ss).length):=by rw[hn]
 refine call_len_set ho hex hd hf ZzL ?_;rw[e];exact⟨.int _,H,I.tok _,⟨_,rfl⟩,q⟩
theorem HD(hc:X.calm=true)(hg:Gl X "len")(hm:X.mg "len"=none)(hg2:Gl X "set")(hm2:X.mg "set"=none)(ha:PE X a (tI X.K EX (evE cf a')))(hs:au a=true) :
  PE X (.Call (.Name "len" p) [.Call (.Name "set" p2) [a] [] p3] [] pos) (tI X.K EX (evE cf (.slen a'))):=by
 have h1:=bC (p:=p2) (pos:=p3) (Fd hc) hg2 hm2 (by decide +kernel) (aN ha pa_nil (ar hs _ _)) (by decide +kernel) (by decide +kernel) (ar hs _ _) (by rfl)
 refine(cg vG hg hm PySem.boot_len (aN h1 pa_nil (by rfl)) (by decide +kernel) (by decide +kernel) (by rfl) (by rfl)).sub λτ H Q zq=>?_
 obtain⟨ρ,σ,h,re,hr,q⟩:=zq
 refine⟨ρ,σ,h,re,hr,q.bnd.mono λw h1 ρ1 H1 x1 hr1 q1 v r=>?_⟩
 split at q1
 ·rename_i ss e
  split at q1
  ·rename_i h64
   exact⟨ρ1,h1,w,v,ss,rfl,hr1,r,e,h64,λq hq=>⟨q,ss,rfl,h64,aE,q1 _ _ (ext_new hr1 hq) (hr1.ext_new hq) _ bh⟩⟩
  ·exact q1.elim
 ·exact q1.elim
noncomputable def aJ:Ty->String
 |.int=>"int"|.bool=>"bool"|.str=>"str"|.tuple=>"tuple"|.list=>"list"
def ER(K:Fg0)(H:Hp)(x:V)(t:Ty)(k:Bool):Prop:=match x with
 |.int _=>k=decide (t=.int)
 |.bl _=>k=(decide (t=.int)||decide (t=.bool))
 |.str _=>k=decide (t=.str)
 |.ref a=>((∃xs,iI K H a xs)/\k=decide (t=.list))\/((∃xs,jQ K H a xs)/\k=decide (t=.tuple))
 |_=>False
theorem yh{K:Fg0}(hr:HRel K ρ h H)(e:bq h w t=some k)(r:Rel K ρ H w v):ER K H v t k:=by
 cases w with
 |int i=>cases az r;cases e;rfl
 |bl i=>cases bP r;cases e;rfl
 |str i=>cases aB r;cases e;rfl
 |tup ws=>cases e;rw[Rel]at r;obtain⟨a,xs,rfl,q,_⟩:=r;exact .inr ⟨⟨xs,q.sq⟩,rfl⟩
 |lst ws=>cases e;rw[Rel]at r;obtain⟨a,xs,rfl,_,q,_⟩:=r;exact .inl ⟨⟨xs,.inl (.inl q)⟩,rfl⟩
 |scr ws=>cases e;rw[Rel]at r;obtain⟨a,xs,rfl,q,_⟩:=r;exact .inl ⟨⟨xs,q.sq⟩,rfl⟩
 |ref n=>
  have e':(match h[n]? with|some (.lst _)=>some (decide (t=.list))|_=>none)=some k:=e;split at e'<;>try (cases e';done)
  rename_i us e3;cases e';obtain⟨a,xs,rfl,q,_⟩:=gy (w:=.ref n) (ws:=us) hr (by show(match h[n]? with|some (.lst ws)=>some ws|_=>none)=some us;rw[e3]) r;exact .inl ⟨⟨xs,q⟩,rfl⟩
 |_=>cases e
theorem Il:br X (.builtin "isinstance") (λxs H Q=>∃x t k,xs=[x,.ty (aJ t)]/\ER X.K H x t k/\Q (.bl k) H):=by
 intro pins s σ H xs us Q I r zq9;obtain⟨x,t,k,e,hk,q⟩:=zq9;subst e;obtain⟨u,w',rfl,rx,ry⟩:=vg r;have ry':w'=Value.type (aJ t):=ry;subst ry';have fin:∀tk,EP X pins σ Q (.bool k) { s with toks:=tk }:=λtk=>⟨.bl k,H,I.tok _,rfl,q⟩;have fin0:EP X pins σ Q (.bool k) s:=⟨.bl k,H,I,rfl,q⟩;cases x with
 |int i=>
  obtain⟨tk,rfl⟩:=rx;have e:k=decide (t=.int):=hk;subst e;cases t with
  |int=>exact PySem.IsiPair.int_int fin0
  |bool=>exact PySem.IsiPair.int_bool (fin _)
  |str=>exact PySem.IsiPair.int_str (fin _)
  |tuple=>exact PySem.IsiPair.int_tuple (fin _)
  |list=>exact PySem.IsiPair.int_list (fin _)
 |bl i=>
  cases rx;have e:k=(decide (t=.int)||decide (t=.bool)):=hk;subst e;cases t with
  |int=>exact PySem.IsiPair.bool_int fin0
  |bool=>exact PySem.IsiPair.bool_bool fin0
  |str=>exact PySem.IsiPair.bool_str (fin _)
  |tuple=>exact PySem.IsiPair.bool_tuple (fin _)
  |list=>exact PySem.IsiPair.bool_list (fin _)
 |str i=>
  obtain⟨tk,rfl⟩:=rx;have e:k=decide (t=.str):=hk;subst e;cases t with
  |int=>exact PySem.IsiPair.str_int (fin _)
  |bool=>exact PySem.IsiPair.str_bool (fin _)
  |str=>exact PySem.IsiPair.str_str fin0
  |tuple=>exact PySem.IsiPair.str_tuple (fin _)
  |list=>exact PySem.IsiPair.str_list (fin _)
 |ref p=>
  cases rx;have hk':((∃xs,iI X.K H p xs)/\k=decide (t=.list))\/((∃xs,jQ X.K H p xs)/\k=decide (t=.tuple)):=hk;rcases hk' with⟨⟨xs,hq⟩,e⟩|⟨⟨xs,hq⟩,e⟩;subst e;obtain⟨its,_,⟨o,n,ho,hc,_⟩,_⟩:=I.list hq;cases t with
  |int=>exact PySem.IsiPair.list_int ho hc (fin _)
  |bool=>exact PySem.IsiPair.list_bool ho hc (fin _)
  |str=>exact PySem.IsiPair.list_str ho hc (fin _)
  |tuple=>exact PySem.IsiPair.list_tuple ho hc (fin _)
  |list=>exact PySem.IsiPair.list_list ho hc fin0
  subst e;obtain⟨its,_,⟨o,ho,hc,_⟩,_⟩:=I.tuple hq;cases t with
  |int=>exact PySem.IsiPair.tuple_int ho hc (fin _)
  |bool=>exact PySem.IsiPair.tuple_bool ho hc (fin _)
  |str=>exact PySem.IsiPair.tuple_str ho hc (fin _)
  |tuple=>exact PySem.IsiPair.tuple_tuple ho hc fin0
  |list=>exact PySem.IsiPair.tuple_list ho hc (fin _)
 |_=>exact(show False from hk).elim
theorem v5:∀t,bootBuiltins (Str.ofString (aJ t))=some (.type (aJ t))
 |.int=>rfl
 |.bool=>rfl
 |.str=>rfl
 |.tuple=>rfl
 |.list=>rfl
theorem Jp{t:Ty}(hg:Gl X "isinstance")(hm:X.mg "isinstance"=none)(hg2:Gl X (Str.ofString (aJ t)))(hm2:X.mg (Str.ofString (aJ t))=none)(ha:PE X a (tI X.K EX (evE cf a')))(hs:au a=true) :
  PE X (.Call (.Name "isinstance" p) [a,.Name (Str.ofString (aJ t)) p2] [] pos) (tI X.K EX (evE cf (.isi a' [t]))):=by
 have hty:PE X (.Name (Str.ofString (aJ t)) p2) (tC (.ty (aJ t))):=uB hg2 hm2 (v5 t) rfl (by cases t<;>decide +kernel) (by cases t<;>decide +kernel)
 refine(cg Il hg hm zzC (aN ha (aN hty pa_nil (by rfl)) (ar hs _ _)) (by decide +kernel) (rfl) (ar hs _ _) (by rfl)).sub λτ H Q zq=>?_
 obtain⟨ρ,σ,h,re,hr,q⟩:=zq
 refine⟨ρ,σ,h,re,hr,q.bnd.mono λw h1 ρ1 H1 x1 hr1 q1 v r=>?_⟩
 cases e:bq h1 w t with
 |none=>simp[e]at q1;exact q1.elim
 |some k =>
  have q2 :=by simpa [e] using q1
  exact⟨v,t,k,rfl,yh hr1 e r,RQ.here hr1 q2 _ bu⟩
end
noncomputable def IK(z:Str):L2.It:=⟨λi _=>i<z.cps.size,λi H x H'=>H'=H/\∃c,z.cps[i]?=some c/\x=.str ⟨#[c]⟩,λi _=>i=z.cps.size⟩
theorem pZ{P:Program}{w:World}{K:Fg0}{tg:Expr}{z:Str}{t:Tok}{T:String}(it:Addr)(hn:["enumerate","zip","dict_itemiterator","dict_reverseitemiterator","odict_iterator","itertools.zip_longest","itertools.pairwise"].contains T=false)
  (W:∀A':Around,A'.handled=none->Walks P w A' it [it] [it] z.cps.size (SignAt z) (λi h=>h.IsStrIter it T z t i)) (hself:∀(A:Around) (i:Nat) (s:Shared) (Q:Value->Shared->Prop) (E:Value->Shared->Prop),s.heap.IsStrIter it T z t i->Q (.ref it) s->wpAny (model P w) A (pyIter (.ref it)) Q E s):Turn P w K tg (IK z) [it] it (λi h=>h.IsStrIter it T z t i) where
 mem:=ZzS
 obj:=λi h st b hb=>by
  obtain rfl:b=it:=by simpa using hb
  obtain⟨o,e,c,d⟩:=st;exact⟨o,e,λv z=>by rw[d]at z;cases z⟩
 keep:=λi h h' st k=>by obtain⟨o,e,r⟩:=st;exact⟨o,k it ZzS o e,r⟩
 item:=by intro X hP hw hK hc i pins s σ H E I hf st hg;subst hP hw hK;obtain⟨f0,f1,f2,f3,f4,f5⟩:=hf it ZzS;refine(W X.A (I.ok.hd hc)).item i s _ _ hg st λv h' tk hP st' kk=>?_;obtain⟨c,u,e1,rfl⟩:=hP;have I1:Inv X pins σ H { s with heap:=h',toks:=tk }:=I.turned (λb o hb e=>kk b o (by simpa using hb) e) f0 f1 f3 f4 f5;obtain⟨o,e,c2,d⟩:=id st';exact⟨_,rfl,uI (s:={ s with heap:=h',toks:=tk }) e c2 d hn ⟨.str ⟨#[c]⟩,H,I1,⟨u,rfl⟩,⟨rfl,c,e1,rfl⟩,st',λb hb=>(hf b hb).1⟩⟩
 done:=by intro X hP hw hK hc i pins s σ H E I hf st hg;subst hP hw hK;obtain⟨f0,f1,f2,f3,f4,f5⟩:=hf it ZzS;cases (show i=z.cps.size from hg);exact(W X.A (I.ok.hd hc)).done s _ _ st λh' tk kk=>⟨rfl,I.turned (λb o hb e=>kk b o (by simpa using hb) e) f0 f1 f3 f4 f5⟩
 self:=λA i s Q E st h=>hself A i s Q E st h
theorem HS{X:Cx}{tg:Expr}{pins:List (Addr×Obj)}{σ:L2.St}{H:Hp}{s:Shared}{R:L2.It->Hp->Prop}{E:Value->Shared->Prop}{z:Str}{t:Tok}(I:Inv X pins σ H s)(q:R (IK z) H):wpAny (model X.prog X.w) X.A (pyIter (.str z t)) (Nm X pins σ tg R) E s:=by
 have fp:∀b∈[s.heap.objs.size],iP X pins H b:=λb hb=>by
  obtain rfl:b=s.heap.objs.size:=by simpa using hb
  exact I.fpOk (zD _) (I.hok.fresh (zD _))
 cases ha:z.cps.all (·<128);exact wpAny_pyIter_wide ha ⟨s.heap.objs.size,[s.heap.objs.size],_,_,H,rfl,I.kept  λb o e=>hps0 _ e,pZ (t:=t) _ ZzD (λA' hA=>Walks.strWide hA _ z t) (λA i s Q E st h=>wpAny_pyIter_striter_wide st h),⟨_,zG _ rfl,rfl,rfl⟩,fp,q⟩;exact wpAny_pyIter_ascii ha ⟨s.heap.objs.size,[s.heap.objs.size],_,_,H,rfl,I.kept (t':=s.toks) λb o e=>hps0 _ e,pZ (t:=t) _ ZzD (λA' hA=>Walks.strAscii hA _ z t) (λA i s Q E st h=>wpAny_pyIter_striter_ascii st h),⟨_,zG _ rfl,rfl,rfl⟩,fp,q⟩
section
variable {P:Program}{w:World}{A:Around}{E:Value->Shared->Prop}
theorem m9(ne:l≠it):∀(n i:Nat) (s:Shared) (Q:List Value->Shared->Prop),s.heap.IsListIter it l i->s.heap.IsList l items->i+n<=items.size ->
  (∀h',h'.IsListIter it l (i+n)->Heap.SameBut it s.heap h'->Q ((items.toList.drop i).take n) { s with heap:=h' })->wpAny (model P w) A (draw (.ref it) n) Q E s
 |0,i,s,Q,a,b,hl,q=>by rw[draw];exact zH (q s.heap a (Heap.SameBut.refl _ _))
 |n+1,i,s,Q,a,b,hl,q=>by rw[draw];have hi:i<items.size:=ZzL;refine zd (wpAny_pyNext_list_item a b (x:=items[i]) ZzS λh1 a1 sb1=>?_);obtain⟨o,o1,o2⟩:=b;refine zd (Zu (m9 ne n (i+1) _ _ a1 ⟨o,(sb1.2 l ne).trans o1,o2⟩ ZzL λh2 a2 sb2=>zH ?_));have:=q h2 (by grind) (sb1.trans sb2);rw[<- List.getElem_cons_drop (h:=by simpa using hi),List.take_succ_cons]at this;simpa using this
theorem jC(hh:A.handled=none)(hl:s.heap.IsList l items)(q:∀h':Heap,Heap.ExtBut s.heap.objs.size s.heap h'->Q items.toList { s with heap:=h' }):wpAny (model P w) A (unpackItems (.ref l) items.size none) Q E s:=by unfold unpackItems;refine zd ?_;refine zd (wpAny_specialOf hl.typeIs slot_list_iter.lookup ?_);dsimp only[Option.isSome];rw[zF rfl];refine zH ?_;rw[zM ZzD];refine zd (Zu (zzJ hl ?_));obtain⟨o,o1,o2⟩:=id hl;have ne:l≠s.heap.objs.size:=zU (zL o1);have hl1:(s.heap.push { cls:=.type "list_iterator",data:=.fields #[.ref l,.int 0 0] }).IsList l items:=⟨o,hps0 _ o1,o2⟩;refine zd (Zu (m9 ne items.size 0 _ _ ⟨_,zG _ rfl,rfl,rfl⟩ hl1 ZzS λh1 a1 sb1=>?_));rw[zzu,Z3 ZzS,zM ZzS];rw[ZV]at a1;obtain⟨o',o1',o2'⟩:=id hl1;refine zd (Zu (wpAny_pyNext_list_end hh a1 ⟨o',(sb1.2 l ne).trans o1',o2'⟩ ZzS λh2 eb=>?_));rw[zM ZzD];refine zH (q h2 λb ob hb e=>eb b ob hb ?_);exact(sb1.2 b hb).trans (hps0 _ e)
end
section
variable {X:Cx}{pos:Pos}
theorem FF{es:List Expr}{k:Nat}{t:En}{n:Nat}(hc:X.calm=true)(h:PGs X es t)(hn:(assignEach es X.env).length=n)(hst:(assignEach es X.env).findIdx? (·.1)=none):PG X (.Tuple es k pos) (λv σ H Q=>∃a xs,v=.ref a/\iI X.K H a xs/\xs.length=n/\t xs σ H Q):=by intro pins s σ H v u Q I r hw;obtain⟨a,xs,e1,hq,hl,hw⟩:=hw;subst e1;cases r;obtain⟨its,rv,ht,hz⟩:=I.list hq;refine zd (zzF ?_);unfold unpack;rw[hst,show(assignEach es X.env).length=its.toArray.size by simp[hn,<- hl,rv.length]];refine zd (Zu (jC (I.ok.hd hc) ht.isList λh' hx=>?_));have I1 :=I.kept (t':=s.toks) λb o e=>hx b o (zU (zL e)) e;exact h pins _ σ H xs _ Q I1 (by simpa using rv) hw
theorem _root_.L2.PG.or(p:PG X e t)(p':PG X e t'):PG X e (λv σ H Q=>t v σ H Q\/t' v σ H Q):=λpins s σ H v u Q I r q=>by rcases q with q|q;exact p pins s σ H v u Q I r q;exact p' pins s σ H v u Q I r q
end
section
variable {X:Cx}{EX:cb}{cf:CF}{fw:Nat}{pos:Pos}{a b c e:Expr}{a' b' c' e':E}
theorem E9:PSs X [] (dg X.K EX (aA cf fw [])):=pss_nil.sub λD τ H zq=>by obtain⟨ρ,σ,h,re,hr,q⟩:=zq;rw[aA]at q;exact RQ.here hr q τ re
theorem Bj{st:Stmt}(h1:PS X st (dg X.K EX (exS cf fw s')))(h2:PSs X sts (dg X.K EX (aA cf fw ss'))):PSs X (st::sts) (dg X.K EX (aA cf fw (s'::ss'))) :=
 (cT h1 h2).sub λD τ H zq=>by
  obtain⟨ρ,σ,h,re,hr,q⟩:=zq;refine⟨ρ,σ,h,re,hr,q.bnd.mono λfl h1 ρ1 H1 x1 hr1 q1=>?_⟩;cases fl with
  |nx σ1=>exact λτ1 re1=>⟨ρ1,σ1,h1,re1,hr1,q1⟩
  |ret w=>exact RQ.here (EX:=EX) hr1 q1
  |brk σ1=>exact RQ.here (EX:=EX) hr1 q1
  |cnt σ1=>exact RQ.here (EX:=EX) hr1 q1
theorem Fm:PS X (.Pass pos) (dg X.K EX (exS cf fw .pass_)):=ps_pass.sub λD τ H zq=>by obtain⟨ρ,σ,h,re,hr,q⟩:=zq;rw[exS]at q;exact RQ.here hr q τ re
theorem Jw:PS X (.Break pos) (dg X.K EX (exS cf fw .brk)):=ps_break.sub λD τ H zq=>by obtain⟨ρ,σ,h,re,hr,q⟩:=zq;exact RQ.here hr q τ re
theorem L6:PS X (.Continue pos) (dg X.K EX (exS cf fw .cnt)):=ps_continue.sub λD τ H zq=>by obtain⟨ρ,σ,h,re,hr,q⟩:=zq;exact RQ.here hr q τ re
noncomputable def cG(e:Expr):Bool:=match e with
 |.ListComp ..=>false
 |.SetComp ..=>false
 |.DictComp ..=>false
 |_=>true
theorem fz(h:cG e=true)(t)(n)(env):swapsWith e t n env=pure false:=by cases e<;>first|rfl|cases h
theorem yq{i:Nat}{x:Str}{p:Pos}(hN:X.N.Nodup)(hi:X.N[i]?=some x)(hx:sJ X.env.scope x)(hf:X.fn x=true\/X.env.scope.names.lookup x=some .local)(he:PE X e (tI X.K EX (evE cf e')))(hc:cG e=true) :
  PS X (.Assign [.Name x p] e pos) (dg X.K EX (exS cf fw (.asg i e'))):=(fM hN hi hx he (fz hc _ _ _) hf).sub λD τ H zq=>by
 obtain⟨ρ,σ,h,re,hr,q⟩:=zq
 exact⟨ρ,σ,h,re,hr,q.bnd.mono λw h1 ρ1 H1 x1 hr1 q1 v r=>(RQ.here hr1 q1 _ ((re.ext x1).set i r))⟩
theorem LN(he:PE X e (tI X.K EX (evE cf e')))(hc:cG e=true):PS X (.Expr e pos) (dg X.K EX (exS cf fw (.exp e'))):=(BD he (fz hc _ _ _)).sub λD τ H zq=>by obtain⟨ρ,σ,h,re,hr,q⟩:=zq;exact⟨ρ,σ,h,re,hr,q.bnd.mono λw h1 ρ1 H1 x1 hr1 q1 v r=>RQ.here hr1 q1 _ (re.ext x1)⟩
theorem Ku:PS X (.Expr (.Constant (.str s) j p) pos) (dg X.K EX (exS cf fw .pass_)):=ps_doc.sub λD τ H zq=>by obtain⟨ρ,σ,h,re,hr,q⟩:=zq;exact RQ.here hr q τ re
theorem A7(he:PE X e (tI X.K EX (evE cf e'))):PS X (.Return (some e) pos) (dg X.K EX (exS cf fw (.ret e'))):=(sV he).sub λD τ H zq=>by obtain⟨ρ,σ,h,re,hr,q⟩:=zq;exact⟨ρ,σ,h,re,hr,q.bnd.mono λw h1 ρ1 H1 x1 hr1 q1 v r=>RQ.here hr1 q1 _ r⟩
theorem NW(hc:PT X c (fC X.K EX (bw cf c')))(ha:PSs X as (dg X.K EX (aA cf fw as')))(hb:PSs X bs (dg X.K EX (aA cf fw bs'))):PS X (.If c as bs pos) (dg X.K EX (exS cf fw (.if_ c' as' bs'))) :=
 (Le hc ha hb).sub λD τ H zq=>by
  obtain⟨ρ,σ,h,re,hr,q⟩:=zq;refine⟨ρ,σ,h,re,hr,q.bnd.mono λk h1 ρ1 H1 x1 hr1 q1=>?_⟩;cases k with
  |true=>exact rq ⟨ρ1,σ,h1,re.ext x1,hr1,by simp_all⟩
  |false=>exact qM ⟨ρ1,σ,h1,re.ext x1,hr1,by simp_all⟩
theorem D3(hp:PassesOwn (model X.prog X.w) X.A X.env X.xe)(hc:PT X c (fC X.K EX (bw cf c')))(hb:PSs X bs (dg X.K EX (aA cf fw bs'))):PS X (.While c bs [] pos) (dg X.K EX (exS cf fw (.while_ c' bs'))) :=
 (yI hp hc hb).sub λD τ H zq=>by
  obtain⟨ρ,σ,h,re,hr,q⟩:=zq;rw[exS]at q;refine⟨λm τ H=>TR X.K EX (wh (bw cf c') (aA cf fw bs') m) (kY X.K D) τ H,⟨fw,ρ,σ,h,re,hr,q⟩,?_⟩;rintro m τ1 H1 ⟨ρ1,σ1,h1,re1,hr1,q1⟩;cases m with
  |zero=>exact q1.elim
  |succ n=>
   rw[wh]at q1;refine⟨ρ1,σ1,h1,re1,hr1,q1.bnd.mono λk h2 ρ2 H2 x2 hr2 q2=>?_⟩;cases k with
   |false=>exact qM (RQ.here hr2 q2 _ (re1.ext x2))
   |true=>
    refine rq ⟨λτ' H'=>TR X.K EX (wh (bw cf c') (aA cf fw bs') n) (kY X.K D) τ' H',λτ' H' p=>⟨n,zzt n,p⟩,?_⟩;refine⟨ρ2,σ1,h2,re1.ext x2,hr2,q2.bnd.mono λfl h3 ρ3 H3 x3 hr3 q3=>?_⟩;cases fl with
    |nx σ4=>exact λτ4 re4=>⟨ρ3,σ4,h3,re4,hr3,q3⟩
    |cnt σ4=>exact λτ4 re4=>⟨ρ3,σ4,h3,re4,hr3,q3⟩
    |brk σ4=>exact λτ4 re4=>RQ.here hr3 q3 τ4 re4
    |ret w=>exact λv r=>RQ.here hr3 q3 v r
inductive GR {α:Type} (K:Fg0) (rl:List Addr->α->Prop) (bd:α->ag->Option ag) (τ:L2.St) (H:Hp) (Q:L2.St->Hp->Prop):Prop
 |mk (ρ:List Addr) (σ:ag) (w:α) (σ':ag) (re:RelE K ρ H σ τ) (r:rl ρ w) (e:bd w σ=some σ') (q:∀τ',RelE K ρ H σ' τ'->Q τ' H)
def kE(K:Fg0)(is:List Nat):TG:=λv τ H Q=>GR K (λρ w=>Rel K ρ H w v) (aV is) τ H Q
def LI(K:Fg0)(is:List Nat):En:=λvs τ H Q=>GR K (λρ ws=>RelL K ρ H ws vs) (cY is) τ H Q
theorem _root_.L2.PG.sub(p:PG X e t)(h:∀v τ H Q,t' v τ H Q->t v τ H Q):PG X e t':=λpins s σ H v u Q I r q=>p pins s σ H v u Q I r (h _ _ _ _ q)
theorem _root_.L2.PGs.sub{e:List Expr}(p:PGs X e t)(h:∀v τ H Q,t' v τ H Q->t v τ H Q):PGs X e t':=λpins s σ H v u Q I r q=>p pins s σ H v u Q I r (h _ _ _ _ q)
theorem EU(hN:X.N.Nodup)(hi:X.N[i]?=some x)(hx:sJ X.env.scope x)(hf:X.fn x=true\/X.env.scope.names.lookup x=some .local):PG X (.Name x pos) (kE X.K [i]) :=
 (tS hN hi hx hf).sub λv τ H Q zq=>by obtain⟨ρ,σ,w,σ',re,r,e,q⟩:=zq;cases e;exact q _ (re.set i r)
theorem FN:PGs X [] (LI X.K []):=pgs_nil.sub λvs τ H Q zq=>by
 obtain⟨ρ,σ,ws,σ',re,rl,e,q⟩:=zq;cases ws with
 |nil=>cases e;exact⟨rl,q τ re⟩
 |cons w ws=>cases e
theorem DO{x:Str}{es:List Expr}(hN:X.N.Nodup)(hi:X.N[i]?=some x)(hx:sJ X.env.scope x)(hf:X.fn x=true\/X.env.scope.names.lookup x=some .local)(h2:PGs X es (LI X.K is)):PGs X (.Name x p::es) (LI X.K (i::is)) :=
 (Ao (tS hN hi hx hf) h2).sub λvs τ H Q zq=>by
  obtain⟨ρ,σ,ws,σ',re,rl,e,q⟩:=zq;cases ws with
  |nil=>cases e
  |cons w ws=>obtain⟨y,ys,rfl,r,rs⟩:=rl;exact⟨y,ys,rfl,ρ,_,ws,σ',re.set i r,rs,e,q⟩
theorem iA:∀{is:List Nat}{ws:List W}{σ σ':ag},cY is ws σ=some σ'->is.length=ws.length
 |[],[],_,_,_=>rfl
 |[],_::_,_,_,e=>by cases e
 |_::_,[],_,_,e=>by cases e
 |_::is,_::ws,_,_,e=>by simp[iA (is:=is)  e]
noncomputable def aM(e:Expr):Bool:=match e with
 |.Name ..=>true
 |_=>false
theorem gH:∀{es:List Expr} (env:Env),es.all aM=true->(assignEach es env).length=es.length/\(assignEach es env).findIdx? (·.1)=none
 |[],_,_=>⟨rfl,rfl⟩
 |.Name x p::es,env,h=>by have:=gH (es:=es) env (‹_›);exact⟨by simp[assignEach,this.1],by simp[assignEach,List.findIdx?_cons,this.2]⟩
 |.BoolOp ..::_,_,h=>by simp[aM]at h
 |.NamedExpr ..::_,_,h=>by simp[aM]at h
 |.BinOp ..::_,_,h=>by simp[aM]at h
 |.UnaryOp ..::_,_,h=>by simp[aM]at h
 |.Lambda ..::_,_,h=>by simp[aM]at h
 |.IfExp ..::_,_,h=>by simp[aM]at h
 |.Dict ..::_,_,h=>by simp[aM]at h
 |.Set ..::_,_,h=>by simp[aM]at h
 |.ListComp ..::_,_,h=>by simp[aM]at h
 |.SetComp ..::_,_,h=>by simp[aM]at h
 |.DictComp ..::_,_,h=>by simp[aM]at h
 |.GeneratorExp ..::_,_,h=>by simp[aM]at h
 |.Await ..::_,_,h=>by simp[aM]at h
 |.Yield ..::_,_,h=>by simp[aM]at h
 |.YieldFrom ..::_,_,h=>by simp[aM]at h
 |.Compare ..::_,_,h=>by simp[aM]at h
 |.Call ..::_,_,h=>by simp[aM]at h
 |.FormattedValue ..::_,_,h=>by simp[aM]at h
 |.JoinedStr ..::_,_,h=>by simp[aM]at h
 |.Constant ..::_,_,h=>by simp[aM]at h
 |.Attribute ..::_,_,h=>by simp[aM]at h
 |.Subscript ..::_,_,h=>by simp[aM]at h
 |.Starred ..::_,_,h=>by simp[aM]at h
 |.List ..::_,_,h=>by simp[aM]at h
 |.Tuple ..::_,_,h=>by simp[aM]at h
 |.Slice ..::_,_,h=>by simp[aM]at h
theorem JQ(hc:X.calm=true)(h:PGs X es (LI X.K is))(hn:es.all aM=true)(hl:es.length=is.length)(h2:is.length≠1):PG X (.Tuple es k pos) (kE X.K is) :=
 ((Hk (n:=es.length) hc h (gH X.env hn).1 (gH X.env hn).2).or (FF (n:=es.length) hc h (gH X.env hn).1 (gH X.env hn).2)).sub λv τ H Q zq=>by obtain⟨ρ,σ,w,σ',re,r,e,q⟩:=zq;unfold aV at e;split at e;exact absurd rfl h2;split at e;rename_i ws;obtain⟨p,xs,rfl,hq,rs⟩:=r;exact .inl ⟨p,xs,rfl,hq.sq,by rw[<- rs.length,<- iA e,hl],ρ,σ,ws,σ',re,rs,e,q⟩;rename_i ws;rw[Rel]at r;obtain⟨p,xs,rfl,_,hq,rs⟩:=r;exact .inr ⟨p,xs,rfl,.inl (.inl hq),by rw[<- rs.length,<- iA e,hl],ρ,σ,ws,σ',re,rs,e,q⟩;cases e
theorem kg{K:Fg0}
  (re:RelE K ρ H σ τ) (hr:HRel K ρ h H) (r:Rel K ρ H w v) (q:RQ K EX ρ H (fo is body (w::ws) σ h) (kY K D))
  (hN:∀τ' H' ρ' σ' h',Ext ρ H ρ' H'->RelE K ρ' H' σ' τ'->HRel K ρ' h' H'->RQ K EX ρ' H' (fo is body ws σ' h') (kY K D)->N τ' H') :
  kE K is v τ H λτ2 H2=>dg K EX body { D with nx:=N,ct:=N,bk:=D.nx } τ2 H2:=by
 rw[fo]at q
 split at q
 ·exact q.elim
 ·rename_i σ' e
  refine⟨ρ,σ,w,σ',re,r,e,λτ' re'=>⟨ρ,σ',h,re',hr,q.bnd.mono λfl h3 ρ3 H3 x3 hr3 q3=>?_⟩⟩
  cases fl with
  |nx σ4=>exact λτ4 re4=>hN _ _ _ _ _ x3 re4 hr3 q3
  |cnt σ4=>exact λτ4 re4=>hN _ _ _ _ _ x3 re4 hr3 q3
  |brk σ4=>exact λτ4 re4=>RQ.here hr3 q3 τ4 re4
  |ret w=>exact λv r=>RQ.here hr3 q3 v r
theorem hU{ws:List W}{i:Nat}{w:W}(e:ws[i]?=some w):ws.drop i=w::ws.drop (i+1):=by obtain⟨h,rfl⟩:=ze.mp e;simp_all
theorem RelL.back{K:Fg0}{i:Nat}(r:RelL K ρ H ws xs)(e:xs[i]?=some x):∃w,ws[i]?=some w/\Rel K ρ H w x:=by
 have hl:i<ws.length:=by rw[r.length];grind
 obtain⟨y,h1,h2⟩:=r.get (zJ hl);simp_all
def DP(K:Fg0)(tl:TE):TI:=λσ H R=>tl σ H λx H1=>(∃z,x=.str z/\R (IK z) H1)\/∃a,x=.ref a/\(((∃xs,iI K H1 a xs)/\R (v8 K a) H1)\/((∃xs,jQ K H1 a xs)/\R (yc K a) H1))
theorem xU(hl:PE X l tl):PI X tg l (DP X.K tl):=by
 intro pins s σ H R I h;refine aU (hl pins s σ H _ I h) λv s1 zq=>?_;obtain⟨x,H1,I1,r1,q1⟩:=zq;rcases q1 with⟨z,e,q⟩|⟨a,e,q1⟩;subst e;obtain⟨t,rfl⟩:=r1;exact HS I1 q;subst e;cases r1;rcases q1 with⟨⟨xs,hq⟩,q⟩|⟨⟨xs,hq⟩,q⟩;obtain⟨its,rv,p,hz⟩:=I1.list hq;refine zzJ p.isList ?_;refine⟨s1.heap.objs.size,[s1.heap.objs.size],_,_,H1,rfl,I1.kept (t':=s1.toks) λb o e=>hps0 _ e,vF a _,⟨_,zG _ rfl,rfl,rfl⟩,λb hb=>?_,q⟩;have e:b=s1.heap.objs.size:=by simpa using hb
 subst e;exact I1.fpOk (zD _) (I1.hok.fresh (zD _));obtain⟨its,rv,p,hz⟩:=I1.tuple hq;refine wpAny_pyIter_tuple (p) ?_;refine⟨s1.heap.objs.size,[s1.heap.objs.size],_,_,H1,rfl,I1.kept (t':=s1.toks) λb o e=>hps0 _ e,sC a _,⟨_,zG _ rfl,rfl,rfl⟩,λb hb=>?_,q⟩;have e:b=s1.heap.objs.size:=by simpa using hb
 subst e;exact I1.fpOk (zD _) (I1.hok.fresh (zD _))
noncomputable def cq(e:Expr):Bool:=match e with
 |.Set ..=>false
 |_=>true
theorem kf(h:cq e=true)(env)(x):foldedSetIterable e env x=pure x:=by cases e<;>first|rfl|cases h
theorem Ext.at{n:Nat}{a:Addr}(x:Ext ρ H ρ' H')(e:ρ[n]?=some a):ρ'[n]?=some a:=by obtain⟨t,rfl⟩:=x.pre;rw[zI (ze.mp e).1];lia
inductive TX {α:Type} (K:Fg0) (EX:cb) (ρ1:List Addr) (H1:Hp) (ev:ag->aa->Res α) (k:α->aa->List Addr->Hp->Prop) (τ:L2.St) (H:Hp):Prop
 |mk (ρ:List Addr) (σ:ag) (h:aa) (x:Ext ρ1 H1 ρ H) (re:RelE K ρ H σ τ) (hr:HRel K ρ h H) (q:RQ K EX ρ H (ev σ h) k)
theorem yV{tg:Expr}{is:List Nat}{bs:List Stmt}{bs':List S}(hp:PassesOwn (model X.prog X.w) X.A X.env X.xe)(hc:X.calm=true)(ha:PE X a (tI X.K EX (evE cf a')))(hg:PG X tg (kE X.K is))(hb:PSs X bs (dg X.K EX (aA cf fw bs')))
  (hs:cq a=true):PS X (.For tg a bs [] pos) (dg X.K EX (exS cf fw (.for_ is (.seq a') bs'))) :=
 (pf hp hc (xU ha) hg hb (kf hs _)).sub λD τ H zq=>by
  obtain⟨ρ,σ,h,re,hr,q⟩:=zq;rw[exS]at q;refine⟨ρ,σ,h,re,hr,q.bnd.mono λw h1 ρ1 H1 x1 hr1 q1 v r=>?_⟩;have re1:=re.ext x1
  have lists:∀(p:Addr) (ws:List W) (xs:List V),(∀ρ2 H2,Ext ρ1 H1 ρ2 H2->iI X.K H2 p xs)->RelL X.K ρ1 H1 ws xs->RQ X.K EX ρ1 H1 (fo is (aA cf fw bs') ws σ h1) (kY X.K D) ->
    ∃W:Nat->Nat->L2.St->Hp->Prop,(∃m,W 0 m τ H1)/\∀i m σ H,W i m σ H ->
     ((v8 X.K p).stop i H/\D.nx σ H)\/((v8 X.K p).go i H/\∃N:L2.St->Hp->Prop,(∀σ' H',N σ' H'->∃m',m'<m/\W (i+1) m' σ' H')/\∀x H',(v8 X.K p).yld i H x H'->kE X.K is x σ H' λσ2 H2=>dg X.K EX (aA cf fw bs') { D with nx:=N,ct:=N,bk:=D.nx } σ2 H2):=by
   intro p ws xs hq rs q
   refine Bd (λi τ H=>TX X.K EX ρ1 H1 (fo is (aA cf fw bs') (ws.drop i)) (kY X.K D) τ H) ⟨ρ1,σ,h1,.refl,re1,hr1,q⟩ (λi τ2 H2 _ ⟨ρ2,_,_,x2,_,_,_⟩=>hq ρ2 H2 x2) ?_ ?_
   ·rintro i x τ2 H2 hi ⟨ρ2,σ2,h2,x2,re2,hr2,q2⟩
    obtain⟨w,e,rw'⟩:=(RelL.ext x2 ws xs rs).back hi
    rw[hU e]at q2
    exact kg re2 hr2 rw' q2 λτ' H' ρ' σ' h' x re' hr' q'=>⟨ρ',σ',h',x2.trans x,re',hr',q'⟩
   ·rintro τ2 H2 ⟨ρ2,σ2,h2,x2,re2,hr2,q2⟩
    rw[zzy (by rw[rs.length]<;>exact zD _)]at q2
    rw[fo]at q2
    exact RQ.here hr2 q2 _ re2
  cases w with
  |tup ws=>rw[Rel]at r;obtain⟨p,xs,rfl,hq,rs⟩:=r;refine .inr ⟨p,rfl,.inr ⟨⟨xs,hq.sq⟩,Cb (λi τ H=>TX X.K EX ρ1 H1 (fo is (aA cf fw bs') (ws.drop i)) (kY X.K D) τ H) ⟨ρ1,σ,h1,.refl,re1,hr1,q1⟩ (λi τ2 H2 _ ⟨ρ2,_,_,x2,_,_,_⟩=>(hq.ext x2).sq) ?_ ?_⟩⟩;rintro i x τ2 H2 hi ⟨ρ2,σ2,h2,x2,re2,hr2,q2⟩;obtain⟨w,e,rw'⟩:=(RelL.ext x2 ws xs rs).back hi;rw[hU e]at q2;exact kg re2 hr2 rw' q2 λτ' H' ρ' σ' h' x re' hr' q'=>⟨ρ',σ',h',x2.trans x,re',hr',q'⟩;rintro τ2 H2 ⟨ρ2,σ2,h2,x2,re2,hr2,q2⟩;rw[zzy (by rw[rs.length]<;>exact zD _)]at q2;rw[fo]at q2;exact RQ.here hr2 q2 _ re2
  |lst ws=>rw[Rel]at r;obtain⟨p,xs,rfl,n,hq,rs⟩:=r;exact .inr ⟨p,rfl,.inl ⟨⟨xs,.inl (.inl hq)⟩,lists p ws xs (λρ2 H2 x2=>.inl (.inl (x2.keepN hq n (λ_ z=>by cases z)))) rs q1⟩⟩
  |scr ws=>rw[Rel]at r;obtain⟨p,xs,rfl,hq,rs⟩:=r;exact .inr ⟨p,rfl,.inl ⟨⟨xs,hq.sq⟩,lists p ws xs (λρ2 H2 x2=>(hq.ext x2).sq) rs q1⟩⟩
  |ref n=>
   rw[Rel]at r;obtain⟨p,rfl,hn⟩:=r;have q0:RQ X.K EX ρ1 H1 (vD n is (aA cf fw bs') fw 0 σ h1) (kY X.K D):=q1;have ex:∃xs,H1 p=some (.lst xs):=by
    cases fw with
    |zero=>rw[vD]at q0;exact q0.elim
    |succ k=>rw[vD]at q0;split at q0;rename_i ws e;obtain⟨_,xs,z,_⟩:=hr1.at_ n p _ hn e;exact⟨xs,z⟩;exact q0.elim
   obtain⟨xs0,hx0⟩:=ex;refine .inr ⟨p,rfl,.inl ⟨⟨xs0,.inl (.inl hx0)⟩,λi m τ H=>∃ρ σ h,ρ[n]?=some p/\RelE X.K ρ H σ τ/\HRel X.K ρ h H/\RQ X.K EX ρ H (vD n is (aA cf fw bs') m i σ h) (kY X.K D),⟨fw,ρ1,σ,h1,hn,re1,hr1,q0⟩,?_⟩⟩;rintro i m τ2 H2 ⟨ρ2,σ2,h2,hn2,re2,hr2,q2⟩;cases m with
   |zero=>rw[vD]at q2;exact q2.elim
   |succ k=>
    rw[vD]at q2;split at q2;rename_i ws e;obtain⟨_,xs,z,rs⟩:=hr2.at_ n p _ hn2 e;split at q2;rename_i e2;refine .inl ⟨⟨xs,.inl (.inl z),?_⟩,RQ.here hr2 q2 _ re2⟩;rw[<- rs.length];exact ZD.mp e2;rename_i w e2;obtain⟨x,ex,rx⟩:=rs.get e2;refine .inr ⟨⟨xs,x,.inl (.inl z),ex⟩,λτ' H'=>∃ρ σ h,ρ[n]?=some p/\RelE X.K ρ H' σ τ'/\HRel X.K ρ h H'/\RQ X.K EX ρ H' (vD n is (aA cf fw bs') k (i+1) σ h) (kY X.K D),λτ' H' z=>⟨k,zzt k,z⟩,λx' H' y=>?_⟩;obtain⟨rfl,y⟩:=y;have e3:=y xs (.inl (.inl z));rw[ex]at e3;cases e3;split at q2;exact q2.elim;rename_i σ' e4;refine⟨ρ2,σ2,w,σ',re2,rx,e4,λτ' re'=>⟨ρ2,σ',h2,re',hr2,q2.bnd.mono λfl h3 ρ3 H3 x3 hr3 q3=>?_⟩⟩;cases fl with
    |nx σ4=>exact λτ4 re4=>⟨ρ3,σ4,h3,x3.at hn2,re4,hr3,q3⟩
    |cnt σ4=>exact λτ4 re4=>⟨ρ3,σ4,h3,x3.at hn2,re4,hr3,q3⟩
    |brk σ4=>exact λτ4 re4=>RQ.here hr3 q3 τ4 re4
    |ret w=>exact λv r=>RQ.here hr3 q3 v r
    exact q2.elim
  |_=>exact q1.elim
theorem dj(cf)(e)(σ)(h):evA cf [e] σ h=bnd (evE cf e σ h) λw h=>.ok [w] h:=by
 rw[evA];cases evE cf e σ h with
 |ok w h1=>simp[bnd,evA]
 |exc c h1=>rfl
 |stuck=>rfl
theorem uj(cf)(e e2)(σ)(h):evA cf [e,e2] σ h=bnd (evE cf e σ h) λw h=>bnd (evE cf e2 σ h) λw2 h=>.ok [w,w2] h:=by
 rw[evA];cases evE cf e σ h with
 |ok w h1=>have z:=dj cf e2 σ h1;simp only[bnd]at z ⊢;rw[z];cases evE cf e2 σ h1<;>rfl
 |exc c h1=>rfl
 |stuck=>rfl
theorem rG{tg:Expr}{is:List Nat}{bs':List S}{lo:Int}{n:Nat}{D:Ends}{τ:L2.St}{ρ1:List Addr}{H1:Hp}{σ:ag}{h1:aa}(re1:RelE X.K ρ1 H1 σ τ)(hr1:HRel X.K ρ1 h1 H1)
  (q1:RQ X.K EX ρ1 H1 (fo is (aA cf fw bs') ((List.range n).map λ(k:Nat)=>W.int (lo+(k))) σ h1) (kY X.K D)) :
  ∃W:Nat->Nat->L2.St->Hp->Prop,(∃m,W 0 m τ H1)/\∀i m σ H,W i m σ H ->
   ((wC lo n).stop i H/\D.nx σ H)\/((wC lo n).go i H/\∃N:L2.St->Hp->Prop,(∀σ' H',N σ' H'->∃m',m'<m/\W (i+1) m' σ' H')/\∀x H',(wC lo n).yld i H x H'->kE X.K is x σ H' λσ2 H2=>dg X.K EX (aA cf fw bs') { D with nx:=N,ct:=N,bk:=D.nx } σ2 H2):=by
 refine vH (λi τ H=>TR X.K EX (fo is (aA cf fw bs') (((List.range n).map λ(k:Nat)=>W.int (lo+(k:Int))).drop i)) (kY X.K D) τ H)
  ⟨ρ1,σ,h1,re1,hr1,q1⟩ ?_ ?_
 ·rintro i τ2 H2 hi ⟨ρ2,σ2,h2,re2,hr2,q2⟩
  rw[hU (w:=.int (lo+(i:Int))) (by simp[hi])]at q2
  exact kg re2 hr2 bh q2 λτ' H' ρ' σ' h' x re' hr' q'=>⟨ρ',σ',h',re',hr',q'⟩
 ·rintro τ2 H2 ⟨ρ2,σ2,h2,re2,hr2,q2⟩
  rw[zzy ZzS]at q2
  exact RQ.here hr2 q2 _ re2
theorem Hi(hp:PassesOwn (model X.prog X.w) X.A X.env X.xe)(hc:X.calm=true)(hgl:Gl X "range")(hm:X.mg "range"=none)
  (ha:PE X a (tI X.K EX (evE cf a'))) (hn:au a=true) (hg:PG X tg (kE X.K is)) (hb:PSs X bs (dg X.K EX (aA cf fw bs'))) :
  PS X (.For tg (.Call (.Name "range" p) [a] [] p2) bs [] pos) (dg X.K EX (exS cf fw (.for_ is (.rng [a']) bs'))) :=
 (pf hp hc (m8 hgl hm (aN ha pa_nil (ar hn _ _)) (ar hn _ _)) hg hb (by intro _;rfl)).sub λD τ H zq=>by
  obtain⟨ρ,σ,h,re,hr,q⟩:=zq;rw[exS,dj,cD]at q;refine⟨ρ,σ,h,re,hr,q.bnd.mono λw h1 ρ1 H1 x1 hr1 q1 v r=>?_⟩;have q2:RQ X.K EX ρ1 H1 (match lQ [w] with|some ks=>fo is (aA cf fw bs') ks σ h1|none=>.stuck) (kY X.K D):=q1;rw[cM]at q2;cases w with
  |int j=>cases az r;unfold jV at q2;dsimp only at q2;split at q2;rename_i ks ek;split at ek;rename_i hj;cases ek;exact⟨j,rfl,hj.1,hj.2,rG (tg:=tg) (re.ext x1) hr1 q2⟩;cases ek;exact q2.elim
  |_=>exact q2.elim
theorem Gz(hp:PassesOwn (model X.prog X.w) X.A X.env X.xe)(hc:X.calm=true)(hgl:Gl X "range")(hm:X.mg "range"=none)
  (ha:PE X a (tI X.K EX (evE cf a'))) (hb0:PE X b (tI X.K EX (evE cf b'))) (hn:au a=true) (hn2:au b=true) (hg:PG X tg (kE X.K is)) (hb:PSs X bs (dg X.K EX (aA cf fw bs'))) :
  PS X (.For tg (.Call (.Name "range" p) [a,b] [] p2) bs [] pos) (dg X.K EX (exS cf fw (.for_ is (.rng [a',b']) bs'))) :=
 (pf hp hc (mP hgl hm (aN ha (aN hb0 pa_nil (ar hn2 _ _)) (ar hn _ _)) (by rw[ar hn,ar hn2];rfl) (by rw[ar hn2];rfl)) hg hb (by intro _;rfl)).sub λD τ H zq=>by obtain⟨ρ,σ,h,re,hr,q⟩:=zq;rw[exS,uj,cD]at q;refine⟨ρ,σ,h,re,hr,q.bnd.mono λw h1 ρ1 H1 x1 hr1 q1 v r=>?_⟩;rw[cD]at q1;refine⟨ρ1,σ,h1,re.ext x1,hr1,q1.bnd.mono λw2 h2 ρ2 H2 x2 hr2 q2 v2 r2=>?_⟩;have r1:=Rel.ext x2 _ _ r;have q3:RQ X.K EX ρ2 H2 (match lQ [w,w2] with|some ks=>fo is (aA cf fw bs') ks σ h2|none=>.stuck) (kY X.K D):=q2;rw[cM]at q3;unfold jV at q3;split at q3;rename_i ks ek;split at ek;rename_i e;cases e;rename_i i j e;cases e;cases az r1;cases az r2;split at ek;rename_i hj;cases ek;exact⟨i,j,rfl,hj,rG (tg:=tg) ((re.ext x1).ext x2) hr2 q3⟩;cases ek;cases ek;exact q3.elim
end
section
variable {X:Cx}{EX:cb}{cf:CF}{fw:Nat}{pos:Pos}{a b c e:Expr}{a' b' c' e':E}
theorem rY(hk:env.scope.kind=.function)(hx:env.scope.names.lookup x=some .local)(hy:env.scope.names.lookup y=some .local)(hl:py.line=px.line)(hne:x≠y)
  (h1:au a=true) (h2:au b=true) (h3:(foldedForSure 8 a&&foldedForSure 8 b)=false) (h4:(constantsAlone 8 a&&constantsAlone 8 b)=false) :
  swappedStores [.Tuple [.Name x px,.Name y py] kt pt] (.Tuple [a,b] k2 pt2) env=pure (some [x,y]):=by
 have ky:(env.kindOf y==some NameKind.local)=true:=by simp[Env.kindOf,hy]
 have bk:env.blockKind=.function:=by unfold Env.blockKind;rw[hk];rfl
 have s1:(match a with|.Starred ..=>true|_=>false)=false:=by cases a<;>first|rfl|cases h1
 have s2:(match b with|.Starred ..=>true|_=>false)=false:=by cases b<;>first|rfl|cases h2
 have hne':¬ y=x:=λz=>hne z.symm
 have kx':env.kindOf x=some NameKind.local:=hx
 have ky':env.kindOf y=some NameKind.local:=hy
 unfold swappedStores
 simp[bk,Expr.pos]
 rw[zM (by
  clear s1 s2
  rintro (h|h)
  ·split at h
   ·exact absurd h1 (by simp[au])
   ·cases h
  ·split at h
   ·exact absurd h2 (by simp[au])
   ·cases h)]
 simp only[List.filterMap,kx',ky',hl,and_self,if_true]
 rw[zM (by simp[List.eraseDups_cons,hne']),zM (by intro h;simp[h.1,h.2]at h3),zM (by intro h;simp[h.1,h.2]at h4)]
theorem KG(hc:X.calm=true)(hN:X.N.Nodup)(hi:X.N[i]?=some x)(hj:X.N[j]?=some y)(hij:i≠j)(hk:X.env.scope.kind=.function)
  (hx:X.env.scope.names.lookup x=some .local) (hy:X.env.scope.names.lookup y=some .local) (hl:py.line=px.line) (h1:au a=true) (h2:au b=true) (h3:(foldedForSure 8 a&&foldedForSure 8 b)=false) (h4:(constantsAlone 8 a&&constantsAlone 8 b)=false)
  (ha:PE X a (tI X.K EX (evE cf a'))) (hb:PE X b (tI X.K EX (evE cf b'))) :
  PS X (.Assign [.Tuple [.Name x px,.Name y py] kt pt] (.Tuple [a,b] k2 pt2) pos) (dg X.K EX (exS cf fw (.par i j a' b'))):=by
 have hne:x≠y:=by rintro rfl;exact hij ((List.getElem?_inj (ze.mp hi).1 hN).mp (hi.trans hj.symm))
 refine(Fg hc hN hi hj hij hx hy (aN ha (aN hb pa_nil (ar h2 _ _)) (ar h1 _ _)) (rY hk hx hy hl hne h1 h2 h3 h4)).sub λD τ H zq=>?_
 obtain⟨ρ,σ,h,re,hr,q⟩:=zq
 refine⟨ρ,σ,h,re,hr,q.bnd.mono λw h1 ρ1 H1 x1 hr1 q1 v r=>?_⟩
 refine⟨ρ1,σ,h1,re.ext x1,hr1,q1.bnd.mono λw2 h2 ρ2 H2 x2 hr2 q2 v2 r2=>?_⟩
 exact⟨v,v2,rfl,RQ.here hr2 q2 _ ((((re.ext x1).ext x2).set i (Rel.ext x2 _ _ r)).set j r2)⟩
noncomputable def A9(e:Expr):Bool:=match e with
 |.Tuple ..=>false
 |_=>true
theorem CO(h:A9 e=true)(env):swappedStores [.Tuple es k pt] e env=pure none:=by cases e<;>first|rfl|cases h
theorem Jy(hg:PG X (.Tuple es k pt) (kE X.K is))(h2:is.length≠1)(he:PE X e (tI X.K EX (evE cf e')))(hc:cG e=true)(ht:A9 e=true) :
  PS X (.Assign [.Tuple es k pt] e pos) (dg X.K EX (exS cf fw (.unp is e'))):=(sM he hg (by unfold swapsWithSole;exact fz hc _ _ _) (CO ht _) rfl).sub λD τ H zq=>by
 obtain⟨ρ,σ,h,re,hr,q⟩:=zq
 rw[exS]at q
 refine⟨ρ,σ,h,re,hr,q.bnd.mono λw h1 ρ1 H1 x1 hr1 q1 v r=>?_⟩
 split at q1
 ·rename_i ws
  split at q1
  ·rename_i σ' e
   refine⟨ρ1,σ,.tup ws,σ',re.ext x1,r,?_,λτ' re'=>RQ.here hr1 q1 τ' re'⟩
   unfold aV
   split
   ·exact absurd rfl h2
   ·exact e
  ·exact q1.elim
 ·rename_i ws
  split at q1
  ·rename_i σ' e
   refine⟨ρ1,σ,.lst ws,σ',re.ext x1,r,?_,λτ' re'=>RQ.here hr1 q1 τ' re'⟩
   unfold aV
   split
   ·exact absurd rfl h2
   ·exact e
  ·exact q1.elim
 ·exact q1.elim
def BY(K:Fg0)(EX:cb)(ev:ag->aa->Res (List W)):TE:=λτ H Q =>
 TR K EX ev (λws _ ρ' H'=>∀xs l,RelL K ρ' H' ws xs->H' l=none->Q (.ref l) (aW H' l (.lst xs))) τ H
theorem uo(hN:X.N.Nodup)(hi:X.N[i]?=some x)(hx:sJ X.env.scope x)(hf:X.fn x=true\/X.env.scope.names.lookup x=some .local)(he:PE X e (BY X.K EX (evF cf e')))(hc:cG e=true) :
  PS X (.Assign [.Name x p] e pos) (dg X.K EX (exS cf fw (.fresh i e'))):=(fM hN hi hx he (fz hc _ _ _) hf).sub λD τ H zq=>by
 obtain⟨ρ,σ,h,re,hr,q⟩:=zq
 refine⟨ρ,σ,h,re,hr,q.bnd.mono λws h1 ρ1 H1 x1 hr1 q1 xs l rs n=>?_⟩
 split at q1
 ·rename_i hpure
  have y:=ext_cell (o:=.lst xs) hr1 n
  refine q1 _ _ y (hr1.cell n hpure rs) _ (((re.ext x1).ext y).set i ?_)
  rw[Rel]
  exact⟨l,rfl,by rw[<- hr1.len];simp⟩
 ·exact q1.elim
theorem Jq(h:PA X es (mz X.K EX (evA cf es'))):PE X (.List es pos) (BY X.K EX (evF cf (.lst es'))):=(oA h).sub λτ H Q zq=>by obtain⟨ρ,σ,h,re,hr,q⟩:=zq;rw[evF]at q;refine⟨ρ,σ,h,re,hr,q.bnd.mono λws h1 ρ1 H1 x1 hr1 q1 vs rs=>?_⟩;split at q1;exact⟨by rw[<- rs.length];lia,λl n=>RQ.here hr1 q1 _ _ rs n⟩;exact q1.elim
def rF(K:Fg0)(EX:cb)(f:W->W->aa->Res (List W)):R2:=λx y H Q =>
 ∃ρ h w1 w2,HRel K ρ h H/\Rel K ρ H w1 x/\Rel K ρ H w2 y/\RQ K EX ρ H (f w1 w2 h) λws _ ρ' H'=>∀xs l,RelL K ρ' H' ws xs->H' l=none->Q (.ref l) (aW H' l (.lst xs))
theorem Jo{K:Fg0}
  (q:BY K EX (λσ h=>bnd (ea σ h) λx h=>bnd (eb σ h) λy h=>f x y h) τ H Q):IH (rF K EX f) (tI K EX ea) (tI K EX eb) τ H Q:=by
 obtain⟨ρ,σ,h,re,hr,q⟩:=q
 exact⟨ρ,σ,h,re,hr,q.bnd.mono λw1 h1 ρ1 H1 x1 hr1 q1 v1 r1=>(⟨ρ1,σ,h1,re.ext x1,hr1,q1.bnd.mono λw2 h2 ρ2 H2 x2 hr2 q2 v2 r2=>(⟨ρ2,h2,w1,w2,hr2,Rel.ext x2 _ _ r1,r2,q2⟩)⟩)⟩
theorem Js(ha:PE X a (tI X.K EX (evE cf a')))(hb:PE X b (tI X.K EX (evE cf b'))):PE X (.BinOp a .Mult b pos) (BY X.K EX (evF cf (.bin .Mult a' b'))):=by
 have ho:gq X (binaryOp .Mult) (rF X.K EX λx y h=>match y with|.int j=>wR (seqM h x) j h|_=>.stuck):=by
  intro pins s σ H x y v u Q I rx ry zq12;obtain⟨ρ,h,w1,w2,hr,r1,r2,q⟩:=zq12;cases w2 with
  |int j=>
   cases az r2;cases e:seqM h w1 with
   |none=>simp only[e,wR]at q;exact q.elim
   |some ws=>simp only[e,wR]at q;split at q;rename_i hm;obtain⟨l,xs,rfl,e1,s1⟩:=bS hr e r1;exact(xP (X:=X)) pins s σ H _ _ v u Q I rx ry ⟨l,j,xs,rfl,rfl,e1,hm.1,hm.2.1,by rw[<- s1.length];exact hm.2.2,λp n=>RQ.here hr q _ _ (s1.flatrep _) n⟩;exact q.elim
  |_=>exact q.elim
 exact(uO ho ha hb).sub λτ H Q q=>Jo (by assumption)
theorem Kq(ha:PE X a (tI X.K EX (evE cf a')))(hb:PE X b (tI X.K EX (evE cf b'))):PE X (.BinOp a .Add b pos) (BY X.K EX (evF cf (.bin .Add a' b'))):=by
 have ho:gq X (binaryOp .Add) (rF X.K EX λx y h=>cX (seqM h x) (seqM h y) h):=by
  intro pins s σ H x y v u Q I rx ry zq12;obtain⟨ρ,h,w1,w2,hr,r1,r2,q⟩:=zq12;cases e:seqM h w1 with
  |none=>simp only[e,cX]at q;exact q.elim
  |some ws=>
   cases e':seqM h w2 with
   |none=>simp only[e,e',cX]at q;exact q.elim
   |some us=>simp only[e,e',cX]at q;split at q;rename_i hm;obtain⟨l,xs,rfl,e1,s1⟩:=bS hr e r1;obtain⟨l2,ys,rfl,e2,s2⟩:=bS hr e' r2;exact(sj ) pins s σ H _ _ v u Q I rx ry ⟨l,l2,xs,ys,rfl,rfl,e1,e2,by rw[<- s1.length,<- s2.length];exact hm,λp n=>RQ.here hr q _ _ (s1.append s2) n⟩;exact q.elim
 exact(uO ho ha hb).sub λτ H Q q=>Jo (by assumption)
theorem Ip(hg:Gl X "list")(hm:X.mg "list"=none)(ha:PE X a (tI X.K EX (evE cf a')))(hs:au a=true):PE X (.Call (.Name "list" p) [a] [] pos) (BY X.K EX (evF cf (.blt .list [a']))) :=
 (bC jh hg hm zz9 (aN ha pa_nil (ar hs _ _)) (by decide +kernel) (rfl) (ar hs _ _) (by rfl)).sub λτ H Q zq=>by obtain⟨ρ,σ,h,re,hr,q⟩:=zq;refine⟨ρ,σ,h,re,hr,q.bnd.mono λw h1 ρ1 H1 x1 hr1 q1 v r=>?_⟩;split at q1;rename_i us e;obtain⟨p,ys,rfl,hq,rs⟩:=dQ hr1 e r;exact⟨p,ys,rfl,hq,λl n=>RQ.here hr1 q1 _ _ rs n⟩;exact q1.elim
theorem wy(hN:X.N.Nodup)(hi:X.N[i]?=some x)(hx:sJ X.env.scope x)(hf:X.fn x=true\/X.env.scope.names.lookup x=some .local)(ha:PE X a (tI X.K EX (evE cf a')))(hb:PE X b (tI X.K EX (evE cf b'))) :
  PS X (.Assign [.Name x p] (.Dict [some a] [b] dp) pos) (dg X.K EX (exS cf fw (.freshD1 i a' b'))) :=
 (fM hN hi hx (Dy (x5 ha hb Dc) rfl rfl ZzS ZzS) rfl hf).sub λD τ H zq=>by
 obtain⟨ρ,σ,h,re,hr,q⟩:=zq
 rw[exS]at q
 intro l n
 have x0:=ext_cell (o:=.dK []) hr n
 have hr0:=hr.cellD n
 have hl0:(ρ++[l])[h.length]?=some l:=by rw[<- hr.len,zK (zD _),zzP];rfl
 refine⟨_,σ,_,re.ext x0,hr0,(RQ.wk x0 q).bnd.mono λw1 h1 ρ1 H1 x1 hr1 q1 v1 r1=>?_⟩
 refine⟨ρ1,σ,h1,(re.ext x0).ext x1,hr1,q1.bnd.mono λw2 h2 ρ2 H2 x2 hr2 q2 v2 r2=>?_⟩
 have hl2:=x2.at (x1.at hl0)
 split at q2
 ·rename_i s e
  obtain⟨_,xs,z,zl,rs⟩:=hr2.at_ _ l _ hl2 e
  cases aB (Rel.ext x2 _ _ r1)
  cases xs with
  |cons _ _=>cases zl
  |nil =>
  split at q2
  ·rename_i hp
   refine⟨z,[(Sum.inr s,v2)],rfl,by show 1<=15;decide,?_⟩
   have x3:=ext_write (H:=H2) (o:=.dK (([s].map Sum.inr).zip [v2])) hl2
   refine q2 _ _ x3 (hr2.writeD hl2 (by rw[ah,hp];rfl) rfl (.cons r2 .nil)) _ ((((re.ext x0).ext x1).ext x2).ext x3 |>.set i ?_)
   rw[Rel]
   exact⟨l,rfl,hl2⟩
  ·exact q2.elim
 ·exact q2.elim
def Kr:D2:=λo i v H Q=>EE o i v H Q\/∃a y H',o=.ref a/\i=y/\DPut H a y v H'/\Q H'
theorem qB(hu:X.A.units+64<cLine):IF X Kr:=by intro pins s σ H o i v ov iv u Q I ro ri rv h;rcases h with h|⟨a,y,H',rfl,rfl,g,q⟩;exact xw pins s σ H o i v ov iv u Q I ro ri rv h;cases ro;exact we (zzk ZzS hu) I g ri rv λs' I'=>⟨H',I',q⟩
theorem mR:∀{ks:List Str}{ws:List W}{x:Str}{w:W},ah ws=true->ak w=true->ah (oV ks ws x w)=true
 |[],ws,x,w,h,_=>h
 |k::ks,[],x,w,h,_=>rfl
 |k::ks,u::ws,x,w,h,hw=>by
  rw[ah,zE]at h
  unfold oV
  rw[ah,mR h.2 hw]
  grind
theorem jd(h1:ah ws=true)(h2:ak w=true):ah (ws++[w])=true:=by
 induction ws with
 |nil=>show ah [w]=true;rw[ah,h2];rfl
 |cons u us ih=>rw[ah,zE]at h1;show ah (u::(us++[w]))=true;rw[ah,h1.1,ih h1.2];rfl
theorem wJ(h:ah ws=true)(hw:ak w=true):ah (dO ks ws x w).2=true:=by unfold dO;split;exact mR h hw;exact jd h hw
theorem DX(hu:X.A.units+64<cLine)(ha:PE X a (tI X.K EX (evE cf a')))(hb:PE X b (tI X.K EX (evE cf b')))(he:PE X e (tI X.K EX (evE cf e')))(hc:cG e=true)(hpl:gR b=true) :
  PS X (.Assign [.Subscript a b p] e pos) (dg X.K EX (exS cf fw (.setix a' b' e'))):=by
 have hst:swappedStores [.Subscript a b p] e X.env=pure none:=by cases e<;>rfl
 refine(sM he (AH ha hb (qB hu) (by intro _;cases b<;>first|rfl|(unfold assign;rfl)|(exact absurd hpl (by simp[gR])))) (by unfold swapsWithSole;exact fz hc _ _ _) hst rfl).sub λD τ H zq=>?_
 obtain⟨ρ,σ,h,re,hr,q⟩:=zq
 rw[exS]at q
 refine⟨ρ,σ,h,re,hr,q.bnd.mono λw h1 ρ1 H1 x1 hr1 q1 v r=>?_⟩
 refine⟨ρ1,σ,h1,re.ext x1,hr1,q1.bnd.mono λw2 h2 ρ2 H2 x2 hr2 q2 v2 r2=>?_⟩
 refine⟨ρ2,σ,h2,(re.ext x1).ext x2,hr2,q2.bnd.mono λw3 h3 ρ3 H3 x3 hr3 q3 v3 r3=>?_⟩
 have re3:=((re.ext x1).ext x2).ext x3
 have rv:=Rel.ext x3 _ _ (Rel.ext x2 _ _ r)
 have ro:=Rel.ext x3 _ _ r2
 split at q3
 ·rename_i n k
  cases az r3
  rw[Rel]at ro
  obtain⟨l,rfl,hn⟩:=ro
  split at q3
  ·rename_i us e
   obtain⟨pu,xs,z,rs⟩:=hr3.at_ n l _ hn e
   split at q3
   ·rename_i hpure
    split at q3
    ·rename_i j ej
     refine .inl ⟨l,xs,k,j,rfl,rfl,z,by rw[<- rs.length];exact ej,?_⟩
     have pw:ah (us.set j w)=true:=by
      clear ej q3 e rs;induction us generalizing j with
      |nil=>exact pu
      |cons u us ih=>
       rw[ah,zE]at pu;cases j with
       |zero=>show ah (w::us)=true;rw[ah,hpure,pu.2];rfl
       |succ j=>show ah (u::us.set j w)=true;rw[ah,pu.1,ih pu.2];rfl
     exact q3 _ _ (ext_write hn) (hr3.write hn pw (rs.set j rv)) _ (re3.ext (ext_write hn))
    ·exact q3.elim
   ·exact q3.elim
  ·exact q3.elim
 ·rename_i n k
  cases aB r3
  rw[Rel]at ro
  obtain⟨l,rfl,hn⟩:=ro
  split at q3
  ·rename_i ks us e
   obtain⟨pu,xs,z,zl,rs⟩:=hr3.at_ n l _ hn e
   split at q3
   ·rename_i hp
    obtain⟨ys,e1,e2,e3⟩:=qT (x:=k) zl rs rv
    have hlen:((ks.map Sum.inr).zip xs:List (bT×V)).length<sizeLine:=by simp_all
    refine .inr ⟨l,.str k,_,rfl,rfl,DPut.k (k:=Sum.inr k) z hlen,?_⟩
    rw[e1]
    exact q3 _ _ (ext_write hn) (hr3.writeD hn (wJ pu hp.1) e2 e3) _ (re3.ext (ext_write hn))
   ·exact q3.elim
  ·exact q3.elim
 ·exact q3.elim
end
section
variable {X:Cx}{EX:cb}{cf:CF}{fw:Nat}{pos:Pos}{a b c e:Expr}{a' b' c' e':E}
end
structure XAt (l:List Env) (ha h:Heap) (e:Addr) (C:Value):Prop where
 no:ha.get? e=none
 fly:(∃(B:Heap) (a0:Value),B.FlyingW l e C a0 h/\(∀b o,ha.get? b=some o->b∉fU l->B.get? b=some o))/\(∀b o,ha.get? b=some o->b∈fU l->∃sl,h.get? b=some { o with slots:=sl })
theorem XAt.keep(x:XAt l ha h e C)(hb:ha.get? b=some o)(n:b∉fU l):h.get? b=some o:=by obtain⟨⟨B,a0,f,k⟩,_⟩:=x.fly;exact f.1 b o (k b o hb n)
theorem XAt.cls(x:XAt l ha h e C):∃oe,h.get? e=some oe/\oe.cls=C:=by obtain⟨⟨B,a0,f,_⟩,_⟩:=x.fly;exact f.there
theorem Un.same{fs:List Addr}{H:Hp}{h h':Heap}(k:∀b o,h.get? b=some o->b∉fs->h'.get? b=some o)(s:∀b o,h.get? b=some o->b∈fs->∃sl,h'.get? b=some { o with slots:=sl }):Un fs [] H H h h' :=
 ⟨λb o e _ n _=>k b o e n,λb o e _ m _=>s b o e m,λ_ _ _ n _=>n,λb o e _=>(by grind),λ_ _ e=>e,λ_ _ _ e=>e,λb ps e=>⟨#[],by simp_all⟩⟩
theorem HOk.same{P:Program}{w:World}{fs:List Addr}{H:Hp}{h h':Heap}(ok:HOk P w H h)(k:∀b o,h.get? b=some o->b∉fs->h'.get? b=some o)(n:∀b∈fs,H b=none):HOk P w H h':=λb u e =>
 (ok b u e).stay (λc v hc q=>k c v q (λm=>by simp_all)) (λ_ q=>q) λ_ _ q=>q
def XS(X:Cx)(pins:List (Addr×Obj))(σ:L2.St)(H:Hp)(s:Shared)(e:Addr)(C:Value):Prop :=
 ∃sa,Inv X pins σ H sa/\s.os=sa.os/\AllBare s.gens/\XAt X.stack sa.heap s.heap e C
section
variable {X:Cx}{pins:List (Addr×Obj)}{σ:L2.St}{H:Hp}{s:Shared}{e:Addr}{C:Value}
theorem XAt.hok(x:XAt l ha h e C)(ok:HOk P w H ha)(n:∀b∈fU l,H b=none):HOk P w H h:=HOk.same ok (λb o hb m=>x.keep hb m) n
theorem XS.inv(x:XS X pins σ H s e C):Inv X pins σ H s:=by obtain⟨sa,I,os,bare,x⟩:=x;exact I.call'  os (Un.same (λb o hb n=>x.keep hb n) x.fly.2) (x.hok I.hok I.stkFree) bare (λb z=>absurd z ZzS)
theorem XS.cls(x:XS X pins σ H s e C):∃oe,s.heap.get? e=some oe/\oe.cls=C:=by obtain⟨sa,I,os,bare,x⟩:=x;exact x.cls
def mx(P:Program)(w:World):B6:=λouter H s E e s'=>∃ea C H' ha,e=.ref ea/\s'.os=s.os/\AllBare s'.gens/\Un (fU outer) [] H H' s.heap ha/\HOk P w H' ha/\XAt outer ha s'.heap ea C/\E C none H'
theorem Ec{E:XK}(I:Inv X pins σ H s)(h:mx X.prog X.w X.stack H s E ev s'):∃ea C H',ev=.ref ea/\XS X pins σ H' s' ea C/\E C none H':=by obtain⟨ea,C,H',ha,rfl,os,bare,un,hok,x,q⟩:=h;have I2 :=I.call' (s':={ s with heap:=ha })  rfl un hok I.bare (λb z=>absurd z ZzS);exact⟨ea,C,H',rfl,⟨_,I2,os,bare,x⟩,q⟩
theorem qH{h h':Heap}{l:List Env}{B:Heap}(up:h.UpToSlots h')(ff:h.FunFrames B l){b:Addr}{o:Obj}(m:b∈fU l)(e:h.get? b=some o):∃sl,h'.get? b=some { o with slots:=sl }:=by obtain⟨_,o',e',d⟩:=ff.mem m;rw[e]at e';cases e';exact up b o e d
theorem fg(e:h.get? b=some o)(n:b∉as):(PySem.W.hideAll h as).get? b=some o:=PySem.W.hideAll_get as e n
end
theorem vP{CX:B6}{P:Program}{w:World}{A:Around}{env:Env}{outer:List Env}{L:Addr}{H H':Hp}{s s1:Shared}{E:XK}{e:Addr}{C:Value}{ha:Heap}{E2:Value->Shared->Prop}
  (hf:A.frames=some (env::outer)) (hL:env.frame=some L) (hn:s.heap.get? L=none) (hN:∀b∈fU outer,H' b=none) (hL0:H' L=none) (hLo:L∉fU outer)
  (un:Un (fU outer) [] H H' s.heap ha) (hok:HOk P w H' ha) (os:s1.os=s.os) (bare:AllBare s1.gens) (x:XAt (env::outer) ha s1.heap e C) (q:E C none H') :
  wpAny (model P w) A (leaving env (.ref e)) (λ_ s''=>mx P w outer H s E (.ref e) s'') E2 s1:=by
 obtain⟨⟨B,a0,f,k⟩,sl⟩:=x.fly
 have frs_cons:fU (env::outer)=L::fU outer:=by unfold fU;simp[hL]
 refine wpAny_leaves_onW hf hL f λh' f' up=>?_
 refine⟨e,C,H',PySem.W.hideAll ha [L],rfl,os,bare,?_,?_,⟨?_,⟨B,a0,f',λb o hb m=>?_⟩,λb o hb m=>?_⟩,q⟩
 ·have rH:∀b o,s.heap.get? b=some o->∀o',ha.get? b=some o'->(PySem.W.hideAll ha [L]).get? b=some o':=λb o e o' e'=>fg e' (by simp;rintro rfl;rw[hn]at e;cases e)
  exact⟨λb o e n m c=>rH b o e _ (un.keep b o e n m c),λb o e n m c=>let ⟨sl,z⟩:=un.slot b o e n m c;⟨sl,rH b o e _ z⟩,un.free,λb o e c=>let ⟨o',z⟩:=un.there b o e c;⟨o',rH b o e _ z⟩,un.tups,un.frzs,un.tbls⟩
 ·exact HOk.same (fs:=[L]) hok (λb o hb m=>fg hb m) (λb hb=>by rw[zP.mp hb];exact hL0)
 ·cases z:(PySem.W.hideAll ha [L]).get? e with
  |none=>rfl
  |some o=>have:=ZH _ z;rw[x.no]at this;cases this
 ·have hb':=ZH _ hb
  refine k b o hb' ?_
  rw[frs_cons]
  intro z
  rcases zS.mp z with rfl|z
  ·have:=zzK [b] (h:=ha) (b:=b) ZzS
   rw[this]at hb;cases hb
  ·exact m z
 ·have hb':=ZH _ hb
  have m':b∈fU (env::outer):=by rw[frs_cons];exact zB _ m
  obtain⟨sl1,z1⟩:=sl b o hb' m'
  obtain⟨sl2,z2⟩:=qH (l:=env::outer) up f.2.2.1 m' z1
  exact⟨sl2,z2⟩
abbrev xp:List Value:=[.type "ValueError",.type "Exception",.type "BaseException",.type "object"]
abbrev newV:String:="ValueError.__new__"
structure Eo (h:Heap) (C:Addr) (bm:List Value):Prop where
 obj:∃N nm q bs hdct sn sub ab col dd k0 k1 k2 k3 k5 mN,h.get? C=some (excClassObj nm q C N bs bm hdct sn sub ab col dd k0 k1 k2 k3 k5 newV)/\h.Ns N mN/\mN "__init__"=none/\OwnTail h xp bm
theorem Eo.keeps(o:Eo h C bm)(k:∀b u,h.get? b=some u->h'.get? b=some u):Eo h' C bm:=by obtain⟨N,nm,q,bs,a,sn,sub,ab,col,dd,k0,k1,k2,k3,k5,mN,e1,e2,e3,e4⟩:=o.obj;exact⟨N,nm,q,bs,a,sn,sub,ab,col,dd,k0,k1,k2,k3,k5,mN,k _ _ e1,e2.keeps k,e3,e4.keeps k⟩
theorem Eo.top(o:Eo h C bm):bm.contains (.type "BaseException")=true:=by obtain⟨N,nm,q,bs,a,sn,sub,ab,col,dd,k0,k1,k2,k3,k5,mN,e1,e2,e3,e4⟩:=o.obj;exact e4.hasType rfl
theorem nq {E:Value→Shared→Prop} (hC:Eo s.heap C bm) (hD:Eo s.heap D bd) (he:s.heap.get? e=some oe) (hc:oe.cls=.ref C)
    (hq:Q ((Value.ref C::bm).contains (.ref D)) s):wpAny M A (excMatches (.ref e) (.ref D)) Q E s:=by
  have hB:(Value.ref D::bd).contains (.type "BaseException")=true:=by rw [List.contains_cons,hD.top,Bool.or_true]
  obtain ⟨N,nm,q,bs,hdct,sn,sub,ab,col,dd,k0,k1,k2,k3,k5,mN,oC,_⟩:=hC.obj
  obtain ⟨N',nm',q',bs',hdct',sn',sub',ab',col',dd',k0',k1',k2',k3',k5',mN',oD,_⟩:=hD.obj
  obtain ⟨hh,g,d,t,os⟩:=s
  have nt:=tc_notTuple
  unfold excMatches
  repeat (first
    | (with_reducible refine Zs he ?_;rw [hc])
    | with_reducible refine Zs oD ?_
    | (with_reducible refine Z1 oD ?_;rw [hB])
    | with_reducible refine Z1 oC ?_
    | wp_step)
  cases z:(Value.ref C::bm).contains (.ref D) with
  | true => rw [z] at hq; repeat wp_step
            exact hq
  | false => rw [z] at hq; repeat wp_step
             exact hq
theorem nj{h B B':Heap}:∀{l:List Env},(∀L∈fU l,B'.get? L=none)->h.FunFrames B l->h.FunFrames B' l
 |[],_,f=>f
 |env::l,n,f=>by
  unfold Heap.FunFrames at f ⊢;obtain⟨h1,⟨L,o,h2,h3,h4⟩,h5⟩:=f;have fc:fU (env::l)=L::fU l:=by unfold fU;simp_all
  exact⟨h1,⟨L,o,h2,n L (by simp_all),h4⟩,nj (λb hb=>n b (by simp_all)) h5⟩
theorem t7{P:Program}{w:World}{A:Around}{env:Env}{outer:List Env}{L:Addr}{H H':Hp}{s s2:Shared}{h1 B0:Heap}{E:XK}{e:Addr}{C:Value}{args:List Value}{E2:Value->Shared->Prop}
  (hf:A.frames=some (env::outer)) (hL:env.frame=some L) (hn:s.heap.get? L=none) (hL0:H' L=none)
  (ff:s2.heap.FunFrames B0 (env::outer)) (un:Un (fU outer) [] H H' s.heap s2.heap) (hok:HOk P w H' s2.heap) (os:s2.os=s.os) (bare:AllBare s2.gens) (x:s2.heap.MadeExcOf h1 e C args) (q:E C none H') :
  wpAny (model P w) A (leaving env (.ref e)) (λ_ s''=>mx P w outer H s E (.ref e) s'') E2 { s2 with heap:=h1 }:=by
 have fc:fU (env::outer)=L::fU outer:=by unfold fU;simp[hL]
 have ff2:=nj (B':=PySem.W.hideAll s2.heap (fU (env::outer))) (λb hb=>zzK _ hb) ff
 refine wpAny_leaves_madeW  hf hL (λb o hb=>ZH _ hb) ff2 x λh' t f' _ _ up=>?_
 refine⟨e,C,H',PySem.W.hideAll s2.heap [L],rfl,os,bare,?_,?_,⟨?_,⟨_,_,f',λb o hb m=>?_⟩,λb o hb m=>?_⟩,q⟩
 ·have rH:∀b o,s.heap.get? b=some o->∀o',s2.heap.get? b=some o'->(PySem.W.hideAll s2.heap [L]).get? b=some o':=λb o e o' e'=>fg e' (by simp;rintro rfl;rw[hn]at e;cases e)
  exact⟨λb o e n m c=>rH b o e _ (un.keep b o e n m c),λb o e n m c=>let ⟨sl,z⟩:=un.slot b o e n m c;⟨sl,rH b o e _ z⟩,un.free,λb o e c=>let ⟨o',z⟩:=un.there b o e c;⟨o',rH b o e _ z⟩,un.tups,un.frzs,un.tbls⟩
 ·exact HOk.same (fs:=[L]) hok (λb o hb m=>fg hb m) (λb hb=>by rw[zP.mp hb];exact hL0)
 ·cases z:(PySem.W.hideAll s2.heap [L]).get? e with
  |none=>rfl
  |some o=>have:=ZH _ z;rw[x.new]at this;cases this
 ·have hb':=ZH _ hb
  refine fg hb' ?_
  rw[fc]
  intro z
  rcases zS.mp z with rfl|z
  ·have:=zzK [b] (h:=s2.heap) (b:=b) ZzS
   rw[this]at hb;cases hb
  ·exact m z
 ·have hb':=ZH _ hb
  have m':b∈fU (env::outer):=by rw[fc];exact zB _ m
  obtain⟨_,o',e',d⟩:=ff2.mem m'
  rw[hb']at e';cases e'
  exact up b o (x.keeps b o hb') d
def XL(cl:Nat->Addr)(X:Cx)(EX:cb):Prop:=∀pins σ H s e c h ρ,XS X pins σ H s e (.ref (cl c))->HRel X.K ρ h H->EX c h ρ H->X.xe (.ref e) s
def XM(cl:Nat->Addr)(X:Cx)(EX:cb):Prop:=∀pins σ H s h1 e c h ρ args,Inv X pins σ H s->s.heap.MadeExcOf h1 e (.ref (cl c)) args->HRel X.K ρ h H->EX c h ρ H->X.xe (.ref e) { s with heap:=h1 }
theorem XL.no(h:∀c h ρ H,¬ EX c h ρ H):XL cl X EX:=λpins σ H s e c h' ρ _ _ z=>(h c h' ρ H z).elim
section
variable {P:Program}{w:World}{K:Fg0}{mg:Str->Option Value}{base:Heap}{N:List Str}{qual:Str}{scope:Scope}{f:Addr}{cd:Value}{A:Around}{outer:List Env}{s:Shared}{H:Hp}{E:XK}{cl:Nat->Addr}
theorem Aa:XL cl (kH (mx P w) P w K mg base N qual scope f cd A outer s H E) (λc _ _ H'=>E (.ref (cl c)) none H'):=by
 intro pins σ H1 s1 e c h ρ zq8 _ q;obtain⟨sa,I,os,bare,x⟩:=zq8;have hn:s.heap.get? s.heap.objs.size=none:=Heap.get?_none_of_le (zD _)
 exact vP (CX:=mx P w)   (H:=H) (s:=s) (ha:=sa.heap) I.ok.frames rfl hn (λb hb=>I.stkFree b (by show b∈fU (_::outer);unfold fU at hb ⊢;grind)) I.free (λz=>by
  obtain⟨_,o,ho,_⟩:=I.ok.funs.mem z
  rw[show(kH (mx P w) P w K mg base N qual scope f cd A outer s H E).s₀=s from rfl,hn]at ho;cases ho) I.base I.hok (os.trans I.os) bare x q
theorem AI:XM cl (kH (mx P w) P w K mg base N qual scope f cd A outer s H E) (λc _ _ H'=>E (.ref (cl c)) none H'):=by intro pins σ H1 s1 h1 e c h ρ args I x _ q;have hn:s.heap.get? s.heap.objs.size=none:=Heap.get?_none_of_le (zD _);exact t7     I.ok.frames rfl hn I.free I.stack I.base I.hok I.os I.bare x q
end
section
variable {X:Cx}{EX:cb}{cf:CF}{fw:Nat}{pos:Pos}{a b c e:Expr}{a' b' c' e':E}
noncomputable def eE(e:Expr):Bool:=match e with
 |.Call (.Name _ _) [] [] _=>false
 |_=>true
theorem dX(h:eE o=true)(n)(env)(w):attributeBase o n env w=w:=by unfold attributeBase;split;cases h;rfl
theorem bx(h1:ah us=true)(h2:ak w=true):ah (us++[w])=true:=by
 induction us with
 |nil=>show ah [w]=true;rw[ah,h2];rfl
 |cons u us ih=>rw[ah,zE]at h1;show ah (u::(us++[w]))=true;rw[ah,h1.1,ih h1.2];rfl
theorem oM{K:Fg0}(hr:HRel K ρ h H)(r:Rel K ρ H (.ref n) v)(e:h[n]?=some (.lst us)):∃l ys,v=.ref l/\ρ[n]?=some l/\H l=some (.lst ys)/\ah us=true/\RelL K ρ H us ys:=by obtain⟨l,rfl,hn⟩:=r;obtain⟨pu,ys,hy,rs⟩:=hr.at_ n l _ hn e;simp_all
theorem Cz{m:Mt}{τ:L2.St}{H:Hp}{Q:VK}{R:V->Hp->Prop}{as:List E}{K:Fg0}(q:tI K EX (evE cf (.meth m a' as)) τ H Q)
  (k:∀ρ σ h H1 w v,RelE K ρ H1 σ τ->HRel K ρ h H1->Rel K ρ H1 w v->bR m h w=true->RQ K EX ρ H1 (bnd (evA cf as σ h) λws h=>dG m w ws h) (λw _ ρ' H'=>∀v,Rel K ρ' H' w v->Q v H')->R v H1):tI K EX (evE cf a') τ H R:=by
 obtain⟨ρ,σ,h,re,hr,q⟩:=q
 refine⟨ρ,σ,h,re,hr,q.bnd.mono λw h1 ρ1 H1 x1 hr1 q1 v r=>?_⟩
 split at q1
 ·rename_i hi;exact k ρ1 σ h1 H1 w v (re.ext x1) hr1 r hi q1
 ·exact q1.elim
theorem Bw{K:Fg0}(hr:HRel K ρ h H)(r:Rel K ρ H w v)(hi:(seqM h w).isSome=true):Mx K "list" v H:=by obtain⟨ws,ew⟩:=ZG.mp hi;obtain⟨l,xs,rfl,hx,rs⟩:=bS hr ew r;exact .inl ⟨rfl,xs,.inl (.inl hx)⟩
theorem yQ{apos:Pos}(ha:PE X a (tI X.K EX (evE cf a')))(he:PE X e (tI X.K EX (evE cf e')))(hs:au e=true)(hb:eE a=true)(hl:apos.endLine=pos.line) :
  PE X (.Call (.Attribute a "append" apos) [e] [] pos) (tI X.K EX (evE cf (.meth .append a' [e']))) :=
 (ES zz5 PySem.F.slot_list_append PySem.F.type_list_append nJ ha (aN he pa_nil (ar hs _ _)) (dX hb _ _ _) (by rw[ar hs];rfl) (by simp[hl]) (ar hs _ _) (by rfl)).sub λτ H Q q=>Cz q λρ σ h H1 w v re hr r hi q=>by
  rw[dj,cD]at q;refine⟨Bw hr r hi,ρ,σ,h,re,hr,q.bnd.mono λw2 h2 ρ2 H2 x2 hr2 q2 v2 r2=>?_⟩;have q3:RQ X.K EX ρ2 H2 (vY w w2 h2) _:=q2;cases w with
  |ref n=>unfold vY at q3;dsimp only at q3;split at q3;rename_i us e;obtain⟨l,ys,rfl,hn,hy,pu,rs⟩:=oM hr2 (Rel.ext x2 _ _ r) e;split at q3;rename_i hp;exact⟨l,ys,v2,rfl,rfl,hy,by rw[<- rs.length];exact hp.2,q3 _ _ (ext_write hn) (hr2.write hn (bx pu hp.1) (rs.append (.cons r2 .nil))) _ lh⟩;exact q3.elim;exact q3.elim
  |_=>exact q3.elim
theorem vQ(h1:ah us=true)(h2:ah ws=true):ah (us++ws)=true:=by
 induction us with
 |nil=>exact h2
 |cons u us ih=>rw[ah,zE]at h1;show ah (u::(us++ws))=true;rw[ah,h1.1,ih h1.2];rfl
theorem xC{apos:Pos}(ha:PE X a (tI X.K EX (evE cf a')))(he:PE X e (tI X.K EX (evE cf e')))(hs:au e=true)(hb:eE a=true)(hl:apos.endLine=pos.line) :
  PE X (.Call (.Attribute a "extend" apos) [e] [] pos) (tI X.K EX (evE cf (.meth .extend a' [e']))) :=
 (ES zz5 PySem.F.slot_list_extend PySem.F.type_list_extend wa ha (aN he pa_nil (ar hs _ _)) (dX hb _ _ _) (by rw[ar hs];rfl) (by simp[hl]) (ar hs _ _) (by rfl)).sub λτ H Q q=>Cz q λρ σ h H1 w v re hr r hi q=>by
  rw[dj,cD]at q;refine⟨Bw hr r hi,ρ,σ,h,re,hr,q.bnd.mono λw2 h2 ρ2 H2 x2 hr2 q2 v2 r2=>?_⟩;have q3:RQ X.K EX ρ2 H2 (CC w w2 h2) _:=q2;cases w with
  |ref n=>unfold CC at q3;dsimp only at q3;split at q3;rename_i us e;obtain⟨l,ys,rfl,hn,hy,pu,rs⟩:=oM hr2 (Rel.ext x2 _ _ r) e;split at q3;rename_i ws e2;obtain⟨b,zs,rfl,hb2,rz⟩:=bS hr2 e2 r2;split at q3;rename_i hp;exact⟨l,b,ys,zs,rfl,rfl,hy,hb2,by rw[<- rs.length,<- rz.length];exact hp.2,q3 _ _ (ext_write hn) (hr2.write hn (vQ pu hp.1) (rs.append rz)) _ lh⟩;exact q3.elim;exact q3.elim;exact q3.elim
  |_=>exact q3.elim
theorem mK:∀{us:List W} (n:Nat),ah us=true->ah (us.take n)=true
 |_,0,_=>rfl
 |[],_+1,_=>rfl
 |u::us,n+1,p=>by rw[ah,zE]at p;show ah (u::us.take n)=true;rw[ah,p.1,mK n p.2];rfl
theorem J4{apos:Pos}(ha:PE X a (tI X.K EX (evE cf a')))(hb:eE a=true)(hl:apos.endLine=pos.line) :
  PE X (.Call (.Attribute a "pop" apos) [] [] pos) (tI X.K EX (evE cf (.meth .pop a' []))) :=
 (Ga zz5 PySem.F.slot_list_pop PySem.F.type_list_pop Gd ha (dX hb _ _ _) (by simp[hl])).sub λτ H Q q=>Cz q λρ σ h H1 w v re hr r hi q=>by
  refine⟨Bw hr r hi,?_⟩;have q3:RQ X.K EX ρ H1 (HN w h) _:=q;cases w with
  |ref n=>unfold HN at q3;dsimp only at q3;split at q3;rename_i us e;obtain⟨l,ys,rfl,hn,hy,pu,rs⟩:=oM hr r e;split at q3;rename_i w0 e0;obtain⟨y,ey,ry⟩:=rs.get e0;refine⟨l,ys,y,rfl,rfl,hy,by rw[<- rs.length];exact ey,?_⟩;rw[List.dropLast_eq_take];rw[List.dropLast_eq_take]at q3;have z:=q3 _ _ (ext_write (H:=H1)  hn) (hr.write hn (mK _ pu) (by have:=rs.take (us.length-1);rw[rs.length]at this ⊢;exact this));exact z _ (Rel.ext (ext_write hn) _ _ ry);exact q3.elim;exact q3.elim
  |_=>exact q3.elim
theorem Lq{apos:Pos}(hu:X.A.units+64<cLine)(ha:PE X a (tI X.K EX (evE cf a')))(he:PE X e (tI X.K EX (evE cf e')))(hs:au e=true)(hb:eE a=true)(hl:apos.endLine=pos.line) :
  PE X (.Call (.Attribute a "get" apos) [e] [] pos) (tI X.K EX (evE cf (.meth .get a' [e']))) :=
 (Af (zzk ZzS hu) ha he ⟨dX hb _ _ _,by rw[ar hs];rfl,by simp[hl],by rw[ar hs];rfl⟩).sub λτ H Q q=>Cz q λρ σ h H1 w v re hr r hi q=>by
  rw[dj,cD]at q;obtain⟨⟨ks,ws⟩,e0⟩:=ZG.mp (hi);obtain⟨p,xs,rfl,hd,hl2,rs⟩:=bL hr e0 r;refine⟨p,rfl,.inl ⟨_,hd⟩,ρ,σ,h,re,hr,q.bnd.mono λw2 h2 ρ2 H2 x2 hr2 q2 v2 r2=>?_⟩;have q3:RQ X.K EX ρ2 H2 (Ci w w2 .non h2) _:=q2;unfold Ci at q3;split at q3;rename_i ks2 ws2 e2;obtain⟨p2,ys,ep,hd2,hl3,rs2⟩:=bL hr2 e2 (Rel.ext x2 _ _ r);cases ep;cases w2 with
  |str k=>
   cases aB r2;refine⟨_,.inl ⟨_,Sum.inr k,hd2,rfl,rfl⟩,?_⟩;obtain⟨g1,g2⟩:=iS (x:=k) hl3 rs2;dsimp only at q3;cases eg:dF ks2 ws2 k with
   |none=>rw[eg]at q3;rw[g2 eg];exact RQ.here hr2 q3 _ lh
   |some w3=>rw[eg]at q3;obtain⟨v3,e3,r3⟩:=g1 w3 eg;rw[e3];exact RQ.here hr2 q3 _ r3
  |_=>exact q3.elim
  exact q3.elim
def Eh(K:Fg0)(cl:Nat->Addr)(cf:CF)(f:Nat)(np:Nat):Sp:=λvs H Q E=>vs.length=np /\
 ∃ρ h ws,HRel K ρ h H/\RelL K ρ H ws vs/\RQ K (λc _ _ H'=>E (.ref (cl c)) none H') ρ H (cf f ws h) λw _ ρ' H'=>∀v,Rel K ρ' H' w v->Q v H'
def OG(K:Fg0)(cl:Nat->Addr)(EX:cb):XK:=λC _ H'=>∃c h ρ,C=.ref (cl c)/\HRel K ρ h H'/\EX c h ρ H'
theorem XL.passes(hX:XL cl X EX):iB (mx X.prog X.w) X (OG X.K cl EX):=λpins σ H s e s' I h=>by obtain⟨ea,C,H',rfl,x,c,h2,ρ,rfl,hr,q⟩:=Ec I h;exact hX pins σ H' s' ea c h2 ρ x hr q
theorem yw
  (F:FnOk X.prog X.w X.K X.mg X.base (mx X.prog X.w) k f fd ps (Eh X.K cl cf fn np)) (hr:Room k X.A) (hg:Gl X x) (hm:X.mg x=some (.ref f)) (hk:PySem.W.keepIn X.K (.ref f)=true) (hb:Binds X.K fd ps [])
  (hX:XL cl X EX) (hdb:(x==("__debug__":Str))=false) (hs:(e::es).all au=true) (hl:(e::es).length=np) (hl':es'.length=np)
  (ha:PA X (e::es) (mz X.K EX (evA cf es'))) (hv:∀σ h ws h',evA cf es' σ h=.ok ws h'->ws.length=np) :
  PE X (.Call (.Name x p) (e::es) [] pos) (tI X.K EX (evE cf (.call fn es'))):=by
 have hs':=hs
 rw[ZB,zE]at hs'
 refine(C3 F hr hg hm hk hb .nil hX.passes ha hdb (ar hs'.1 es X.env) (eV hs'.2 pos X.env)).sub λτ H Q zq=>?_
 obtain⟨ρ,σ,h,re,hr,q⟩:=zq
 rw[evE]at q
 refine⟨ρ,σ,h,re,hr,?_⟩
 cases e:evA cf es' σ h with
 |stuck=>rw[e]at q;exact q.elim
 |exc c h1=>rw[e]at q;exact q
 |ok ws h1 =>
  have hw:=hv _ _ _ _ e
  rw[e]at q
  intro ρ1 H1 x1 hr1 vs rs
  have q1:RQ X.K EX ρ1 H1 (cf fn ws h1) (λw _ ρ' H'=>∀v,Rel X.K ρ' H' w v->Q v H'):=q.bnd ρ1 H1 x1 hr1
  refine⟨by rw[Zf,<- rs.length];exact hw,ρ1,h1,ws,hr1,by simp_all,?_⟩
  cases e2:cf fn ws h1 with
  |ok w h2=>rw[e2]at q1;exact q1
  |exc c h2=>rw[e2]at q1;exact λρ2 H2 x2 hr2=>⟨c,h2,ρ2,rfl,hr2,q1 ρ2 H2 x2 hr2⟩
  |stuck=>rw[e2]at q1;exact q1
theorem fE:∀{es:List E}{σ:ag}{h:aa}{ws:List W}{h':aa},evA cf es σ h=.ok ws h'->ws.length=es.length
 |[],σ,h,ws,h',e=>by cases e;rfl
 |a::es,σ,h,ws,h',e=>by
  rw[evA]at e;cases e1:evE cf a σ h with
  |stuck=>rw[e1]at e;cases e
  |exc c h1=>rw[e1]at e;cases e
  |ok w h1=>
   rw[e1]at e;have e':bnd (evA cf es σ h1) (λws h=>Res.ok (w::ws) h)=.ok ws h':=e;cases e2:evA cf es σ h1 with
   |stuck=>rw[e2]at e';cases e'
   |exc c h1=>rw[e2]at e';cases e'
   |ok us h2=>rw[e2]at e';cases e';simp[fE e2]
theorem HRel.cut{K:Fg0}(x:Ext ρ H ρ' H')(hl:ρ.length=n0)(hr:HRel K ρ' h' H'):HRel K ρ (h'.take n0) H':=by
 obtain⟨t,rfl⟩:=x.pre;have hlen:=hr.len;rw[zA]at hlen;refine⟨by rw[Zk];lia,(Zw.mp hr.nd).1,λn a o e1 e2=>?_⟩;have hn:n<n0:=by rw[<- hl];grind
 rw[zzU hn]at e2;have q:=hr.at_ n a o (by grind) e2;cases o with
 |lst ws=>obtain⟨p,xs,e,r⟩:=q;exact⟨p,xs,e,RelL.less (λb hb=>Ze _ hb) ws xs p r⟩
 |dic ks ws=>obtain⟨p,xs,e,l,r⟩:=q;exact⟨p,xs,e,l,RelL.less (λb hb=>Ze _ hb) ws xs p r⟩
theorem Ext.cut(x:Ext ρ H ρ' H'):Ext ρ H ρ H':=⟨List.prefix_refl _,x.keep,λ_ _ _ z=>z⟩
mutual
theorem vd{K:Fg0}(hr:HRel K (ρ++t) h H)(hl:ρ.length=n0):∀w u v,i5 h n0 w=some u->Rel K (ρ++t) H w v->Rel K ρ H u v
 |.non,u,v,e,r=>by cases e;rw[Rel]at r ⊢;exact r
 |.bl _,u,v,e,r=>by cases e;rw[Rel]at r ⊢;exact r
 |.int _,u,v,e,r=>by cases e;rw[Rel]at r ⊢;exact r
 |.str _,u,v,e,r=>by cases e;rw[Rel]at r ⊢;exact r
 |.tup ws,u,v,e,r=>by rw[i5]at e;obtain⟨us,e1,rfl⟩:=Zg.mp e;rw[Rel]at r ⊢;obtain⟨a,xs,ea,q,rs⟩:=r;exact⟨a,xs,ea,q.imp (λz=>⟨λy=>z.1 (Ze _ y),z.2⟩) id,eW hr hl ws us xs e1 rs⟩
 |.lst ws,u,v,e,r=>by rw[i5]at e;obtain⟨us,e1,rfl⟩:=Zg.mp e;rw[Rel]at r ⊢;obtain⟨a,xs,ea,n,q,rs⟩:=r;exact⟨a,xs,ea,λy=>n (Ze _ y),q,eW hr hl ws us xs e1 rs⟩
 |.scr ws,u,v,e,r=>by rw[i5]at e;obtain⟨us,e1,rfl⟩:=Zg.mp e;rw[Rel]at r ⊢;obtain⟨a,xs,ea,q,rs⟩:=r;exact⟨a,xs,ea,q.imp (λz=>⟨λy=>z.1 (Ze _ y),z.2⟩) id,eW hr hl ws us xs e1 rs⟩
 |.dic ks ws,u,v,e,r=>by rw[i5]at e;obtain⟨us,e1,rfl⟩:=Zg.mp e;rw[Rel]at r ⊢;obtain⟨a,xs,ea,n,q,l,rs⟩:=r;exact⟨a,xs,ea,λy=>n (Ze _ y),q,l,eW hr hl ws us xs e1 rs⟩
 |.ins c ws,u,v,e,r=>by rw[i5]at e;obtain⟨us,e1,rfl⟩:=Zg.mp e;rw[Rel]at r ⊢;obtain⟨a,dx,xs,C,ea,n,q,l,z,rs⟩:=r;exact⟨a,dx,xs,C,ea,λy=>n (Ze _ y),q,l,z,eW hr hl ws us xs e1 rs⟩
 |.ref n,u,v,e,r=>by
  rw[i5]at e;rw[Rel]at r;obtain⟨a,rfl,hn⟩:=r;have sub:∀b,b∈ρ->b∈ρ++t:=λb hb=>Ze _ hb;have na:¬ n<n0->a∉ρ:=λhlt hm=>by rw[zK ZzL]at hn;exact(Zw.mp hr.nd).2.2 a hm a (zC hn) rfl
  split at e;rename_i hlt;cases e;rw[Rel];exact⟨a,rfl,by rw[zI ZzL]at hn;exact hn⟩;rename_i hlt;split at e;rename_i ws ew;cases e;obtain⟨p,xs,hx,rs⟩:=hr.at_ n a _ hn ew;rw[Rel];exact⟨a,xs,rfl,na hlt,hx,RelL.less sub ws xs p rs⟩;rename_i ks ws ew;cases e;obtain⟨p,xs,hx,hlx,rs⟩:=hr.at_ n a _ hn ew;rw[Rel];exact⟨a,xs,rfl,na hlt,.inl hx,hlx,RelL.less sub ws xs p rs⟩;cases e
theorem eW{K:Fg0}(hr:HRel K (ρ++t) h H)(hl:ρ.length=n0):∀ws us xs,gj h n0 ws=some us->RelL K (ρ++t) H ws xs->RelL K ρ H us xs
 |[],us,xs,e,r=>by cases e;rw[RelL]at r ⊢;exact r
 |w::ws,us,xs,e,r=>by rw[gj]at e;rw[RelL]at r;obtain⟨y,ys,rfl,r1,r2⟩:=r;split at e;rename_i u us' e1 e2;cases e;exact .cons (vd hr hl w u y e1 r1) (eW hr hl ws us' ys e2 r2);cases e
end
theorem RQ.fin{K:Fg0}{ρ:List Addr}{H:Hp}{h:aa}{r:Res Fl}{Q:VK}{EK:Nat->Hp->Prop}(hr:HRel K ρ h H)
  (q:RQ K (λc _ _ H'=>EK c H') ρ H (J.fin h.length r) λw _ ρ' H'=>∀v,Rel K ρ' H' w v->Q v H') :
  RQ K (λc _ _ H'=>EK c H') ρ H r (kY K { nx:=λ_ H'=>Q .non H',rt:=Q }):=by
 have hl :=hr.len
 cases r with
 |stuck=>exact q
 |exc c h'=>exact λρ' H' x hr'=>q ρ H' x.cut (hr'.cut x hl)
 |ok fl h' =>
  intro ρ' H' x hr'
  have hc:=hr'.cut x hl
  cases fl with
  |nx σ=>exact λτ re=>q ρ H' x.cut hc _ lh
  |brk σ=>exact q.elim
  |cnt σ=>exact q.elim
  |ret w =>
   intro v r
   have q':RQ K (λc _ _ H'=>EK c H') ρ H (match i5 h' h.length w with|some u=>.ok u (h'.take h.length)|none=>.stuck) λw _ ρ' H'=>∀v,Rel K ρ' H' w v->Q v H':=q
   split at q'
   ·rename_i u e
    obtain⟨t,rfl⟩:=x.pre
    exact q' ρ H' x.cut hc v (vd hr' hl w u v e r)
   ·exact q'.elim
theorem RQ.finO{K:Fg0}{ρ:List Addr}{H:Hp}{h:aa}{r:Res Fl}{Q:VK}{EK:Nat->Hp->Prop}(hr:HRel K ρ h H)
  (q:RQ K (λc _ _ H'=>EK c H') ρ H (J.finO h.length r) λw _ ρ' H'=>∀v,Rel K ρ' H' w v->Q v H') :
  RQ K (λc _ _ H'=>EK c H') ρ H r (kY K { nx:=λ_ H'=>Q .non H',rt:=Q }):=by
 unfold J.finO at q
 split at q
 ·rename_i n h'
  have hl:ρ.length=h.length:=hr.len
  intro ρ' H' x hr' v r
  rw[Rel]at r
  obtain⟨a,rfl,hn⟩:=r
  split at q
  ·rename_i hlt
   refine q ρ H' x.cut (hr'.cut x hl) _ ?_
   rw[Rel]
   obtain⟨t,rfl⟩:=x.pre
   exact⟨a,rfl,by rw[zI (by simp_all)]at hn;exact hn⟩
  ·rename_i hlt
   split at q
   ·rename_i ws e
    obtain⟨p,xs,hx,rs⟩:=hr'.at_ n a _ hn e
    have hc:=hr'.cut x hl
    have ha:a∈ρ':=zC hn
    have na:a∉ρ:=λhm=>by obtain⟨t,rfl⟩:=x.pre;rw[zK (by simp_all)]at hn;exact(Zw.mp hr'.nd).2.2 a hm a (zC hn) rfl
    have sub:∀b,b∈ρ++[a]->b∈ρ':=λb hb=>by rcases Za.mp hb with hb|hb;exact x.pre.subset hb;rw[zP.mp hb];exact ha
    have hlen:(h'.take h.length).length=h.length:=by rw[<- hc.len,hl]
    refine q (ρ++[a]) H' ⟨List.prefix_append _ _,x.keep,λb o eb nb hb=>?_⟩ ⟨by simp[<- hc.len],?_,λm b o e1 e2=>?_⟩ _ ?_
    ·rcases Za.mp hb with hb|hb
     ·exact nb hb
     ·exact x.out b o eb nb (by rw[zP.mp hb];exact ha)
    ·rw[Zw]
     exact⟨hc.nd,ZzS,λb hb c hc'=>by rw[zP.mp hc'];rintro rfl;exact na hb⟩
    ·by_cases hm:m<ρ.length
     ·rw[zI hm]at e1
      rw[zI (by simp_all),zzU (by simp_all)]at e2
      obtain⟨t,rfl⟩:=x.pre
      have z:=hr'.at_ m b o (by rw[zI hm];exact e1) e2
      cases o with
      |lst us=>obtain⟨p,ys,e,r⟩:=z;exact⟨p,ys,e,RelL.less sub us ys p r⟩
      |dic ks us=>obtain⟨p,ys,e,l,r⟩:=z;exact⟨p,ys,e,l,RelL.less sub us ys p r⟩
     ·rw[zK (by simp_all)]at e1
      rw[zK (by simp_all),hlen,<- hl]at e2
      cases em:m-ρ.length with
      |succ k=>rw[em]at e1;cases e1
      |zero =>
       rw[em]at e1 e2
       cases e1
       cases e2
       exact⟨p,xs,hx,RelL.less sub ws xs p rs⟩
    ·rw[Rel]
     exact⟨a,rfl,by rw[<- hl,zK (zD _),zzP];rfl⟩
   ·exact q.elim
 ·exact RQ.fin hr q
theorem mL{K:Fg0}(r:RelL K ρ H ws vs):RelE K ρ H (ws.map some++List.replicate (N.length-ws.length) none) (start N vs):=by
 have hl:=r.length;refine⟨by unfold L2.start;simp[hl],λi w e=>?_⟩;by_cases hi:i<ws.length;rw[zI (by simpa using hi),zT]at e;cases e1:ws[i]? with
 |none=>rw[e1]at e;cases e
 |some u=>rw[e1]at e;have e':u=w:=zW (zW e);subst e';obtain⟨v,h1,h2⟩:=r.get e1;refine⟨v,?_,h2⟩;unfold L2.start;rw[zI (by simp;simp_all),zT,h1];rfl
 rw[zK (by simpa using hi),zz3]at e;simp_all
theorem K6{P:Program}{K:Fg0}{st:Stmt}
  (F:Fun K x qual st f fd) (S:FnScope N ps (aw st)) (hg:tb[fn]?=some g) (hnp:g.np=ps.length) (hns:g.ns=N.length)
  (body:∀X EX,X.prog=P->X.w=w->X.K=K->X.mg=mg->X.base=base->X.N=N->X.env.scope=aw st->X.calm=true->(X.fn=λ_=>true)->PassesOwn (model X.prog X.w) X.A X.env X.xe->(X.stack=X.env::X.outer/\X.env.frame=some X.env.locals)->XL cl X EX->XM cl X EX->Room k X.A ->
   PSs X (aT st) (dg K EX (aA (ae fw tb d) fw g.body))) :
  FnOk P w K mg base (mx P w) (k+1) f fd ps (Eh K cl (ae fw tb (d+1)) fn ps.length):=by
 obtain⟨oc,od,kV,doc,pm,an,cdv,ct,osl,rfl,lk,hcd⟩:=F.ex
 refine AB lk hcd S (λvs H Q E h=>h.1) λA outer s H vs Q E hr zq=>?_
 obtain⟨hl,ρ,h,ws,hrel,rl,q⟩:=zq
 refine⟨_,body (kH (mx P w) P w K mg base N qual (aw st) f cdv A outer s H E) _ rfl rfl rfl rfl rfl rfl rfl rfl rfl PassesOwn.leaving ⟨rfl,rfl⟩ Aa AI hr,ρ,_,h,mL rl,hrel,?_⟩
 have e:ae fw tb (d+1) fn ws h=J.fin h.length (aA (ae fw tb d) fw g.body (ws.map some++List.replicate (N.length-ws.length) none) h):=by
  have hw:ws.length=g.np:=by rw[rl.length,hl,hnp]
  show(match tb[fn]? with|some g=>_|none=>_)=_;simp_all
 rw[e]at q
 exact RQ.fin  hrel q
theorem Gp{P:Program}{K:Fg0}{st:Stmt}
  (F:Fun K x qual st f fd) (S:FnScope N ps (aw st)) (hg:tb[fn]?=some g) (hnp:g.np=ps.length) (hns:g.ns=N.length) (hlen:tb.length<=1000)
  (body:∀X EX,X.prog=P->X.w=w->X.K=K->X.mg=mg->X.base=base->X.N=N->X.env.scope=aw st->X.calm=true->(X.fn=λ_=>true)->PassesOwn (model X.prog X.w) X.A X.env X.xe->(X.stack=X.env::X.outer/\X.env.frame=some X.env.locals)->XL cl X EX->XM cl X EX->Room k X.A ->
   PSs X (aT st) (dg K EX (aA (ae fw tb d) fw g.body))) :
  FnOk P w K mg base (mx P w) (k+1) f fd ps (Eh K cl (ae fw tb (d+1)) (fn+1000) ps.length):=by
 obtain⟨oc,od,kV,doc,pm,an,cdv,ct,osl,rfl,lk,hcd⟩:=F.ex
 refine AB lk hcd S (λvs H Q E h=>h.1) λA outer s H vs Q E hr zq=>?_
 obtain⟨hl,ρ,h,ws,hrel,rl,q⟩:=zq
 refine⟨_,body (kH (mx P w) P w K mg base N qual (aw st) f cdv A outer s H E) _ rfl rfl rfl rfl rfl rfl rfl rfl rfl PassesOwn.leaving ⟨rfl,rfl⟩ Aa AI hr,ρ,_,h,mL rl,hrel,?_⟩
 have e:ae fw tb (d+1) (fn+1000) ws h=J.finO h.length (aA (ae fw tb d) fw g.body (ws.map some++List.replicate (N.length-ws.length) none) h):=by
  have hw:ws.length=g.np:=by rw[rl.length,hl,hnp]
  have hno:tb[fn+1000]?=none:=ZD.mpr ZzL;show(match tb[fn+1000]? with|some g=>_|none=>match tb[fn+1000-1000]? with|some g=>_|none=>match tb[fn+1000-2000]? with|some g=>_|none=>_)=_;simp_all
 rw[e]at q
 exact RQ.finO  hrel q
end
theorem DI{v:Int}(h:v.natAbs<10^100):(Str.ofString (toString v)).length<=101:=by
 cases v with
 |ofNat n =>
  refine zf (toString_length_le (k:=100) (Int.natCast_nonneg n) ZzD ?_) ZzD
  have :=Int.ofNat_lt.mpr h
  simp_all
 |negSucc m =>
  have e:toString (Int.negSucc m)="-"++toString ((m+1:Nat):Int):=rfl
  have h':m+1<10^100:=h
  have h2:=toString_length_le (v:=((m+1:Nat):Int)) (k:=100) (Int.natCast_nonneg _) ZzD (by grind)
  rw[PySem.ofString_length]at h2 ⊢
  rw[e,String.length_append]
  show 1+_<=101
  lia
def My(τ:L2.St):Fp->Prop
 |.lit=>True
 |.con=>True
 |.var i=>(∃n:Int,τ[i]?=some (some (.int n))/\n.natAbs<10^100)\/∃s:Str,τ[i]?=some (some (.str s))/\s.length<=1000
 |.rep i=>∃s:Str,τ[i]?=some (some (.str s))/\s.length<=1000/\∀c∈s.cps.toList,c<16^8
theorem Lj{K:Fg0}(re:RelE K ρ H σ τ)(h:ub σ p=true):My τ p:=by
 cases p with
 |lit=>trivial
 |con=>trivial
 |var i=>unfold ub at h;dsimp only at h;split at h;rename_i n e;obtain⟨v,h1,h2⟩:=re.at_ i _ e;cases az h2;exact .inl ⟨n,h1,Zd h⟩;rename_i s e;obtain⟨v,h1,h2⟩:=re.at_ i _ e;cases aB h2;exact .inr ⟨s,h1,Zd h⟩;simp_all
 |rep i=>unfold ub at h;dsimp only at h;split at h;rename_i s e;rw[zE]at h;obtain⟨v,h1,h2⟩:=re.at_ i _ e;cases aB h2;refine⟨s,h1,Zd h.1,λc hc=>?_⟩;have:=Zd (Z5.mp h.2 c hc);exact zzk this ZzD;cases h
section
variable {X:Cx}{EX:cb}{cf:CF}{fw:Nat}{pos:Pos}{a:Expr}
def PF(X:Cx)(e:Expr)(p:Fp):Prop:=∀(pins:List (Addr×Obj)) (s:Shared) (τ:L2.St) (H:Hp) (Q:Value->Shared->Prop),Inv X pins τ H s->My τ p->(∀(y:Str) (t:Tok) (s1:Shared),y.length<=20000->Inv X pins τ H s1->Q (.str y t) s1) ->
 wpAny (model X.prog X.w) X.A (eval e X.env) Q X.xe s
theorem HY(hz:z.length<=1000):PF X (.Constant (.str z) j pos) .lit:=λpins s τ H Q I _ q =>
 aU (pe_str pins s τ H (λv H'=>v=.str z/\H'=H) I ⟨rfl,rfl⟩) λu s1 zq=>by
  obtain⟨v,H1,I1,r,e1,e2⟩:=zq
  subst e1 e2
  obtain⟨t,rfl⟩:=r
  grind
theorem uz{pins:List (Addr×Obj)}{s:Shared}{τ:L2.St}{H:Hp}{Q:Value->Shared->Prop}{n:Int}{t:Tok}(I:Inv X pins τ H s)(hn:n.natAbs<10^100)(q:∀(y:Str) (t:Tok) (s1:Shared),y.length<=20000->Inv X pins τ H s1->Q (.str y t) s1) :
  wpAny (model X.prog X.w) X.A (formatField (.int n t) Str.empty) Q X.xe s:=by
 exact wpAny_formatField_int (log2_ofN hn) (q _ _ _ (zf (DI hn) ZzD) (I.tok _))
where
 log2_ofN {n:Nat} (h:n<10^100):n.log2<1920:=by
  by_cases h0:n=0
  ·subst h0;decide
  ·exact(Nat.log2_lt h0).mpr (zzk h (Nat.le_add_left ..))
theorem vh{pins:List (Addr×Obj)}{s:Shared}{τ:L2.St}{H:Hp}{Q:Value->Shared->Prop}{z:Str}{t:Tok}(I:Inv X pins τ H s)(hn:z.length<=20000)(q:∀(y:Str) (t:Tok) (s1:Shared),y.length<=20000->Inv X pins τ H s1->Q (.str y t) s1) :
  wpAny (model X.prog X.w) X.A (formatField (.str z t) Str.empty) Q X.xe s :=
 wpAny_formatField_str (q _ _ _ hn I) (q _ _ _ hn (I.tok _)) (zf hn ZzD)
theorem Fb(hg:Gl X x)(hm:X.mg x=some (.int n t))(hd:(x==("__debug__"))=false)(hn:n.natAbs<10^100):PF X (.FormattedValue (.Name x p) (-1) none pos) .con:=λpins s τ H Q I _ q =>
 wpAny_FormattedValue_plain (fI I hg hm (uz I hn q) hd)
theorem Gh(hN:X.N[i]?=some x)(hv:va X.env.scope x)(hd:(x==("__debug__"))=false)(hcd:(x==("__classdict__":Str))=false):PF X (.FormattedValue (.Name x p) (-1) none pos) (.var i):=λpins s τ H Q I hf q=>by refine wpAny_FormattedValue_plain ?_;rcases hf with⟨n,e,hn⟩|⟨z,e,hz⟩;refine aU (eN hN hv hd hcd pins s τ H (λv H'=>v=.int n/\H'=H) I ⟨_,e,rfl,rfl⟩) λu s1 zq=>?_;obtain⟨v,H1,I1,r,e1,e2⟩:=zq;subst e1 e2;obtain⟨t,rfl⟩:=r;exact uz I1 hn q;refine aU (eN hN hv hd hcd pins s τ H (λv H'=>v=.str z/\H'=H) I ⟨_,e,rfl,rfl⟩) λu s1 zq=>?_;obtain⟨v,H1,I1,r,e1,e2⟩:=zq;subst e1 e2;obtain⟨t,rfl⟩:=r;exact vh I1 (zf ‹_› ZzD) q
theorem Ge(hN:X.N[i]?=some x)(hv:va X.env.scope x)(hd:(x==("__debug__"))=false)(hcd:(x==("__classdict__"))=false):PF X (.FormattedValue (.Name x p) 114 none pos) (.rep i):=λpins s τ H Q I hf q=>by refine wpAny_FormattedValue_repr ?_;obtain⟨z,e,hz,hc⟩:=hf;refine aU (eN hN hv hd hcd pins s τ H (λv H'=>v=.str z/\H'=H) I ⟨_,e,rfl,rfl⟩) λu s1 zq=>?_;obtain⟨v,H1,I1,r,e1,e2⟩:=zq;subst e1 e2;obtain⟨t,rfl⟩:=r;have hl:=StrLaws.reprText_len z hc;exact wpAny_pyReprObj_str (vh (I1.tok _) ZzL q) (zf (show _<=20000 by lia) ZzD)
inductive PFs (X:Cx):List Expr->List Fp->Prop where
 |nil:PFs X [] []
 |cons {e:Expr}{p:Fp}{es:List Expr}{ps:List Fp}:PF X e p->PFs X es ps->PFs X (e::es) (p::ps)
theorem Bp{pins:List (Addr×Obj)}{τ:L2.St}{H:Hp}{Q:Str->Shared->Prop}{es:List Expr}{ps:List Fp}(f:PFs X es ps)(q:∀(y:Str) (s1:Shared),y.length<=1000000->Inv X pins τ H s1->Q y s1):∀(acc:Str) (s:Shared),Inv X pins τ H s->(∀p∈ps,My τ p)->acc.length+20000*es.length<=1000000 ->
  Joins (model X.prog X.w) X.A X.xe (evalEach es X.env) acc Q s:=by
 induction f with
 |nil =>
  intro acc s I hp hl
  show Joins _ _ _ [] acc Q s
  unfold Joins
  simp_all
 | @cons e p es ps h1 h2 ih =>
  intro acc s I hp hl
  rw[z0]at hl
  refine h1 pins s τ H _ I (hp p zN) λy t s1 hy I1=>⟨y,t,rfl,?_,ih (acc++y) s1 I1 (λp' hp'=>hp p' (zB _ hp')) ?_⟩
  ·rw[Str.length_append,Zj];lia
  ·rw[Str.length_append];lia
def Oi(ps:List Fp):TE:=λτ H Q=>(∀p∈ps,My τ p)/\∀y:Str,Q (.str y) H
theorem ya(f:PFs X (e1::e2::es) ps)(hl:(e1::e2::es).length<=20):PE X (.JoinedStr (e1::e2::es) pos) (Oi ps):=λpins s τ H Q I zq=>by
 obtain⟨hp,q⟩:=zq
 refine wpAny_JoinedStr (Bp    f (λy s1 hy I1=>⟨by rw[Zj];exact zf ‹_› ZzD,.str y,H,I1.tok _,⟨_,rfl⟩,q y⟩) Str.empty s I hp ?_)
 show 0+_<=_
 lia
theorem DN:PE X (.Constant (.str z) j pos) (Oi []):=pe_str.sub λτ H Q zq=>by obtain⟨_,q⟩:=zq;exact q z
theorem uD(hc:X.calm=true)(hg:Gl X x)(hm:X.mg x=some (.ref (cl c)))(hd:(x==("__debug__":Str))=false)(O:Eo X.base (cl c) bm)(hX:XM cl X EX)(ha:PE X a (Oi ps))(hs:au a=true) :
  PS X (.Raise (some (.Call (.Name x np) [a] [] cpos)) none pos) (dg X.K EX (exS cf fw (.raise c ps))):=by
 intro pins s τ H D I zq6
 obtain⟨ρ,σ,h,re,hr,q⟩:=zq6
 rw[exS]at q
 split at q
 ·rename_i hp
  have qx:EX c h ρ H:=q ρ H .refl hr
  obtain⟨N,nm,qn,bs,a1,sn,sub,ab,col,dd,k0,k1,k2,k3,k5,mN,e1,e2,e3,e4⟩:=O.obj
  have st :=ar hs [] X.env
  refine wpAny_Raise_call_subT (C:=cl c) (nm:=nm) (q:=qn) (N:=N) (bs:=bs) (bm:=bm) (hdct:=a1) (sn:=sn) (sub:=sub) (ab:=ab) (col:=col) (dd:=dd) (k0:=k0) (k1:=k1) (k2:=k2) (k3:=k3) (k5:=k5) F.excBase_ValueError (mN:=mN) O.top (I.ok.hd hc) (by rw[st];rfl) e3 (fI I hg hm ⟨rfl,?_⟩ hd)
  have pa:=aN ha pa_nil (ar hs [] X.env) cpos pins s τ H (λvs H'=>H'=H/\vs.length=1) I ⟨λp hp'=>Lj re (Z5.mp hp p hp'),λy=>⟨rfl,rfl⟩⟩
  rw[st]at pa ⊢
  refine Calls.evalArgs_plain (ZA pa (λus s2 ⟨vs,H2,I2,r,e,el⟩=>?_) λ_ _ y=>y)
  subst e
  refine⟨rfl,?_,I2.bk _ _ e1,e2.keeps I2.bk,e4.keeps I2.bk,λh' ea mk=>?_⟩
  ·show us.length<=sizeLine
   rw[<- r.length,el,Zj];decide
  ·exact hX pins τ H2 s2 h' ea c h ρ us I2 mk hr qx
 ·exact q.elim
end
noncomputable abbrev Cx.hnd(X:Cx)(v:Value)(E:Value->Shared->Prop):Cx:={ X with A:=X.A.mark (some v),calm:=false,xe:=E }
noncomputable abbrev Cx.aim(X:Cx)(pn:List (Addr×Obj))(E:Value->Shared->Prop):Cx:={ X with pn:=pn,xe:=E }
section
variable {X:Cx}{EX:cb}{cf:CF}{fw:Nat}{pos:Pos}{pins:List (Addr×Obj)}{σ:L2.St}{H:Hp}{s:Shared}{cl:Nat->Addr}
theorem k7{E:Value->Shared->Prop}(I:Inv X pins σ H s):Inv (Cx.hnd X v E) pins σ H s :=
 have ok:=I.ok
 ⟨⟨ok.mod,ok.kind,ok.glob,ok.blt,ok.above,ok.inj,ok.has,ok.cab,λz=>(by cases z),ok.frames,ok.stk,ok.exf,ok.bs,ok.bsz,ok.noex,ok.exfs,ok.funs,ok.frf⟩,I.os,I.bare,I.base,I.loc,I.cell,I.free,I.freeC,I.pin,I.hok,I.len⟩
theorem dz{E:Value->Shared->Prop}(ok:X.Ok)(I:Inv (Cx.hnd X v E) pins σ H s):Inv X pins σ H s:=⟨ok,I.os,I.bare,I.base,I.loc,I.cell,I.free,I.freeC,I.pin,I.hok,I.len⟩
theorem Ak{E:Value->Shared->Prop}(ok:X.Ok)(h:SP (Cx.hnd X v E) pins D f s):SP X pins D f s:=by
 cases f with
 |next=>obtain⟨σ',H',I,q⟩:=h;exact⟨σ',H',dz ok I,q⟩
 |brk=>obtain⟨σ',H',I,q⟩:=h;exact⟨σ',H',dz ok I,q⟩
 |cont=>obtain⟨σ',H',I,q⟩:=h;exact⟨σ',H',dz ok I,q⟩
 |ret u=>obtain⟨v,σ',H',I,r,q⟩:=h;exact⟨v,σ',H',dz ok I,r,q⟩
theorem oP{E:Value->Shared->Prop}(I:Inv X pins σ H s):Inv (Cx.aim X (X.pn++pins) E) [] σ H s :=
 have ok:=I.ok
 ⟨⟨ok.mod,ok.kind,ok.glob,ok.blt,ok.above,ok.inj,ok.has,ok.cab,ok.hd,ok.frames,ok.stk,ok.exf,ok.bs,ok.bsz,ok.noex,ok.exfs,ok.funs,ok.frf⟩,I.os,I.bare,I.base,I.loc,I.cell,I.free,I.freeC,λp hp=>I.pin p (by simp_all),I.hok,I.len⟩
theorem bt{E:Value->Shared->Prop}{pins':List (Addr×Obj)}(I:Inv (Cx.aim X (X.pn++pins) E) pins' σ H s):Inv X pins σ H s :=
 have ok:=I.ok
 ⟨⟨ok.mod,ok.kind,ok.glob,ok.blt,ok.above,ok.inj,ok.has,ok.cab,ok.hd,ok.frames,ok.stk,ok.exf,ok.bs,ok.bsz,ok.noex,ok.exfs,ok.funs,ok.frf⟩,I.os,I.bare,I.base,I.loc,I.cell,I.free,I.freeC,λp hp=>I.pin p (Ze _ hp),I.hok,I.len⟩
noncomputable def Jx(c:Nat)(σ:ag):Hd->Fl
 |.ret w=>.ret w
 |.asg i w=>.nx ((σ.map λ_=>none).set i (some w))
def Oz(K:Fg0)(hd:Hd):TS:=λD τ H=>∃c ρ h σ,(∀σ':ag,σ'.length=σ.length->(∀(i:Nat) (w:W),¬ σ'[i]?=some (some w))->RelE K ρ H σ' τ)/\HRel K ρ h H/\kY K D (Jx c σ hd) h ρ H
structure HdOk (X:Cx) (cl:Nat->Addr) (hb:ExceptHandler) (d:Nat) (hd:Hd):Prop where
 ex:∃x np st p,hb=.ExceptHandler (some (.Name x np)) none [st] p/\Gl X x/\X.mg x=some (.ref (cl d))/\(x==("__debug__":Str))=false/\∀v E,PS (Cx.hnd X v E) st (Oz X.K hd)
inductive HdsOk (X:Cx) (cl:Nat->Addr):List ExceptHandler->List (Nat×Hd)->Prop where
 |nil:HdsOk X cl [] []
 |cons {hb:ExceptHandler}{d:Nat}{hd:Hd}{hs:List ExceptHandler}{hs':List (Nat×Hd)}:HdOk X cl hb d hd->HdsOk X cl hs hs'->HdsOk X cl (hb::hs) ((d,hd)::hs')
def EG(X:Cx)(cl:Nat->Addr)(ids:List Nat):Prop:=∀c∈ids,∃bm,Eo X.base (cl c) bm/\∀d∈ids,(Value.ref (cl c)::bm).contains (.ref (cl d))=decide (c=d)
theorem tu{st:Stmt}(h:PS Y st t)(m:∀D τ H,t D τ H->t { D with nx:=λσ' H'=>D.nx σ' H' } τ H):PSs Y [st] t:=(cT h pss_nil).sub λD τ H q=>m D τ H q
theorem XAt.again{l:List Env}{ha h h':Heap}{e:Addr}{C:Value}{B:Heap}{a0:Value}(x:XAt l ha h e C)(f:B.FlyingW l e C a0 h)(k:∀b o,ha.get? b=some o->b∉fU l->B.get? b=some o)(f':B.FlyingW l e C a0 h')(up:h.UpToSlots h'):XAt l ha h' e C :=
 ⟨x.no,⟨B,a0,f',k⟩,λb o hb m=>by
  obtain⟨sl1,z1⟩:=x.fly.2 b o hb m
  obtain⟨sl2,z2⟩:=qH  up f.2.2.1 m z1
  grind⟩
theorem vO{ea:Addr}{c:Nat}{ids:List Nat}(HH:HdsOk X cl hs hs')(CT:EG X cl ids)(hc:c∈ids):(∀p∈hs',p.1∈ids)->∀σ0 fl s h ρ,
  XS X pins σ H s ea (.ref (cl c))->σ0.length=X.N.length->vC hs' (λc d=>decide (c=d)) c σ0=some fl->kY X.K D fl h ρ H->HRel X.K ρ h H->wpAny (model X.prog X.w) X.A (handleBy (.ref ea) X.env hs) (SP X pins D) X.xe s:=by
 induction HH with
 |nil=>intro _ σ0 fl s h ρ x hl e q hr;cases e
 | @cons hb d hd hs hs' h1 h2 ih =>
  intro hi σ0 fl s h ρ x hl e q hr
  obtain⟨x1,np,st,p,rfl,hg,hm,hdb,hst⟩:=h1.ex
  obtain⟨bm,O,hsub⟩:=CT c hc
  obtain⟨bd,Od,_⟩:=CT d (hi (d,hd) zN)
  have I:=x.inv
  obtain⟨oe,eo,ec⟩:=x.cls
  refine wpAny_handleBy_cons (codeAny_handlers_test ?_) (by intro z;cases z)
  refine fI (X:=Cx.hnd X (.ref ea) X.xe) (k7 I) hg hm ?_ hdb
  refine nq (O.keeps I.bk) (Od.keeps I.bk) eo ec ?_
  rw[hsub d (hi (d,hd) zN)]
  by_cases hcd:c=d
  ·rw[zX hcd,zF rfl]
   unfold vC at e
   rw[zF (zX hcd)]at e
   obtain⟨sa,Ia,os,bare,xa⟩:=id x
   obtain⟨⟨B,a0,f,k⟩,sl⟩:=id xa.fly
   refine codeAny_handlers_suite (lands_againW f λh' f' up=>?_)
   have x2:XS X pins σ H { s with heap:=h' } ea (.ref (cl c)):=⟨sa,Ia,os,bare,xa.again f k f' up⟩
   have e':fl=Jx c σ0 hd:=by have:=zW e;rw[<- this];cases hd<;>rfl
   refine ZA (tu (hst (.ref ea) _) (λD τ H q=>q) pins { s with heap:=h' } σ H D (k7 x2.inv) ⟨c,ρ,h,σ0,λσ' h1 h2=>⟨by rw[h1,hl];exact x2.inv.len.symm,λi w z=>absurd z (h2 i w)⟩,hr,by rw[<- e'];exact q⟩) (λf s2 z=>?_) (λ_ _ y=>y)
   exact Ak I.ok z
  ·rw[zV hcd,zM ZzD]
   unfold vC at e
   rw[zM (by rw[zV hcd];decide)]at e
   exact ih (λp hp=>hi p (zB _ hp)) σ0 fl s h ρ x hl e q hr
theorem tZ:∀{hs':List (Nat×Hd)},vC hs' (λc d=>decide (c=d)) c σ0=some fl->c∈hs'.map (·.1)
 |[],e=>by cases e
 |(d,hd)::hs',e=>by
  unfold vC at e
  split at e
  ·grind
  ·exact zB _ (tZ e)
theorem Hw{e:Expr}{e':E}{h0:ExceptHandler}{hs:List ExceptHandler}{hs':List (Nat×Hd)}{p1:Pos}(stk:X.stack=X.env::X.outer/\X.env.frame=some X.env.locals)(HH:HdsOk X cl (h0::hs) hs')(CT:EG X cl (hs'.map (·.1)))
  (he:∀pn xe EY,PassesOwn (model X.prog X.w) X.A X.env xe->XL cl (Cx.aim X pn xe) EY->PE (Cx.aim X pn xe) e (tI X.K EY (evE cf e'))) :
  PS X (.Try [.Return (some e) p1] (h0::hs) [] [] pos) (dg X.K EX (exS cf fw (.tryR e' hs'))):=by
 intro pins s τ H D I zq6
 obtain⟨ρ,σ,h,re,hr,q⟩:=zq6
 rw[exS]at q
 let xe:Value->Shared->Prop:=λev s1=>wpAny (model X.prog X.w) X.A (noteFrame ev X.env) (λ_ s2=>wpAny (model X.prog X.w) X.A (setFlight ev none) (λ_ s3=>wpAny (model X.prog X.w) X.A (handleBy ev X.env (h0::hs)) (SP X pins D) X.xe s3) X.xe s2) X.xe s1
 let EY:cb:=λc h1 ρ1 H1=>∃fl,vC hs' (λc d=>decide (c=d)) c σ=some fl/\kY X.K D fl h1 ρ1 H1
 have hlen:σ.length=X.N.length:=by rw[re.len];exact I.len
 have hX:XL cl (Cx.aim X (X.pn++pins) xe) EY:=by
  intro pins' σ' H' s' ea c h1 ρ1 zq8 hr1 zq10;obtain⟨sa,Ia,os,bare,xa⟩:=zq8;obtain⟨fl,e1,e2⟩:=zq10;have x:XS X pins σ' H' s' ea (.ref (cl c)):=⟨sa,bt Ia,os,bare,xa⟩;obtain⟨⟨B,a0,f,k⟩,sl⟩:=id xa.fly;have fr:X.A.frames=some (X.env::X.outer):=by rw[<- stk.1];exact I.ok.frames
  have fS:B.FlyingW (X.env::X.outer) ea (.ref (cl c)) a0 s'.heap:=by rw[<- stk.1];exact f
  refine wpAny_looks_onW fr stk.2 fS λh2 f2 up2=>?_;refine wpAny_landsW f2 λh3 f3 up3=>?_;have f3':B.FlyingW X.stack ea (.ref (cl c)) a0 h3:=by rw[stk.1];exact f3
  have x3:XS X pins σ' H' { s' with heap:=h3 } ea (.ref (cl c)):=⟨sa,bt Ia,os,bare,xa.again f k f3' (up2.trans up3)⟩;exact vO HH CT (tZ e1) (λp hp=>Zx.mpr ⟨p,hp,rfl⟩) σ fl _ h1 ρ1 x3 hlen e1 e2 hr1
 have hE:=he (X.pn++pins) xe EY PassesOwn.looking hX
 refine wpAny_Try_except ?_
 have b:=tu (sV hE (pos:=p1)) (λD τ H q=>q) [] s τ H { nx:=λ_ _=>False,rt:=D.rt } (oP I) ⟨ρ,σ,h,re,hr,?_⟩
 ·refine ZA b (λf s1 z=>?_) λ_ _ y=>y
  cases f with
  |next=>obtain⟨_,_,_,z⟩:=z;exact z.elim
  |brk=>obtain⟨_,_,_,z⟩:=z;exact z.elim
  |cont=>obtain⟨_,_,_,z⟩:=z;exact z.elim
  |ret u=>obtain⟨v,σ',H',I',r,z⟩:=z;exact⟨v,σ',H',bt I',r,z⟩
 ·show RQ X.K EY ρ H (evE cf e' σ h) _
  cases ee:evE cf e' σ h with
  |stuck=>rw[ee]at q;exact q.elim
  |ok w h1 =>
   rw[ee]at q
   exact λρ1 H1 x1 hr1 v r=>q ρ1 H1 x1 hr1 v r
  |exc c h1 =>
   rw[ee]at q
   dsimp only at q
   split at q
   ·rename_i fl e1
    exact λρ1 H1 x1 hr1=>⟨fl,e1,q ρ1 H1 x1 hr1⟩
   ·exact q.elim
end
theorem Hu{M:Model}{A:Around}{E:Value->Shared->Prop}{s:Shared}{e C:Addr}{oe:Obj}{bm:List Value}{n:Value}{Q:Unit->Shared->Prop}(hC:Eo s.heap C bm)(he:s.heap.get? e=some oe)(hc:oe.cls=.ref C)(q:Q () s) :
  wpAny M A (checkBuiltinCall "BaseException.__getattribute__" ⟨[.ref e,n],[]⟩) Q E s:=by
 have hB:(Value.ref C::bm).contains (.type "BaseException")=true:=by rw[List.contains_cons,hC.top,Bool.or_true]
 obtain⟨N,nm,qn,bs,hdct,sn,sub,ab,col,dd,k0,k1,k2,k3,k5,mN,oC,_⟩:=hC.obj
 obtain⟨hh,g,d,t,os⟩:=s
 have ok:=F.args_bexc_ga (.ref e) n
 unfold argsOk at ok
 unfold checkBuiltinCall
 rw[show builtinKind "BaseException.__getattribute__"=some .slot from by decide +kernel,show splitId "BaseException.__getattribute__"=some ("BaseException","__getattribute__") from rfl]
 dsimp only
 repeat (first
  |(with_reducible refine Zs he ?_;rw[hc])
  |(with_reducible refine Z1 oC ?_;rw[hB])
  |wp_step)
 exact q
theorem DE{prog:Program}{w:World}{A:Around}{s:Shared}{e C:Addr}{oe:Obj}{bm:List Value}{R:Result->Shared->Prop}(hC:Eo s.heap C bm)(hO:(Value.ref C::bm).contains (.type "object")=true)(he:s.heap.get? e=some oe)(hc:oe.cls=.ref C)(q:R (.ok (.ret (.ref C))) s) :
  codeAny (model prog w) A (.call (.builtin "getset_descriptor.__get__") ⟨[.builtin "object.__class__",.ref e,.ref C],[]⟩) R s:=by
 obtain⟨N,nm,qn,bs,hdct,sn,sub,ab,col,dd,k0,k1,k2,k3,k5,mN,oC,_⟩:=hC.obj
 obtain⟨hh,g,d,t,os⟩:=s
 refine zzl F.slot_gs_get.plain F.entry_gs_get (F.slot_gs_get.check _ _ _ _ _ _ _ _ F.typeOf_object_class (F.args_gs_get _ _ _) ?_)
 unfold Builtin.«getset_descriptor.__get__» Builtin.Getset_descriptor.descrGet
 repeat (first
  |(with_reducible refine Zs he ?_;rw[hc])
  |wp_step)
 rw[F.owner_object_class]
 refine Z1 oC ?_
 rw[hO]
 repeat wp_step
 refine⟨zz0 _ (by decide +kernel),zzg F.entry_object_class ?_⟩
 unfold Builtin.«object.__class__» shownTypeOf
 repeat (first
  |(with_reducible refine Zs he ?_;rw[hc])
  |wp_step)
 exact q
theorem vE{K:Fg0}{prog:Program}{w:World}{A:Around}{E:Value->Shared->Prop}{s:Shared}{e C:Addr}{oe:Obj}{bm:List Value}{tk:Tok}{Q:PySem.Fin->Shared->Prop}(X:K.In s.heap)(hC:Eo s.heap C bm)(hO:(Value.ref C::bm).contains (.type "object")=true)(he:s.heap.get? e=some oe)(hc:oe.cls=.ref C)
  (g3:PySem.W.findIn K (.ref C) "__class__"=some (some (.builtin "object.__class__"))) (q:Q (.done (.ret (.ref C))) s) :
  wpAny (model prog w) A (Builtin.«object.__getattribute__» ⟨[.ref e,.str "__class__" tk],[]⟩) Q E s:=by
 have l3:∀M,W.Looks M s.heap (typeLookup (.ref C) "__class__") _:=λM=>W.looks_findIn X g3
 obtain⟨hh,g,d,t,os⟩:=s
 have G:=@DE prog w A ⟨hh,g,d,t,os⟩ e C oe bm
 unfold Builtin.«object.__getattribute__» Builtin.ObjectAttr.find
 repeat (first
  |(with_reducible refine Zs he ?_;rw[hc])
  |wp_step)
 refine l3 _ _ _ _ _ (λ_ _ z=>z) ?_
 unfold Builtin.ObjectAttr.getOf Builtin.ObjectAttr.dataDescriptor? Builtin.ObjectAttr.takesStores
 repeat (first
  |with_reducible refine wpAny_specialOf_val F.typeOf_object_class F.slot_gs_get.lookup ?_
  |with_reducible refine wpAny_specialOf_val F.typeOf_object_class F.slot_gs_set.lookup ?_
  |wp_step)
 refine G hC hO he hc ?_
 dsimp only
 repeat wp_step
 exact q
theorem D8{K:Fg0}{E:Value->Shared->Prop}(X:K.In s.heap)(hC:Eo s.heap C bm)(hO:(Value.ref C::bm).contains (.type "object")=true)(he:s.heap.get? e=some oe)(hc:oe.cls=.ref C)
  (g1:PySem.W.findIn K (.ref C) "__getattribute__"=some (some (.builtin "BaseException.__getattribute__"))) (g2:PySem.W.findIn K (.ref C) "__getattr__"=some none) (g3:PySem.W.findIn K (.ref C) "__class__"=some (some (.builtin "object.__class__")))
  (q:Q (some (.ref C)) { s with toks:=s.toks+1 }):wpAny (model prog w) A (getAttr? (.ref e) "__class__") Q E s:=by
 have l1:∀M,W.Looks M s.heap (typeLookup (.ref C) "__getattribute__") _:=λM=>W.looks_findIn X g1
 have l2:∀M,W.Looks M s.heap (typeLookup (.ref C) "__getattr__") _:=λM=>W.looks_findIn X g2
 obtain⟨hh,g,d,t,os⟩:=s
 dsimp only at *
 unfold getAttr? getAttrBy? getAttrBy
 repeat (first
  |(with_reducible refine Zs he ?_;rw[hc])
  |wp_step)
 refine l1 _ _ _ _ _ (λ_ _ z=>z) ?_
 dsimp only
 rw[zM (by rw[zE];rintro ⟨_,z⟩;exact absurd z ZzD)]
 unfold getAttrByItsOwn hookBefore
 rw[zF (show onTheHeap (.ref C)=true from rfl)]
 wp_step
 refine l2 _ _ _ _ _ (λ_ _ z=>z) ?_
 unfold callGetattribute
 rw[zM ZzD]
 unfold boundAndCalled
 rw[F.attrBase_ValueError.ga.bind]
 repeat wp_step
 refine zzl F.attrBase_ValueError.ga.plain F.entry_bexc_ga (Hu (s:=⟨hh,g,d,t+1,os⟩) hC he hc ?_)
 refine vE (K:=K) (s:=⟨hh,g,d,t+1,os⟩) X hC hO he hc g3 ?_
 dsimp only
 unfold handedOut
 repeat wp_step
 exact q
theorem DQ {K:Fg0} {E:Value→Shared→Prop} (X:K.In s.heap) (hC:Eo s.heap C bm) (hD:Eo s.heap D bd) (hO:(Value.ref C::bm).contains (.type "object")=true) (he:s.heap.get? e=some oe) (hc:oe.cls=.ref C)
    (g1:PySem.W.findIn K (.ref C) "__getattribute__"=some (some (.builtin "BaseException.__getattribute__"))) (g2:PySem.W.findIn K (.ref C) "__getattr__"=some none) (g3:PySem.W.findIn K (.ref C) "__class__"=some (some (.builtin "object.__class__")))
    (q:∀ tk,Q (.bool ((Value.ref C::bm).contains (.ref D))) { s with toks:=tk }):wpAny (model prog w) A (call (.builtin "isinstance") [.ref e,.ref D]) Q E s:=by
  obtain ⟨N,nm,qn,bs,hdct,sn,sub,ab,col,dd,k0,k1,k2,k3,k5,mN,oC,_⟩:=hC.obj
  obtain ⟨N',nm',qn',bs',hdct',sn',sub',ab',col',dd',k0',k1',k2',k3',k5',mN',oD,_⟩:=hD.obj
  obtain ⟨hh,g,d,t,os⟩:=s
  refine call_isinstance_of ?_
  by_cases hcd:C=D
  · subst hcd
    rw [show (Value.ref C::bm).contains (.ref C)=true by simp] at q
    unfold Builtin.«isinstance.nested»
    repeat (first
      | (with_reducible refine Zs he ?_;rw [hc])
      | wp_step)
    exact q t
  · have ne:(Value.ref C == Value.ref D)=false:=by rw [ZZ];intro z;cases z;exact hcd rfl
    unfold Builtin.«isinstance.nested»
    repeat (first
      | (with_reducible refine Zs he ?_;rw [hc])
      | with_reducible refine Zs oD ?_
      | wp_step)
    refine Z1 oC ?_
    cases z:(Value.ref C::bm).contains (.ref D) with
    | true => rw [z] at q; repeat wp_step
              exact q t
    | false =>
      rw [z] at q
      repeat (first
        | with_reducible refine D8 X hC hO he hc g1 g2 g3 ?_
        | with_reducible refine Zs oC ?_
        | (with_reducible refine Z1 oC ?_;rw [z])
        | wp_step)
      exact q _
theorem mB(x:ObjOk P w H h a o):∃ob,h.get? a=some ob:=by
 cases o with
 |lst xs=>obtain⟨_,_,_,_,e⟩:=x;exact⟨_,e⟩
 |tup xs=>obtain⟨_,_,_,ob,e,_⟩:=x;exact⟨_,e⟩
 |dK kvs=>obtain⟨_,_,_,_,o,_,_,e,_⟩:=x;exact⟨_,e⟩
 |dT kvs=>obtain⟨_,_,_,_,o,_,_,e,_⟩:=x;exact⟨_,e⟩
 |set S n=>obtain⟨o,_,_,_,e,_⟩:=x;exact⟨_,e⟩
 |ins C dx fs=>obtain⟨_,_,_,e,_⟩:=x;exact⟨_,e⟩
 |own y=>exact x
 |xd fs=>obtain⟨_,⟨_,_,_,e,_⟩,_⟩:=x;exact⟨_,e⟩
 |rng lo hi=>obtain⟨_,_,_,e⟩:=x;exact⟨_,e⟩
 |frz ob u=>obtain⟨e,_⟩:=x;exact⟨_,e⟩
 |tbl ps=>exact⟨_,(x)⟩
 |met f y=>exact⟨_,(x)⟩
 |ext φ=>obtain⟨_,e,_⟩:=x;exact e
theorem Bt(x:HOk P w H h)(e:h.get? a=none):H a=none:=by
 cases q:H a with
 |none=>rfl
 |some u=>obtain⟨ob,z⟩:=mB (x a u q);simp_all
section
variable {X:Cx}{pins:List (Addr×Obj)}{σ:L2.St}{H:Hp}{s:Shared}{e:Addr}{C:Value}
theorem XS.pin(x:XS X pins σ H s e C):∃oe,oe.cls=C/\Inv X ((e,oe)::pins) σ H s:=by have I:=x.inv;obtain⟨sa,Ia,os,bare,xa⟩:=x;obtain⟨⟨B,a0,f,k⟩,sl⟩:=xa.fly;obtain⟨_,_,_,oe,vs,T,oT,ts,he,⟨hc,_⟩,hd,_⟩:=f;have no:=xa.no;refine⟨oe,hc,I.pins_of λp hp=>?_⟩;rcases zS.mp hp with rfl|hp;refine⟨he,Bt Ia.hok no,λz=>?_,λz=>?_,λv z=>by rw[hd]at z;cases z⟩;obtain⟨m,hn,_⟩:=Ia.loc;obtain⟨oL,_,_,hoL,_⟩:=id hn;simp_all;obtain⟨_,o,ho,_⟩:=Ia.ok.funs.mem z;obtain⟨o',ho'⟩:=Ia.base.there _ o ho (λy=>Ia.ok.exfs _ y z);simp_all;exact I.pin p (Zb _ hp)
theorem wI{E:Value->Shared->Prop}(I:Inv X pins σ H s)(hN:X.N.Nodup)(hi:X.N[i]?=some x)(hk:X.env.scope.names.lookup x=some .local)(hv:σ[i]?=some (some v))
  (h:∀s',Inv X pins (σ.set i none) H s'->Q () s'):wpAny M A (unbindBehindTheSuite X.env x pos) Q E s:=by
 obtain⟨m,hn,hl⟩:=id I.loc
 have hcls:(X.env.scope.kind==.class||(X.env.scope.kind==.module&&X.env.locals != X.env.globals))=false:=by rw[I.ok.kind];rfl
 obtain⟨u,ru,lu⟩:=hl i x v hi hv (.inl hk)
 have hm:m x=some u:=by rcases lu with⟨_,z⟩|⟨z,_⟩;exact z;have hk':X.env.kindOf x=some .local:=hk;rw[hk']at z;rcases z with z|z<;>cases z
 have cne:=I.cne
 unfold unbindBehindTheSuite
 refine wpAny_onRaise (wpAny_unbindName_local hk hn hm hcls λh' u' hn' hs=>?_)
 obtain⟨oL,_,_,hoL,_⟩:=id hn
 refine h _ ⟨I.ok,I.os,I.bare,⟨λb o e n hb hx=>?_,λb o e n hb hx=>?_,I.base.free,λb o e hx=>?_,I.base.tups,I.base.frzs,I.base.tbls⟩,⟨_,hn',λj y v' e1 e2 e3=>?_⟩,λy c e=>?_,I.free,I.freeC,λp hp=>?_,λb ob e=>?_,by simpa using I.len⟩
 ·exact(hs.2 b (zU (zj (zL e) I.ok.above))).trans (I.base.keep b o e n hb hx)
 ·obtain⟨sl,e1⟩:=I.base.slot b o e n hb hx
  exact⟨sl,(hs.2 b (zU (zj (zL e) I.ok.above))).trans e1⟩
 ·obtain⟨o',e1⟩:=I.base.there b o e hx
  exact⟨o',(hs.2 b (zU (zj (zL e) I.ok.above))).trans e1⟩
 ·by_cases hj:j=i
  ·subst hj
   rw[zZ (ze.mp hv).1]at e2
   cases e2
  ·rw[zY (zzi hj)]at e2
   obtain⟨u2,r',q⟩:=hl j y v' e1 e2 e3
   refine⟨u2,r',?_⟩
   rcases q with⟨k,e⟩|⟨k,c,e,z⟩
   ·refine .inl ⟨k,?_⟩
    have:y≠x:=λe=>hj (iM hN e1 (e▸hi))
    simp[this,e]
   ·exact .inr ⟨k,c,e,z.sameBut hs (cne y c e)⟩
 ·obtain⟨w',z⟩:=I.cell y c e
  exact⟨w',z.sameBut hs (cne y c e)⟩
 ·obtain⟨e,n,ne,nf,d⟩:=I.pin p hp
  exact⟨(hs.2 p.1 ne).trans e,n,ne,nf,d⟩
 ·refine(I.hok b ob e).stay (λc w' hc q=>(hs.2 c ?_).trans q) (λ_ q=>q) λ_ _ q=>q
  have hf:=I.free
  rintro rfl
  rcases hc with rfl|hc
  ·rw[hf]at e;cases e
  ·rw[hf]at hc;cases hc
end
def O6(ie:Nat)(ea:Addr)(b:Bool):TE:=λτ H Q=>τ[ie]?=some (some (.ref ea))/\Q (.bl b) H
def vX(ie:Nat)(ea:Addr)(bs:List Bool):TA:=λτ H Q=>τ[ie]?=some (some (.ref ea))/\Q (bs.map V.bl) H
structure ClsK (K:Fg0) (C:Addr) (bm:List Value):Prop where
 ob:(Value.ref C::bm).contains (.type "object")=true
 g1:PySem.W.findIn K (.ref C) "__getattribute__"=some (some (.builtin "BaseException.__getattribute__"))
 g2:PySem.W.findIn K (.ref C) "__getattr__"=some none
 g3:PySem.W.findIn K (.ref C) "__class__"=some (some (.builtin "object.__class__"))
section
variable {X:Cx}{ie iF:Nat}{ea C D:Addr}{oe:Obj}{bm bd:List Value}{en dn fn:Str}{pos:Pos}
theorem IV{p1 p2 p3:Pos}(hp:(ea,oe)∈X.pn)(hc:oe.cls=.ref C)(O:Eo X.base C bm)(OK:ClsK X.K C bm)(OD:Eo X.base D bd)(hg:Gl X "isinstance")(hm:X.mg "isinstance"=none)
  (hN:X.N[ie]?=some en) (hv:va X.env.scope en) (hd:(en==("__debug__":Str))=false) (hcd:(en==("__classdict__":Str))=false) (hgd:Gl X dn) (hmd:X.mg dn=some (.ref D)) (hdd:(dn==("__debug__":Str))=false) :
  PE X (.Call (.Name "isinstance" p1) [.Name en p2,.Name dn p3] [] pos) (O6 ie ea ((Value.ref C::bm).contains (.ref D))):=by
 have cr:br X (.builtin "isinstance") (λxs H Q=>xs=[.ref ea,.ref D]/\Q (.bl ((Value.ref C::bm).contains (.ref D))) H):=by intro pins s σ H xs us Q I r zq9;obtain⟨e,q⟩:=zq9;subst e;obtain⟨u,w',rfl,rx,ry⟩:=vg r;cases (rx);cases (ry);exact DQ I.kIn (O.keeps I.bk) (OD.keeps I.bk) OK.ob (I.pin (ea,oe) (Ze _ hp)).1 hc OK.g1 OK.g2 OK.g3 λtk=>⟨.bl _,H,I.tok tk,rfl,q⟩
 refine(cg cr hg hm zzC (aN (eN hN hv hd hcd) (aN (uX (v:=.ref D) hgd hmd rfl hdd) pa_nil (by rfl)) (by rfl)) (by decide +kernel) (by decide +kernel) (by rfl) (by rfl)).sub λτ H Q z=>?_
 exact⟨.ref ea,z.1,rfl,z.2⟩
theorem EV:PA X [] (vX ie ea []):=pa_nil.sub λτ H Q z=>z.2
theorem GH(h1:PE X e (O6 ie ea b))(h2:PA X es (vX ie ea bs))(hs:au e=true):PA X (e::es) (vX ie ea (b::bs)) :=
 (aN h1 h2 (ar hs _ _)).sub λτ H Q z=>⟨z.1,z.1,z.2⟩
end
theorem mM{K:Fg0}(f):∀cs:List Nat,RelL K ρ H (cs.map λk=>W.bl (f k)) (cs.map (V.bl ∘ f))
 |[]=>.nil
 |k::cs=>.cons bu (mM f cs)
def Nh(K:Fg0)(ie iF:Nat)(ea:Addr)(ρ:List Addr)(h:aa)(bs:List Bool)(τ:L2.St)(H:Hp):Prop:=τ[ie]?=some (some (.ref ea))/\HRel K ρ h H/\∃p,τ[iF]?=some (some (.ref p))/\p∉ρ/\H p=some (.lst (bs.map V.bl))
def Mo(K:Fg0)(ie iF:Nat)(ea:Addr)(bs:List Bool):TS:=λD τ H=>∃ρ h,τ[ie]?=some (some (.ref ea))/\iF<τ.length/\ie≠iF/\HRel K ρ h H/\bs.length<=1000/\∀τ' H',τ'.length=τ.length->Nh K ie iF ea ρ h bs τ' H'->Ext ρ H ρ H'->D.nx τ' H'
def IC(K:Fg0)(ie iF:Nat)(ea:Addr)(bs:List Bool):TS:=λD τ H=>∃ρ h bs0,Nh K ie iF ea ρ h bs0 τ H/\iF<τ.length/\ie≠iF/\bs0.length+bs.length<=1000/\∀τ' H',τ'.length=τ.length->Nh K ie iF ea ρ h (bs0++bs) τ' H'->Ext ρ H ρ H'->D.nx τ' H'
section
variable {X:Cx}{ie iF:Nat}{ea:Addr}{fn:Str}{pos:Pos}{es:List Expr}{bs:List Bool}
theorem M4{px p:Pos}(hN:X.N.Nodup)(hi:X.N[iF]?=some fn)(hx:sJ X.env.scope fn)(hf:X.fn fn=true\/X.env.scope.names.lookup fn=some .local)(h:PA X es (vX ie ea bs)):PS X (.Assign [.Name fn px] (.List es p) pos) (Mo X.K ie iF ea bs) :=
 (fM hN hi hx (oA h) rfl hf).sub λD τ H z=>by obtain⟨ρ,h,z1,z2,z3,hr,hl,q⟩:=z;exact⟨z1,by rw[zo];exact zf hl ZzD,λp hp=>(q _ _ ZzS ⟨by rw[zY (zzi z3)];exact z1,hr.ext_new hp,p,zZ z2,hr.new hp,aE⟩ (ext_new hr hp))⟩
theorem Nz{px p1 p2 p3:Pos}(hN:X.N.Nodup)(hi:X.N[iF]?=some fn)(hx:sJ X.env.scope fn)(hf:X.fn fn=true\/X.env.scope.names.lookup fn=some .local)(hv:va X.env.scope fn)(hd:(fn==("__debug__":Str))=false)(hcd:(fn==("__classdict__":Str))=false)(h:PA X es (vX ie ea bs)) :
  PS X (.Assign [.Name fn px] (.BinOp (.Name fn p1) .Add (.List es p2) p3) pos) (IC X.K ie iF ea bs) :=
 (fM hN hi hx (uO sj (eN hi hv hd hcd) (oA h)) rfl hf).sub λD τ H z=>by obtain⟨ρ,h,bs0,⟨z1,hr,p0,y1,y2,y3⟩,z2,z3,hl,q⟩:=z;refine⟨.ref p0,y1,z1,by rw[zo];exact zf (Nat.le_add_left _ _) (zf hl (by rw[Zj];decide)),λr hr0=>?_⟩;refine⟨p0,r,bs0.map V.bl,bs.map V.bl,rfl,rfl,(a6 (aX y3 hr0)).trans y3,aE,by rw[zo,zo];exact zf hl ZzD,λp hp=>?_⟩;have hr1:=hr.ext_new (o:=.lst (bs.map V.bl)) hr0;exact q _ _ ZzS ⟨by rw[zY (zzi z3)];exact z1,hr1.ext_new hp,p,zZ z2,hr1.new hp,by rw[Zc];exact aE⟩ ((ext_new hr hr0).trans (ext_new hr1 hp))
theorem EZ:PSs X [] (IC X.K ie iF ea []):=pss_nil.sub λD τ H z=>by obtain⟨ρ,h,bs0,f,_,_,_,q⟩:=z;exact q τ H rfl (by simp_all) .refl
theorem BM{st:Stmt}(h1:PS X st (IC X.K ie iF ea bs))(h2:PSs X ss (IC X.K ie iF ea bs2)):PSs X (st::ss) (IC X.K ie iF ea (bs++bs2)):=(cT h1 h2).sub λD τ H z=>by obtain⟨ρ,h,bs0,f,z2,z3,hl,q⟩:=z;rw[zA]at hl;exact⟨ρ,h,bs0,f,z2,z3,ZzL,λτ' H' e f' x=>⟨ρ,h,bs0++bs,f',by simp_all,z3,by grind,λτ2 H2 e2 f2 x2=>(q τ2 H2 (e2.trans e) (by simp_all) (x.trans x2))⟩⟩
theorem HQ{st:Stmt}(h1:PS X st (Mo X.K ie iF ea bs))(h2:PSs X ss (IC X.K ie iF ea bs2)):PSs X (st::ss) (Mo X.K ie iF ea (bs++bs2)):=(cT h1 h2).sub λD τ H z=>by obtain⟨ρ,h,z1,z2,z3,hr,hl,q⟩:=z;rw[zA]at hl;exact⟨ρ,h,z1,z2,z3,hr,ZzL,λτ' H' e f' x=>⟨ρ,h,bs,f',by simp_all,z3,ZzL,λτ2 H2 e2 f2 x2=>(q τ2 H2 (e2.trans e) f2 (x.trans x2))⟩⟩
end
def KO(X:Cx)(cl:Nat->Addr)(all:List Nat)(J:Addr):Prop:=∀c∈all,∃bm,Eo X.base (cl c) bm/\ClsK X.K (cl c) bm/\(Value.ref (cl c)::bm).contains (.ref J)=true/\∀d∈all,(Value.ref (cl c)::bm).contains (.ref (cl d))=decide (c=d)
noncomputable abbrev Cx.asx(X:Cx)(v:Value)(pn:List (Addr×Obj))(E:Value->Shared->Prop):Cx:=Cx.aim (Cx.hnd X v E) pn E
section
variable {X:Cx}{EX:cb}{cf:CF}{fw:Nat}{pos:Pos}{cl:Nat->Addr}
noncomputable def qv(fl:Nat->Nat->Bool)(i:Nat)(cs all:List Nat)(sb:ag->aa->Res Fl)(σ:ag)(h:aa):Res Fl:=match sb σ h with
 |.exc c h=>if all.contains c then .ok (.nx ((σ.map λ_=>none).set i (some (.lst (cs.map λk=>.bl (fl c k)))))) h else .stuck
 |r=>r
theorem FP{sb sx:ag->aa->Res Fl}{np hp:Pos}{ie iF:Nat}{J:Addr}(stk:X.stack=X.env::X.outer/\X.env.frame=some X.env.locals)(CT:KO X cl all J)(OJ:Eo X.base J bj)
  (hg:Gl X jn) (hm:X.mg jn=some (.ref J)) (hdb:(jn==("__debug__":Str))=false) (hN:X.N.Nodup) (hie:X.N[ie]?=some en) (hle:X.env.scope.names.lookup en=some .local) (hiF:X.N[iF]?=some fn) (hne:ie≠iF) (hlen:cs.length<=1000)
  (hsu:∀v pn E ea oe c,(ea,oe)∈pn->oe.cls=.ref (cl c)->c∈all->PSs (Cx.asx X v pn E) (s1::ss) (Mo X.K ie iF ea (cs.map (fl c))))
  (hx:∀σ h,sx σ h=.stuck\/sx σ h=qv fl iF cs all sb σ h)
  (hb:∀pn xe EY,PassesOwn (model X.prog X.w) X.A X.env xe->XL cl (Cx.aim X pn xe) EY->PSs (Cx.aim X pn xe) b (dg X.K EY sb)) :
  PS X (.Try b [.ExceptHandler (some (.Name jn np)) (some en) (s1::ss) hp] [] [] pos) (dg X.K EX sx):=by
 intro pins s τ H D I zq6
 obtain⟨ρ,σ,h,re,hr,q⟩:=zq6
 rcases hx σ h with e|e
 ·rw[e]at q;exact q.elim
 rw[e]at q
 let hs:List ExceptHandler:=[.ExceptHandler (some (.Name jn np)) (some en) (s1::ss) hp]
 let xe:Value->Shared->Prop:=λev s1=>wpAny (model X.prog X.w) X.A (noteFrame ev X.env) (λ_ s2=>wpAny (model X.prog X.w) X.A (setFlight ev none) (λ_ s3=>wpAny (model X.prog X.w) X.A (handleBy ev X.env hs) (SP X pins D) X.xe s3) X.xe s2) X.xe s1
 let σF:Nat->ag:=λc=>(σ.map λ_=>none).set iF (some (.lst (cs.map λk=>.bl (fl c k))))
 let EY:cb:=λc h1 ρ1 H1=>c∈all/\∀ρ2 H2,Ext ρ1 H1 ρ2 H2->HRel X.K ρ2 h1 H2->kY X.K D (.nx (σF c)) h1 ρ2 H2
 have hlenσ:σ.length=X.N.length:=by rw[re.len];exact I.len
 have iFl:iF<X.N.length:=(ze.mp hiF).1
 have iel:ie<X.N.length:=(ze.mp hie).1
 have hX:XL cl (Cx.aim X (X.pn++pins) xe) EY:=by
  intro pins' σ' H' s' ea c h1 ρ1 zq8 hr1 zq10;obtain⟨sa,Ia,os,bare,xa⟩:=zq8;obtain⟨hc,e2⟩:=zq10;obtain⟨⟨B,a0,f,k⟩,sl⟩:=id xa.fly;have fr:X.A.frames=some (X.env::X.outer):=by rw[<- stk.1];exact I.ok.frames
  have fS:B.FlyingW (X.env::X.outer) ea (.ref (cl c)) a0 s'.heap:=by rw[<- stk.1];exact f
  refine wpAny_looks_onW fr stk.2 fS λh2 f2 up2=>?_;refine wpAny_landsW f2 λh3 f3 up3=>?_;have f3':B.FlyingW X.stack ea (.ref (cl c)) a0 h3:=by rw[stk.1];exact f3
  have xa3:=xa.again f k f3' (up2.trans up3);have x3:XS X pins σ' H' { s' with heap:=h3 } ea (.ref (cl c)):=⟨sa,bt Ia,os,bare,xa3⟩;have I3:=x3.inv;obtain⟨bm,O,OK,hJ,hsub⟩:=CT c hc;obtain⟨oe,eo,ec⟩:=x3.cls;refine wpAny_handleBy_cons (codeAny_handlers_test ?_) (by intro z;cases z);refine fI (X:=Cx.hnd X (.ref ea) X.xe) (k7 I3) hg hm ?_ hdb;refine nq (O.keeps I3.bk) (OJ.keeps I3.bk) eo ec ?_;rw[hJ,zF rfl];refine codeAny_handlers_suite_as (lands_againW f3' λh4 f4 up4=>?_);have x4:XS X pins σ' H' { s' with heap:=h4 } ea (.ref (cl c)):=⟨sa,bt Ia,os,bare,xa3.again f3' k f4 up4⟩;obtain⟨oe4,ec4,I4⟩:=x4.pin;refine fe I4 hN hie (.inl hle) (v:=.ref ea) rfl (λs5 I5=>?_) (.inr hle);refine ZA (hsu (.ref ea) (X.pn++(ea,oe4)::pins) _ ea oe4 c (Zb _ zN) ec4 hc [] s5 _ H' { nx:=λτ' H2=>τ'.length=X.N.length/\∃p,τ'[iF]?=some (some (.ref p))/\p∉ρ1/\H2 p=some (.lst ((cs.map (fl c)).map V.bl))/\Ext ρ1 H' ρ1 H2/\HRel X.K ρ1 h1 H2,rt:=λ_ _=>False } (oP (X:=Cx.hnd X (.ref ea) _) (k7 I5)) ?_) (λfl s6 z=>?_) (λ_ _ y=>y);refine⟨ρ1,h1,zZ (by rw[I4.len];exact iel),by rw[List.length_set,I4.len];exact iFl,hne,hr1,by rw[zo];exact hlen,λτ' H2 e3 f x=>?_⟩;obtain⟨_,hr2,p,y1,y2,y3⟩:=f;exact⟨by rw[e3,List.length_set,I4.len],p,y1,y2,y3,x,hr2⟩;cases fl with
  |brk=>obtain⟨_,_,_,z⟩:=z;exact z.elim
  |cont=>obtain⟨_,_,_,z⟩:=z;exact z.elim
  |ret u=>obtain⟨_,_,_,_,_,z⟩:=z;exact z.elim
  |next=>
   obtain⟨τ6,H6,I6,hl6,p,y1,y2,y3,x6,hr6⟩:=z;have I7:Inv X pins τ6 H6 s6:=(dz I3.ok (bt (X:=Cx.hnd X (.ref ea) _) (pins:=(ea,oe4)::pins) I6)).pins_of λp hp=>(dz I3.ok (bt (X:=Cx.hnd X (.ref ea) _) (pins:=(ea,oe4)::pins) I6)).pin p (Zb _ (zB _ hp));refine zd (wpAny_bindName (fe I7 hN hie (.inl hle) (v:=.non) rfl (λs8 I8=>?_) (.inr hle)));refine wI I8 hN hie hle (v:=.non) (zZ (by rw[hl6];exact iel)) λs9 I9=>⟨_,_,I9,?_⟩;refine e2 ρ1 H6 x6 hr6 _ ⟨by simp[σF,hlenσ,hl6],λi w z=>?_⟩;show ∃v,((τ6.set ie (some V.non)).set ie none)[i]?=some (some v)/\_;have z':((σ.map λ_=>(none:Option W)).set iF (some (.lst (cs.map λk=>.bl (fl c k)))))[i]?=some (some w):=z;rw[List.getElem?_set]at z';split at z';rename_i hi;subst hi;split at z';cases z';refine⟨.ref p,by rw[zY hne,zY hne];exact y1,?_⟩;rw[Rel];refine⟨p,_,rfl,y2,y3,?_⟩;rw[zzm];exact mM _ _;cases z';rw[zT]at z';cases e:σ[i]? with
   |none=>rw[e]at z';cases z'
   |some o=>rw[e]at z';cases z'
 refine wpAny_Try_except ?_
 have b:=hb (X.pn++pins) xe EY PassesOwn.looking hX [] s τ H D (oP I) ⟨ρ,σ,h,re,hr,?_⟩
 ·refine ZA b (λf s1 z=>?_) λ_ _ y=>y
  cases f with
  |next=>obtain⟨σ',H',I',z⟩:=z;exact wpAny_execs_nil ⟨σ',H',bt I',z⟩
  |brk=>obtain⟨σ',H',I',z⟩:=z;exact⟨σ',H',bt I',z⟩
  |cont=>obtain⟨σ',H',I',z⟩:=z;exact⟨σ',H',bt I',z⟩
  |ret u=>obtain⟨v,σ',H',I',r,z⟩:=z;exact⟨v,σ',H',bt I',r,z⟩
 ·show RQ X.K EY ρ H (sb σ h) _
  unfold qv at q
  cases ee:sb σ h with
  |stuck=>rw[ee]at q;exact q.elim
  |ok w h1 =>
   rw[ee]at q
   exact λρ1 H1 x1 hr1=>q ρ1 H1 x1 hr1
  |exc c h1 =>
   rw[ee]at q
   dsimp only at q
   split at q
   ·rename_i hc
    exact λρ1 H1 x1 hr1=>⟨by simpa using hc,λρ2 H2 x2 hr2=>q ρ2 H2 (x1.trans x2) hr2⟩
   ·exact q.elim
theorem HC(σ)(h):exS cf fw (.tryF e' iF cs all) σ h=qv (λc k=>decide (c=k)) iF cs all (exS cf fw (.ret e')) σ h:=by unfold qv;rw[exS,exS];cases evE cf e' σ h<;>rfl
end
section
variable {X:Cx}{EX:cb}{cf:CF}{fw:Nat}{e:Expr}{e':E}
theorem tR:br X (.type "dict") (λxs H Q=>∃a kvs,xs=[.ref a]/\Rd H a (.dK kvs)/\∀p,H p=none->Q (.ref p) (aW H p (.dK kvs))):=by
 intro pins s σ H xs us Q I r zq9;obtain⟨a,kvs,ex,hd,q⟩:=zq9;subst ex;cases r with
 |cons r1 r2=>cases r2;cases (r1);exact qt I hd λp' s' n I'=>⟨.ref p',_,I',rfl,q p' n⟩
theorem JU(hu:X.A.units+64<cLine)(hN:X.N.Nodup)(hi:X.N[i]?=some x)(hx:sJ X.env.scope x)(hf:X.fn x=true\/X.env.scope.names.lookup x=some .local)(hvx:va X.env.scope x)(hdx:(x==("__debug__":Str))=false/\(x==("__classdict__":Str))=false)
  (hk:X.N[k]?=some kn) (hvk:va X.env.scope kn) (hdk:(kn==("__debug__":Str))=false/\(kn==("__classdict__":Str))=false) (hv:X.N[v]?=some vn) (hvv:va X.env.scope vn) (hdv:(vn==("__debug__":Str))=false/\(vn==("__classdict__":Str))=false)
  (hg:Gl X "dict") (hm:X.mg "dict"=none) (he:PE X e (tI X.K EX (evE cf e'))) (hs:au e=true) (hss:PSs X sts (dg X.K EX (aA cf fw ss'))) :
  PSs X (.Assign [.Name x px] (.Call (.Name "dict" pd) [e] [] pc) p1::.Assign [.Subscript (.Name x q1) (.Name kn q2) q3] (.Name vn q4) p2::sts) (dg X.K EX (aA cf fw (.dupd i e' k v::ss'))):=by
 have a1:=fM (pos:=p1) (pos':=px) hN hi hx (bC (x:="dict") (p:=pd) (pos:=pc) tR hg hm (by decide +kernel) (aN he pa_nil (ar hs _ _)) (by decide +kernel) (by decide +kernel) (ar hs _ _) (by rfl)) (by rfl) hf
 have a2:=sM (pos:=p2) (eN (pos:=q4) hv hvv hdv.1 hdv.2) (AH (pos:=q3) (eN (pos:=q1) hi hvx hdx.1 hdx.2) (eN (pos:=q2) hk hvk hdk.1 hdk.2) (qB hu) (by intro _;rfl)) (by rfl) (by rfl) rfl
 intro pins s0 τ H D I zq
 refine cT a1 (cT a2 hss) pins s0 τ H D I ?_
 obtain⟨ρ,σ,h,re,hr,q⟩:=zq
 rw[aA,exS,cD]at q
 refine⟨ρ,σ,h,re,hr,q.bnd.mono λw h1 ρ1 H1 x1 hr1 q1 u r=>?_⟩
 split at q1
 ·rename_i ks ws s y e1 e2 e3
  split at q1
  ·rename_i hc
   obtain⟨ni,nv,hz⟩:=hc
   obtain⟨a,ys,rfl,hd,hl,rs⟩:=bL hr1 e1 r
   refine⟨a,_,rfl,hd,λp hp=>?_⟩
   have re1:=re.ext x1
   obtain⟨vk,k1,k2⟩:=re1.at_ k _ e2
   obtain⟨vv,v1,v2⟩:=re1.at_ v _ e3
   cases aB k2
   obtain⟨zs,d1,d2,d3⟩:=qT (x:=s) hl rs v2
   have il:i<τ.length:=by rw[I.len];exact(ze.mp hi).1
   refine⟨vv,by rw[zY nv];exact v1,.ref p,zZ il,.str s,by rw[zY ni];exact k1,.inr ⟨p,.str s,_,rfl,rfl,DPut.k (k:=Sum.inr s) aE (by rw[List.length_zip,zo,<- hl,Nat.min_self];exact zj hz (by rw[Zj];decide)),?_⟩⟩
   rw[d1,uU]
   have y2:=ext_new (o:=.dK ((((dO ks ws s y).1).map Sum.inr).zip zs)) hr1 hp
   refine⟨ρ1,σ.set i (some (.dic (dO ks ws s y).1 (dO ks ws s y).2)),h1,(re1.ext y2).set i ?_,hr1.ext_new hp,?_⟩
   ·rw[Rel]
    exact⟨p,zs,rfl,hr1.new hp,.inl aE,d2,RelL.ext y2 _ _ d3⟩
   ·exact RQ.wk y2 q1
  ·exact q1.elim
 ·exact q1.elim
theorem yJ(hN:X.N.Nodup)(hi:X.N[i]?=some x)(hx:sJ X.env.scope x)(hf:X.fn x=true\/X.env.scope.names.lookup x=some .local)(hg:Gl X "dict")(hm:X.mg "dict"=none)(he:PE X e (tI X.K EX (evE cf e')))(hs:au e=true) :
  PS X (.Assign [.Name x px] (.Call (.Name "dict" pd) [e] [] pc) p1) (dg X.K EX (exS cf fw (.freshC i e'))) :=
 (fM (pos:=p1) (pos':=px) hN hi hx (bC (x:="dict") (p:=pd) (pos:=pc) tR hg hm (by decide +kernel) (aN he pa_nil (ar hs _ _)) (by decide +kernel) (by decide +kernel) (ar hs _ _) (by rfl)) (by rfl) hf).sub λD τ H zq=>by
 obtain⟨ρ,σ,h,re,hr,q⟩:=zq
 refine⟨ρ,σ,h,re,hr,q.bnd.mono λw h1 ρ1 H1 x1 hr1 q1 u r=>?_⟩
 split at q1
 ·rename_i ks ws e1
  split at q1
  ·rename_i hp
   obtain⟨a,ys,rfl,hd,hl,rs⟩:=bL hr1 e1 r
   refine⟨a,_,rfl,hd,λp hn=>?_⟩
   have x0:=ext_cell (o:=.dK []) hr1 hn
   have hl0:(ρ1++[p])[h1.length]?=some p:=by rw[<- hr1.len,zK (zD _),zzP];rfl
   have hr2:=(hr1.cellD hn).writeD hl0 hp hl (RelL.ext x0 _ _ rs)
   rw[uU,List.set_append_right _ _ (zD _),zzP]at hr2
   have x2:=ext_cell (o:=.dK ((ks.map Sum.inr).zip ys)) hr1 hn
   refine q1 _ _ x2 hr2 _ (((re.ext x1).ext x2).set i ?_)
   rw[Rel]
   exact⟨p,rfl,hl0⟩
  ·exact q1.elim
 ·exact q1.elim
end
section
variable {X:Cx}{EX:cb}{cf:CF}{fw:Nat}{a b:Expr}{a' b':E}{pos:Pos}{tg:Expr}
end
structure OCl (K:Fg0) (c:Nat) (C:Addr):Prop where
 ns:PySem.W.nsIn K mainGlobals (eI c)=some (some (.ref C))
 cls:Cls K C
 no:∀f∈aK c,NoAttr K C f
theorem qG(c):(aK c).Nodup:=by
 cases c with
 |zero=>decide
 |succ c=>show(["names","standings"]:List Str).Nodup;decide +kernel
theorem ml:∀{fs:List Str}{xs:List V}{k:Nat},fs.Nodup->fs[k]?=some f->xs[k]?=some x->(fs.zip xs).lookup f=some x
 |[],_,_,_,h,_=>by simp at h
 |g::fs,[],k,_,_,h=>‹_›
 |g::fs,y::xs,0,_,h,h2=>by simp_all
 |g::fs,y::xs,k+1,nd,h,h2=>by
  rw[ZR]at nd;have hf:fs[k]?=some f:=by simpa using h
  rw[Z7,Zv];have:(f==g)=false:=by rw[ZZ];rintro rfl;exact nd.1 (zC hf)
  rw[this];exact ml nd.2 hf (by simpa using h2)
theorem fY:∀{fs:List Str}{xs:List V},f∉fs->(fs.zip xs).lookup f=none
 |[],_,_=>rfl
 |g::fs,[],_=>rfl
 |g::fs,y::xs,h=>by rw[zS,not_or]at h;rw[Z7,Zv,(ZZ.mpr h.1)];exact fY h.2
section
variable {X:Cx}{EX:cb}{cf:CF}{fw:Nat}{pos:Pos}{a b c e:Expr}{a' b' c' e':E}{cl:Nat->Addr}
theorem JB(O:OCl X.K k C)(hf:(aK k)[n]?=some f)(ha:PE X a (tI X.K EX (evE cf a')))(hb:eE a=true):PE X (.Attribute a f pos) (tI X.K EX (evE cf (.fld k n a'))) :=
 (F9 ha (dX hb _ _ _)).sub λτ H Q zq=>by
  obtain⟨ρ,σ,h,re,hr,q⟩:=zq;rw[evE]at q;refine⟨ρ,σ,h,re,hr,q.bnd.mono λw h1 ρ1 H1 x1 hr1 q1 v r=>?_⟩;cases w with
  |ins k' ws=>dsimp only at q1;split at q1;rename_i hk;subst hk;split at q1;rename_i w0 e0;obtain⟨p,dx,xs,C',rfl,np,hp,hl,hC,rs⟩:=r;have hC':=hC.symm.trans O.ns;cases hC';obtain⟨x0,ex,rx⟩:=rs.get e0;exact⟨p,C,dx,_,x0,rfl,hp,O.cls,O.no f (zC hf),ml (qG _) hf ex,RQ.here hr1 q1 _ rx⟩;exact q1.elim;exact q1.elim
  |_=>exact q1.elim
theorem qY{m:Str}{fn np:Nat}{C:Addr}{es':List E}{τ:L2.St}{H:Hp}{Q:VK}{t:TA}{K:Fg0}(O:OCl K 1 C)(hm:m∉aK 1)(hl:es'.length+1=np)(q:tI K EX (evE cf (.mth fn a' es')) τ H Q)
  (ht:∀τ H R,mz K EX (evA cf es') τ H R->t τ H R):y6 C m (Eh K cl cf fn np) [] (OG K cl EX) (tI K EX (evE cf a')) t τ H Q:=by
 obtain⟨ρ,σ,h,re,hr,q⟩:=q
 rw[evE]at q
 refine⟨ρ,σ,h,re,hr,q.bnd.mono λw h1 ρ1 H1 x1 hr1 q1 v r=>?_⟩
 split at q1
 ·rename_i hw
  cases w with
  |ins k ws0 =>
   have hk:k=1:=by unfold uL at hw;split at hw;rename_i z;cases z;rfl;cases hw
   subst hk
   have r0:=r
   obtain⟨p,dx,xs,C',rfl,hnp,hp,hlx,hC,rs⟩:=r
   have hC':=hC.symm.trans O.ns
   cases hC'
   refine⟨p,dx,_,rfl,hp,fY hm,ht _ _ _ ⟨ρ1,σ,h1,re.ext x1,hr1,?_⟩⟩
   cases e:evA cf es' σ h1 with
   |stuck=>rw[e]at q1;exact q1.elim
   |exc c h2=>rw[e]at q1;exact q1
   |ok ws h2 =>
    rw[e]at q1
    intro ρ2 H2 x2 hr2 vs rs2
    have q2:RQ K EX ρ2 H2 (cf fn (.ins 1 ws0::ws) h2) (λw _ ρ' H'=>∀v,Rel K ρ' H' w v->Q v H'):=q1.bnd ρ2 H2 x2 hr2
    refine⟨by rw[Zf,z0,<- rs2.length,fE e];exact hl,ρ2,h2,.ins 1 ws0::ws,hr2,by rw[Zf];exact .cons (Rel.ext x2 _ _ r0) rs2,?_⟩
    cases e2:cf fn (.ins 1 ws0::ws) h2 with
    |ok w h3=>rw[e2]at q2;exact q2
    |exc c h3=>rw[e2]at q2;exact λρ3 H3 x3 hr3=>⟨c,h3,ρ3,rfl,hr3,q2 ρ3 H3 x3 hr3⟩
    |stuck=>rw[e2]at q2;exact q2
  |_=>cases hw
 ·exact q1.elim
theorem rh(hs : es.all au = true)(hn : es.length<30)(hl : ap.endLine = pos.line) : eval (.Call (.Attribute (.Name x p) m ap) es [] pos) env = (do
   let ov <- eval (.Name x p) env
   standAt ap.atName
   let (f,first) <- holding [ov] (getMethod ov m (do return (<- importBound (.Name x p) env).getD true))
   callWith pos f first (backTo pos (starEach es env)) (backToKw pos (keywordEach [] env))):=by
 have few:methodCallForm (es.length+([]:List Keyword).length) (backTo pos (starEach es env)) (backToKw pos (keywordEach [] env))=true:=by
  unfold methodCallForm;have h1:=eV hs pos env;have h2:(backTo pos (starEach es env)).all (λx=>!x.1)=true:=by rw[List.all_eq_not_any_not];simpa using h1
  rw[h2];have h3:(backToKw pos (keywordEach [] env))=[]:=rfl;rw[h3];simp[hn]
 show(do let ov <- attributeBase (.Name x p) m env (eval (.Name x p) env);standAt ap.atName;methodCall (.Name x p) m ap pos env ov (es.length+([]:List Keyword).length) (backTo pos (starEach es env)) (backToKw pos (keywordEach [] env)))=_
 unfold methodCall
 rw[few]
 have hp:methodCallPos true (.Name x p) env ap pos=pure pos:=by unfold methodCallPos;rw[zF (by simp[hl])]
 simp only[hp,calleeOf,if_true,pure_bind]
 rfl
theorem HG(O:OCl X.K 1 C)(hm:m∉aK 1)(hl:([]:List E).length+1=np)(hln:ap.endLine=pos.line)(ho:PE X (.Name x p) (tI X.K EX (evE cf a')))(M:Meth X.K C m f)
  (F:FnOk X.prog X.w X.K X.mg X.base (mx X.prog X.w) k f fd ps (Eh X.K cl cf fn np)) (hr:Room k X.A) (hb:Binds X.K fd ps []) (hX:XL cl X EX) :
  PE X (.Call (.Attribute (.Name x p) m ap) [] [] pos) (tI X.K EX (evE cf (.mth fn a' []))) :=
 (yz ho O.cls M F hr hb .nil hX.passes (rh rfl ZzS hln)).sub λτ H Q q=>qY  O hm hl q λτ H R zq=>by obtain⟨ρ,σ,h,re,hr,q⟩:=zq;exact RQ.here hr q _ .nil
theorem JI(O:OCl X.K 1 C)(hm:m∉aK 1)(hl:es'.length+1=np)(hln:ap.endLine=pos.line)(hn:(e::es).length<30)(ho:PE X (.Name x p) (tI X.K EX (evE cf a')))(M:Meth X.K C m f)
  (F:FnOk X.prog X.w X.K X.mg X.base (mx X.prog X.w) k f fd ps (Eh X.K cl cf fn np)) (hr:Room k X.A) (hb:Binds X.K fd ps []) (hX:XL cl X EX) (ha:PA X (e::es) (mz X.K EX (evA cf es'))) (hs:(e::es).all au=true) :
  PE X (.Call (.Attribute (.Name x p) m ap) (e::es) [] pos) (tI X.K EX (evE cf (.mth fn a' es'))):=by
 have hs':=hs
 rw[ZB,zE]at hs'
 exact(DC ho O.cls M F hr hb .nil hX.passes ha (ar hs'.1 es X.env) (eV hs'.2 pos X.env) (rh hs hn hln)).sub λτ H Q q=>qY O hm hl q λ_ _ _ z=>z
end
theorem Cv(hd:d<(aK c).length)(hl:ys.length=d):∀c' (xs:List V),(aK c').length=xs.length->((aK c).take d).zip ys≠(aK c').zip xs:=λc' xs hx e=>by
 have e1:=congrArg (List.map Prod.fst) e;rw[List.map_fst_zip (by rw[Zk];lia),List.map_fst_zip (by simp_all)]at e1;have e2:d=(aK c').length:=by grind
 cases c with
 |zero=>
  cases c' with
  |zero=>simp_all
  |succ c'=>have:d=2:=e2;subst this;exact absurd e1 (by show ¬ (["deed","part_list"]:List Str)=(["names","standings"]:List Str);decide +kernel)
 |succ c=>
  have h2:d<2:=hd;cases c' with
  |zero=>have:d=4:=e2;lia
  |succ c'=>have:d=2:=e2;lia
section
variable {K:Fg0}{ρ:List Addr}{H:Hp}{x C dx:Addr}{fs:List (Str×V)}{o:HO}
structure Pm (H:Hp) (x:Addr):Prop where
 ex:∃C dx fs,H x=some (.ins C dx fs)/\∀c (xs:List V),(aK c).length=xs.length->fs≠(aK c).zip xs
theorem Pm.ne(p:Pm H x)(e:H a=some u)(h:∀C dx fs,u≠.ins C dx fs):a≠x:=by
 obtain⟨C,dx,fs,ex,_⟩:=p.ex
 grind
theorem Pm.rd(p:Pm H x)(r:Rd H a u)(h:∀C dx fs,u≠.ins C dx fs):Rd (aW H x o) a u:=by rcases r with r|⟨ob,r⟩;exact .inl (by rw[a6 (p.ne r h)];lia);exact .inr ⟨ob,by rw[a6 (p.ne r (λ_ _ _ z=>by simp_all))];lia⟩
mutual
theorem Rel.upx(p:Pm H x):∀w v,Rel K ρ H w v->Rel K ρ (aW H x o) w v
 |.non,v,r=>by rw[Rel]at r ⊢;exact r
 |.bl _,v,r=>by rw[Rel]at r ⊢;exact r
 |.int _,v,r=>by rw[Rel]at r ⊢;exact r
 |.str _,v,r=>by rw[Rel]at r ⊢;exact r
 |.tup ws,v,r=>by rw[Rel]at r ⊢;obtain⟨a,xs,e,q,rs⟩:=r;exact⟨a,xs,e,q.imp (λz=>⟨z.1,p.rd z.2 (λ_ _ _ y=>by cases y)⟩) id,RelL.upx p ws xs rs⟩
 |.lst ws,v,r=>by rw[Rel]at r ⊢;obtain⟨a,xs,e,n,q,rs⟩:=r;exact⟨a,xs,e,n,by rw[a6 (p.ne q (λ_ _ _ y=>by cases y))];exact q,RelL.upx p ws xs rs⟩
 |.scr ws,v,r=>by rw[Rel]at r ⊢;obtain⟨a,xs,e,q,rs⟩:=r;exact⟨a,xs,e,q.imp (λz=>⟨z.1,p.rd z.2 (λ_ _ _ y=>by cases y)⟩) id,RelL.upx p ws xs rs⟩
 |.dic ks ws,v,r=>by rw[Rel]at r ⊢;obtain⟨a,xs,e,n,q,l,rs⟩:=r;exact⟨a,xs,e,n,p.rd q (λ_ _ _ y=>by cases y),l,RelL.upx p ws xs rs⟩
 |.ins c ws,v,r=>by rw[Rel]at r ⊢;obtain⟨a,dx,xs,C,e,n,q,l,z,rs⟩:=r;refine⟨a,dx,xs,C,e,n,?_,l,z,RelL.upx p ws xs rs⟩;rw[a6];exact q;rintro rfl;obtain⟨C',dx',fs',ex,np⟩:=p.ex;rw[q]at ex;cases ex;exact np c xs l rfl
 |.ref n,v,r=>by rw[Rel]at r ⊢;exact r
theorem RelL.upx(p:Pm H x):∀ws xs,RelL K ρ H ws xs->RelL K ρ (aW H x o) ws xs
 |[],xs,r=>by rw[RelL]at r ⊢;exact r
 |w::ws,xs,r=>by rw[RelL]at r ⊢;obtain⟨y,ys,e,r1,r2⟩:=r;exact⟨y,ys,e,Rel.upx p w y r1,RelL.upx p ws ys r2⟩
end
theorem HRel.upx(hr:HRel K ρ h H)(p:Pm H x):HRel K ρ h (aW H x o):=⟨hr.len,hr.nd,λn a ob e1 e2=>by
 have q:=hr.at_ n a ob e1 e2
 cases ob with
 |lst ws=>obtain⟨pu,xs,e,r⟩:=q;exact⟨pu,xs,by rw[a6 (p.ne e (λ_ _ _ y=>by cases y))];lia,RelL.upx p ws xs r⟩
 |dic ks ws=>obtain⟨pu,xs,e,l,r⟩:=q;exact⟨pu,xs,by rw[a6 (p.ne e (λ_ _ _ y=>by cases y))];lia,l,RelL.upx p ws xs r⟩⟩
theorem RelE.upx(re:RelE K ρ H σ τ)(p:Pm H x):RelE K ρ (aW H x o) σ τ:=⟨re.len,λi w e=>let ⟨v,h1,h2⟩:=re.at_ i w e;⟨v,h1,Rel.upx p w v h2⟩⟩
theorem xW(y:Ext ρ0 H0 ρ H)(h0:H0 x=none):Ext ρ0 H0 ρ (aW H x o) :=
 ⟨y.pre,λa u e n=>(by rw[a6 (by grind)];exact y.keep a u e n),y.out⟩
theorem qg:∀{fs:List Str}{xs:List V},fs.length=xs.length->f∉fs->gg f v (fs.zip xs)=(fs++[f]).zip (xs++[v])
 |[],[],_,_=>rfl
 |[],_::_,h,_=>by cases h
 |_::_,[],h,_=>by cases h
 |g::fs,y::xs,h,n=>by rw[zS,not_or]at n;rw[Z7,gg,zM (zzi n.1),qg (by simp_all) n.2];rfl
theorem RQ.bnd0{α β:Type}{EX:cb}{r:Res α}{f:α->aa->Res β}{k:β->aa->List Addr->Hp->Prop}(q:RQ K EX ρ H (J.bnd r f) k):RQ K EX ρ H r (λa h' _ _=>RQ K EX ρ H (f a h') k):=by
 cases r with
 |ok a h'=>exact λ_ _ _ _=>q
 |exc c h'=>exact q
 |stuck=>exact q
end
section
variable {X:Cx}{EX:cb}{cf:CF}{fw:Nat}{pos:Pos}{a b c e:Expr}{a' b' c' e':E}{cl:Nat->Addr}
def JG(K:Fg0)(c:Nat)(x:Addr)(ws:List W)(Q:Hp->Prop):List W->aa->List Addr->Hp->Prop:=λus _ ρ' H'=>Rel K ρ' H' (.ins c (ws++us)) (.ref x)->Q H'
def wx(K:Fg0)(EX:cb)(cf:CF)(c d:Nat)(fl:List (Bool×E)):TS:=λD τ H=>∃ρ0 H0 ρ σ h x dx C xs ws,Ext ρ0 H0 ρ H/\H0 x=none/\x∉ρ/\τ[0]?=some (some (.ref x))/\H x=some (.ins C dx (((aK c).take d).zip xs)) /\
 xs.length=d/\d+fl.length=(aK c).length/\PySem.W.nsIn K mainGlobals (eI c)=some (some (.ref C))/\RelE K ρ H σ τ/\HRel K ρ h H/\RelL K ρ H ws xs/\RQ K EX ρ0 H0 (ef cf σ fl h) (JG K c x ws λH'=>D.nx τ H')
theorem Ck:PSs X [] (wx X.K EX cf k (aK k).length []):=pss_nil.sub λD τ H zq=>by obtain⟨ρ0,H0,ρ,σ,h,x,dx,C,xs,ws,y,h0,hx,e0,ex,hl,hd,hC,re,hr,rs,q⟩:=zq;rw[ef]at q;refine q ρ H y hr ?_;rw[Zf];rw[Z3 (zD _)]at ex;exact⟨x,dx,xs,C,rfl,hx,ex,hl.symm,hC,rs⟩
theorem nI{K:Fg0}{k d:Nat}{f:Str}{C:Addr}{fl:List (Bool×E)}{τ:L2.St}{ρ0 ρ1:List Addr}{H0 H1:Hp}{σ:ag}{h1:aa}{x dx:Addr}{xs:List V}{ws:List W}{w:W}{v:V}{D:Ends}(O:OCl K k C)(hf:(aK k)[d]?=some f)
  (y:Ext ρ0 H0 ρ1 H1) (h0:H0 x=none) (hx:x∉ρ1) (e0:τ[0]?=some (some (.ref x))) (ex:H1 x=some (.ins C dx (((aK k).take d).zip xs))) (hl:xs.length=d) (hd:d+(fl.length+1)=(aK k).length) (re:RelE K ρ1 H1 σ τ) (hr:HRel K ρ1 h1 H1) (rs:RelL K ρ1 H1 ws xs)
  (r:Rel K ρ1 H1 w v) (q:RQ K EX ρ0 H0 (bnd (ef cf σ fl h1) λus h=>.ok (w::us) h) (JG K k x ws λH'=>D.nx τ H')) :
  GF 0 τ H1 λu H2=>∃a C dx fs,u=.ref a/\H2 a=some (.ins C dx fs)/\Cls K C/\NoAttr K C f/\fs.length<1000/\wx K EX cf k (d+1) fl D τ (aW H2 a (.ins C dx (gg f v fs))):=by
 have pm:Pm H1 x:=⟨C,dx,_,ex,Cv ZzL hl⟩
 have hlt:d<(aK k).length:=ZzL
 have ht:(aK k).take (d+1)=(aK k).take d++[f]:=by rw[List.take_add_one,hf];rfl
 have hnf:f∉(aK k).take d:=λm=>by
  have nd:=qG k;rw[<- List.take_append_drop d (aK k),Zw]at nd;have:f∈(aK k).drop d:=by obtain⟨_,rfl⟩:=ze.mp hf;rw[zzR hlt];exact zN
  exact nd.2.2 f m f this rfl
 refine⟨_,e0,x,C,dx,_,rfl,ex,O.cls,O.no f (zC hf),?_,ρ0,H0,ρ1,σ,h1,x,dx,C,xs++[v],ws++[w],xW y h0,h0,hx,e0,?_,by simp[hl],ZzL,O.ns,re.upx pm,hr.upx pm,RelL.upx pm _ _ (rs.append (.cons r .nil)),?_⟩
 ·rw[List.length_zip,Zk]
  have:(aK k).length<=4:=by cases k with|zero=>exact zD 4|succ k=>exact(by decide:2<=4)
  lia
 ·rw[aE,ht,qg (by rw[Zk];lia) hnf]
 ·refine RQ.mono (RQ.bnd0 q) λus h' ρ' H' x' hr' q' z=>?_
  refine q' ρ' H' x' hr' ?_
  rw[ZP]at z
  exact z
theorem rD{k d:Nat}{s f:Str}{p p2:Pos}{C:Addr}{fl:List (Bool×E)}{ss:List Stmt}{bb:Bool}(O:OCl X.K k C)(hf:(aK k)[d]?=some f)(hs:X.N[0]?=some s)(hv:va X.env.scope s)(hdb:(s==("__debug__":Str))=false)(hcd:(s==("__classdict__":Str))=false)
  (he:if bb then PE X e (BY X.K EX (evF cf e')) else PE X e (tI X.K EX (evE cf e'))) (hc:cG e=true) (h2:PSs X ss (wx X.K EX cf k (d+1) fl)) :
  PSs X (.Assign [.Attribute (.Name s p) f p2] e pos::ss) (wx X.K EX cf k d ((bb,e')::fl)):=by
 have hself:PE X (.Name s p) (GF 0):=eN hs hv hdb hcd
 cases bb with
 |false =>
  refine(cT (AE (pos:=pos) hself (show PE X e (tI X.K EX (evE cf e')) from he) (fz hc _ _ _)) h2).sub λD τ H zq=>?_
  obtain⟨ρ0,H0,ρ,σ,h,x,dx,C',xs,ws,y,h0,hx,e0,ex,hl,hd,hC,re,hr,rs,q⟩:=zq
  have hC':=hC.symm.trans O.ns
  cases hC'
  rw[ef]at q
  refine⟨ρ,σ,h,re,hr,(q.bnd0.wk y).mono λw h1 ρ1 H1 x1 hr1 q1 v r=>?_⟩
  exact nI O hf (y.trans x1) h0 (x1.out x _ ex hx) e0 (x1.keepN ex hx (λ_ z=>by cases z)) hl (by simpa using hd) (re.ext x1) hr1 (RelL.ext x1 _ _ rs) r q1
 |true =>
  refine(cT (AE (pos:=pos) hself (show PE X e (BY X.K EX (evF cf e')) from he) (fz hc _ _ _)) h2).sub λD τ H zq=>?_
  obtain⟨ρ0,H0,ρ,σ,h,x,dx,C',xs,ws,y,h0,hx,e0,ex,hl,hd,hC,re,hr,rs,q⟩:=zq
  have hC':=hC.symm.trans O.ns
  cases hC'
  rw[ef]at q
  refine⟨ρ,σ,h,re,hr,(q.bnd0.wk y).mono λus h1 ρ1 H1 x1 hr1 q1 ys l rl hn=>?_⟩
  split at q1
  ·rename_i hp
   have z:=ext_cell (o:=.lst ys) hr1 hn
   have x2:=x1.trans z
   refine nI (w:=.ref h1.length) O hf (y.trans x2) h0 (x2.out x _ ex hx) e0 (x2.keepN ex hx (λ_ z=>by cases z)) hl (by simpa using hd) (re.ext x2) (hr1.cell hn hp rl) (RelL.ext x2 _ _ rs) ?_ q1
   rw[Rel]
   exact⟨l,rfl,by rw[<- hr1.len,zK (zD _)];simp⟩
  ·exact q1.elim
def Np(K:Fg0)(cl:Nat->Addr)(cf:CF)(fn np c:Nat):Sp:=λvs H Q E=>vs.length=np/\∃x us dx C H1 ρ h ws,vs=.ref x::us/\H=aW (aW H1 dx (.own x)) x (.ins C dx [])/\H1 x=none/\H1 dx=none/\dx≠x/\PySem.W.nsIn K mainGlobals (eI c)=some (some (.ref C)) /\
 HRel K ρ h H1/\RelL K ρ H1 ws us/\RQ K (λc _ _ H'=>E (.ref (cl c)) none H') ρ H1 (cf fn ws h) λw _ ρ' H'=>Rel K ρ' H' w (.ref x)->Q .non H'
theorem JN(M:Mk X.K C f)(hC:PySem.W.nsIn X.K mainGlobals (eI cc)=some (some (.ref C)))
  (F:FnOk X.prog X.w X.K X.mg X.base (mx X.prog X.w) k f fd ps (Np X.K cl cf fn np cc)) (hr:Room (k+1) X.A) (hg:Gl X x) (hm:X.mg x=some (.ref C)) (hb:Binds X.K fd ps []) (hX:XL cl X EX) (hdb:(x==("__debug__":Str))=false) (hs:(e::es).all au=true) (hl':es'.length+1=np)
  (ha:PA X (e::es) (mz X.K EX (evA cf es'))):PE X (.Call (.Name x p) (e::es) [] pos) (tI X.K EX (evE cf (.call fn es'))):=by
 have hs':=hs
 rw[ZB,zE]at hs'
 refine(D9 M F hr hg hm hb .nil hX.passes ha hdb (ar hs'.1 es X.env) (eV hs'.2 pos X.env)).sub λτ H Q zq=>?_
 obtain⟨ρ,σ,h,re,hr,q⟩:=zq
 rw[evE]at q
 refine⟨ρ,σ,h,re,hr,?_⟩
 cases e:evA cf es' σ h with
 |stuck=>rw[e]at q;exact q.elim
 |exc c h1=>rw[e]at q;exact q
 |ok ws h1 =>
  rw[e]at q
  intro ρ1 H1 x1 hr1 vs rs y dx n1 n2 n3
  have q1:RQ X.K EX ρ1 H1 (cf fn ws h1) (λw _ ρ' H'=>∀v,Rel X.K ρ' H' w v->Q v H'):=q.bnd ρ1 H1 x1 hr1
  refine⟨by rw[Zf,z0,<- rs.length,fE e];exact hl',y,vs,dx,C,H1,ρ1,h1,ws,ZzS,rfl,n1,n2,n3,hC,hr1,rs,?_⟩
  cases e2:cf fn ws h1 with
  |ok w h2=>rw[e2]at q1;exact λρ2 H2 x2 hr2 r=>⟨rfl,q1 ρ2 H2 x2 hr2 _ r⟩
  |exc c h2=>rw[e2]at q1;exact λρ2 H2 x2 hr2=>⟨c,h2,ρ2,rfl,hr2,q1 ρ2 H2 x2 hr2⟩
  |stuck=>rw[e2]at q1;exact q1
theorem F7{P:Program}{w:World}{K:Fg0}{mg:Str->Option Value}{base:Heap}{x qual:Str}{st:Stmt}{f:Addr}{fd:FuncData}{ps:List Str}{k:Nat}{tb:List Fn}{d fn cc:Nat}{g:Fn}{fl:List (Bool×E)}
  (F:Fun K x qual st f fd) (S:FnScope ps ps (aw st)) (hg:tb[fn]?=some g) (hnp:g.np=ps.length) (hi:g.ini=some (cc,fl)) (hlen:tb.length<=1000) (hfl:fl.length=(aK cc).length)
  (body:∀(X:Cx) (EX:cb),X.prog=P->X.w=w->X.K=K->X.mg=mg->X.base=base->X.N=ps->X.env.scope=aw st->X.calm=true->(X.fn=λ_=>true)->PassesOwn (model X.prog X.w) X.A X.env X.xe->(X.stack=X.env::X.outer/\X.env.frame=some X.env.locals)->XL cl X EX->XM cl X EX->Room k X.A ->
   PSs X (aT st) (wx K EX (ae fw tb d) cc 0 fl)) :
  FnOk P w K mg base (mx P w) (k+1) f fd ps (Np K cl (ae fw tb (d+1)) (fn+2000) ps.length cc):=by
 obtain⟨oc,od,kV,doc,pm,an,cdv,ct,osl,rfl,lk,hcd⟩:=F.ex
 refine AB lk hcd S (λvs H Q E h=>h.1) λA outer s H vs Q E hr zq=>?_
 obtain⟨hl,x,us,dx,C,H1,ρ,h,ws,e1,e2,n1,n2,n3,hC,hrel,rl,q⟩:=zq
 subst e1 e2
 have y1:=J.ext_new (o:=.own x) hrel n2
 have n4:aW H1 dx (.own x) x=none:=by rw[a6 (zzi n3)];exact n1
 have hr1:=hrel.ext_new (o:=.own x) n2
 have y2:=y1.trans (J.ext_new (o:=.ins C dx []) hr1 n4)
 have hr2:=hr1.ext_new (o:=.ins C dx []) n4
 refine⟨_,body (kH (mx P w) P w K mg base ps qual (aw st) f cdv A outer s _ E) _ rfl rfl rfl rfl rfl rfl rfl rfl rfl PassesOwn.leaving ⟨rfl,rfl⟩ Aa AI hr,ρ,H1,ρ,none::ws.map some,h,x,dx,C,[],[],y2,n1,hrel.new n1,?_,aE,rfl,by rw[ZV];exact hfl,hC,?_,hr2,.nil,?_⟩
 ·have:ps.length≠0:=by rw[<- hl];simp
  unfold L2.start
  rfl
 ·have rl2:=RelL.ext y2 _ _ rl
  have hl2:ws.length=us.length:=rl.length
  refine⟨by unfold L2.start;simp at hl ⊢;lia,λi w e=>?_⟩
  cases i with
  |zero=>simp at e
  |succ i =>
   have e':(ws.map some)[i]?=some (some w):=by simpa using e
   rw[zT]at e'
   obtain⟨u,eu,ez⟩:=Zg.mp e'
   cases ez
   obtain⟨v,ev,rv⟩:=rl2.get eu
   refine⟨v,?_,rv⟩
   unfold L2.start
   have hlt:i<us.length:=(ze.mp ev).1
   simp[zI,hlt]
   exact(ze.mp ev).2
 ·have e:ae fw tb (d+1) (fn+2000) ws h=bnd (ef (ae fw tb d) (none::ws.map some) fl h) λus h=>.ok (.ins cc us) h:=by
   have hw:ws.length+1=g.np:=by rw[rl.length,hnp,<- hl];rfl
   have no1:tb[fn+2000]?=none:=ZD.mpr ZzL;have no2:tb[fn+2000-1000]?=none:=ZD.mpr ZzL;show(match tb[fn+2000]? with|some g=>_|none=>match tb[fn+2000-1000]? with|some g=>_|none=>match tb[fn+2000-2000]? with|some g=>_|none=>_)=_;simp_all
  rw[e]at q
  refine RQ.mono (RQ.bnd0 q) λfs h' ρ' H' x' hr' q' z=>?_
  exact q' ρ' H' x' hr' z
end
noncomputable def lN(env:Env):List (Str×NameKind)->List (Str×Addr)->List (Str×Addr)
 |[],cs=>cs
 |(n,k)::r,cs=>if k==.free then(match env.cells.lookup n with
  |some c=>lN env r ((n,c)::cs)
  |none=>lN env r cs) else lN env r cs
theorem kL(h:∀y∈scope.names,y.2=.free->∃c,env.cells.lookup y.1=some c):closureFor scope env=pure (lN env scope.names []):=by
 unfold closureFor
 have go:∀(l:List (Str×NameKind)) (cs:List (Str×Addr)),(∀y∈l,y.2=.free->∃c,env.cells.lookup y.1=some c) ->
   (forIn l cs (λx r=>match x with|(name,kind)=>if(kind==NameKind.free)=true then(do let a <- cellOf env name;pure (ForInStep.yield ((name,a)::r))) else pure (ForInStep.yield r)):Sem (List (Str×Addr)))=pure (lN env l cs):=by
  intro l
  induction l with
  |nil=>intro cs _;rfl
  |cons y l ih =>
   intro cs hl
   obtain⟨n,k⟩:=y
   rw[List.forIn_cons]
   dsimp only
   unfold lN
   by_cases hk:(k==NameKind.free)=true
   ·obtain⟨c,hc⟩:=hl (n,k) zN (by simpa using hk)
    rw[zF hk,zF hk]
    dsimp only at hc
    unfold cellOf
    rw[hc]
    exact ih _ λy hy=>hl y (zB _ hy)
   simp_all
 exact congrArg (· >>= λr=>pure r) (go scope.names [] h)
theorem kF:∀{l:List (Str×NameKind)}{cs:List (Str×Addr)}{x:Str}{c:Addr},(x,c)∈lN env l cs->(x,c)∈cs\/env.cells.lookup x=some c
 |[],cs,x,c,h=>.inl h
 |(n,k)::r,cs,x,c,h=>by
  unfold lN at h
  split at h
  ·split at h
   ·rcases kF h with z|z
    ·grind
    simp_all
   ·exact kF h
  ·exact kF h
theorem k6:∀{l:List (Str×NameKind)}{cs:List (Str×Addr)}{x:Str},(cs.lookup x).isSome->((lN env l cs).lookup x).isSome
 |[],cs,x,h=>h
 |(n,k)::r,cs,x,h=>by
  unfold lN
  split
  ·split
   ·refine k6 ?_
    grind
   ·exact k6 h
  ·exact k6 h
theorem jc{env:Env}:∀{l:List (Str×NameKind)}{cs:List (Str×Addr)}{x:Str}{c:Addr},(x,NameKind.free)∈l->env.cells.lookup x=some c->((lN env l cs).lookup x).isSome
 |(n,k)::r,cs,x,c,h,hc=>by unfold lN;rcases(zS.mp h) with e|h;cases e;rw[hc];refine k6 ?_;simp;split;split;exact jc h hc;exact jc h hc;exact jc h hc
theorem bM{β:Type}{b:β}{l:List (Str×β)}(h:l.lookup x=some b):(x,b)∈l:=ZY h
theorem AM{x:Str}{c:Addr}(h:(lN env l []).lookup x=some c):env.cells.lookup x=some c:=by
 rcases kF (bM h) with z|z
 ·cases z
 lia
noncomputable def ig(sc:Scope)(out:Scope):Scope:={ sc with names:=sc.names.map λ(n,k)=>if(k==.free&&out.kind==.function&&out.names.lookup n==some .cell) then(n,.cell) else(n,k) }
theorem bV{out:Scope}:∀{names:List (Str×NameKind)}{x:Str}{k:NameKind},
  (names.map λ(n,k)=>if(k==.free&&out.kind==.function&&out.names.lookup n==some .cell) then(n,.cell) else(n,k)).lookup x=some k ->
  names.lookup x=some k\/(k=.cell/\names.lookup x=some .free/\out.names.lookup x=some .cell)
 |[],_,_,h=>by exact .inl ‹_›
 |(n,k')::r,x,k,h=>by
  rw[zO]at h;dsimp only at h;by_cases hc:(k'==.free&&out.kind==.function&&out.names.lookup n==some .cell)=true;rw[zF hc,Zv]at h;rw[Zv];cases hx:x==n with
  |true=>simp_all
  |false=>rw[hx]at h;exact bV h
  rw[zM hc,Zv]at h;rw[Zv];cases hx:x==n with
  |true=>simp_all
  |false=>rw[hx]at h;exact bV h
noncomputable def blk (X:Cx) (N':List Str) (scope:Scope) (cl:List (Str × Addr)) (C:Addr) (fp:List Addr) (s:Shared) (H:Hp):Cx :=
  { X with N:=N',s₀:=s,H₀:=H,env:=compEnvC scope cl C X.env,outer:=X.stack,stack:=X.stack,ex:=fp,fn:=fun _=>false,pn:=[],xe:=fun _ _=>False }

structure BlkOk (out:Scope) (N N':List Str) (sc:Scope) (own:List Str):Prop where
 kind:sc.kind=.function
 cell:∀y∈sc.names,y.2≠.cell
 free:∀y∈sc.names,y.2=.free->out.names.lookup y.1=some .cell
 loc:∀y∈sc.names,y.2=.local->sc.names.lookup y.1=some .local
 mine:∀x,sc.names.lookup x=some .local->x∈own
 pre:∃t,N'=N++t
 new:∀(i:Nat) (x:Str),N'[i]?=some x->N.length<=i->x∈own
structure BlkSt (N N':List Str) (own:List Str) (σ τ:L2.St):Prop where
 len:τ.length=N'.length
 at_:∀(i:Nat) (v:V),τ[i]?=some (some v)->∃x,N[i]?=some x/\x∉own/\σ[i]?=some (some v)
section
variable {X:Cx}{pins:List (Addr×Obj)}{σ τ:L2.St}{H:Hp}{s:Shared}{N':List Str}{sc:Scope}{own:List Str}
theorem lK(I:Inv X pins σ H s)(B:BlkOk X.env.scope X.N N' sc own):∀y∈sc.names,y.2=.free->∃c,X.env.cells.lookup y.1=some c :=
 λy hy hf=>I.ok.has y.1 (.inl (B.free y hy hf))
theorem CU{fp:List Addr}{h₁:Heap}{tk:Nat}{C:Addr}{H':Hp}{m:Str->Option Value}(I:Inv X pins σ H s)(B:BlkOk X.env.scope X.N N' sc own)(S:BlkSt X.N N' own σ τ)
  (f:∀b∈fp,iP X pins H b) (hC:s.heap.objs.size<=C) (hfp:∀b∈fp,b<s.heap.objs.size) (k:∀b o,s.heap.get? b=some o->h₁.get? b=some o) (hn:h₁.Ns C m)
  (u:Un (fU X.stack) fp H H' s.heap h₁) (hok:HOk X.prog X.w H' h₁) (hC':H' C=none) :
  Inv (blk X N' sc (lN X.env sc.names []) C fp s H) [] τ H' { s with heap:=h₁,toks:=tk }:=by
 have hcl:∀x c,(lN X.env sc.names []).lookup x=some c->X.env.cells.lookup x=some c:=λx c e=>AM e
 have hlt:∀x c,X.env.cells.lookup x=some c->c<s.heap.objs.size:=λx c e=>by obtain⟨v,z⟩:=I.cell x c e;exact z.lt
 have cellOf1:∀x c,X.env.cells.lookup x=some c->∀v,s.heap.IsCell c v->h₁.IsCell c v:=λx c e v zq=>by obtain⟨o,ho,hd⟩:=zq;exact⟨o,k c o ho,hd⟩
 refine⟨⟨I.ok.mod,B.kind,I.ok.glob,I.ok.blt,hC,λx y c h1 h2=>I.ok.inj x y c (hcl x c h1) (hcl y c h2),λx hx=>?_,λx c hf _=>(by cases hf),I.ok.hd,I.ok.frames,.inl rfl,λb hb=>⟨?_,λx c e=>?_⟩,
  I.bs,zf I.ok.bsz I.sz,λb o e hb=>?_,λb hb hm=>?_,I.stack,I.stkFree⟩,
  rfl,I.bare,u,⟨m,hn,λi x v e1 e2 e3=>?_⟩,λx c e=>?_,hC',λx c e=>?_,λp hp=>absurd (show p∈([]:List (Addr×Obj)) from hp) ZzS,hok,S.len⟩
 ·-- has
  have hx':(ig sc X.env.scope).names.lookup x=some .cell\/(ig sc X.env.scope).names.lookup x=some .free:=hx
  have fr:sc.names.lookup x=some .free:=by rcases hx' with z|z;rcases bV z with z|z;exact absurd rfl (B.cell _ (bM z));exact z.2.1;rcases bV z with z|z;exact z;exact z.2.1
  obtain⟨c,hc⟩:=lK I B _ (bM fr) rfl
  exact ZG.mp (jc (bM fr) hc)
 ·intro e
  have e':b=C:=e
  subst e'
  exact ZN _ (zj (hfp b hb) hC)
 ·exact(f b hb).2.2.2.2.1 x c (hcl x c e)
 ·rcases(f b hb).2.2.2.1 with z|z
  ·exact I.ok.noex b o e z
  ·have h1:=zL e
   have h2:=I.ok.bsz
   exact absurd (zj h1 (zf h2 z)) (ZN _)
 ·rcases zS.mp (I.stkSub b hm) with e|z
  ·exact(f b hb).2.1 e
  ·exact(f b hb).2.2.1 z
 ·-- a name
  obtain⟨y,hy,hno,hv⟩:=S.at_ i v e2
  obtain⟨t,ht⟩:=B.pre
  have hi:i<X.N.length:=(ze.mp hy).1
  have e1':N'[i]?=some x:=e1
  rw[ht,zI hi,hy]at e1'
  cases e1'
  have e3':(ig sc X.env.scope).names.lookup x=some .local\/(ig sc X.env.scope).names.lookup x=some .cell\/(ig sc X.env.scope).names.lookup x=some .free:=e3
  have fr:sc.names.lookup x=some .free/\(ig sc X.env.scope).names.lookup x=some .cell:=by
   rcases e3' with z|z|z;rcases bV z with z|z;exact absurd (B.mine x z) hno;cases z.1;rcases bV z with z'|z';exact absurd rfl (B.cell _ (bM z'));exact⟨z'.2.1,z⟩;exfalso;rcases bV z with z'|z';have oc:=B.free _ (bM z') rfl;have:∀{names:List (Str×NameKind)},names.lookup x=some .free->(names.map λ(n,k)=>if(k==.free&&X.env.scope.kind==.function&&X.env.scope.names.lookup n==some .cell) then(n,.cell) else(n,k)).lookup x=some NameKind.cell:=by
    intro names;induction names with
    |nil=>intro h;simp at h
    |cons a r ih=>
     obtain⟨n,k⟩:=a;intro h;rw[Zv]at h;rw[zO];dsimp only;cases hx:x==n with
     |true=>
      rw[hx]at h;have e:x=n:=by simpa using hx
      subst e;cases h;rw[zF (by simp[I.ok.kind];exact oc),Zv];simp
     |false=>rw[hx]at h;split;rw[Zv,hx];exact ih h;rw[Zv,hx];exact ih h
   have q:=this z';rw[show(ig sc X.env.scope).names=sc.names.map λ(n,k)=>if(k==.free&&X.env.scope.kind==.function&&X.env.scope.names.lookup n==some .cell) then(n,.cell) else(n,k) from rfl,q]at z;cases z;cases z'.1
  have oc:=B.free _ (bM fr.1) rfl
  obtain⟨m0,hn0,hl⟩:=I.loc
  obtain⟨uu,ru,lk⟩:=hl i x v hy hv (.inr (.inl oc))
  refine⟨uu,ru,?_⟩
  rcases lk with⟨kk,_⟩|⟨_,c,hc,hcell⟩
  ·rw[show X.env.kindOf x=X.env.scope.names.lookup x from rfl,oc]at kk;cases kk
  ·obtain⟨c',hc'⟩:=ZG.mp (jc (cs:=[]) (bM fr.1) hc)
   have:=hcl x c' hc'
   rw[hc]at this
   cases this
   exact .inr ⟨.inl fr.2,c,hc',cellOf1 x c hc _ hcell⟩
 ·obtain⟨v,z⟩:=I.cell x c (hcl x c e)
  exact⟨v,cellOf1 x c (hcl x c e) v z⟩
 ·obtain⟨v,o,ho,hd⟩:=I.cell x c (hcl x c e)
  refine u.free c o ho (I.freeC x c (hcl x c e)) λz=>?_
  exact(f c z).2.2.2.2.1 x c (hcl x c e) rfl
end
section
variable {P:Program}{w:World}{A:Around}{R:Result->Shared->Prop}{s:Shared}
theorem nZ(I:Nat->Shared->Prop)
  (tur:∀n s,I n s->wpAny (model P w) A (pyNext it) (λr t1=>match r with
   |none=>R (.ok .next) t1
   |some v=>wpAny (model P w) A (letOwnedTupleGo tg it v) (λ_ t1'=>wpAny (model P w) A (assign tg en v) (λ_ t2 =>
    wpAny (model P w) A (forIn cs true λc r=>if r=true then do let ok <- isTrue c en (eval c en);pure (ForInStep.yield ok) else pure (ForInStep.yield r)) (λok t3 =>
     if ok=true then wpAny (model P w) A (eval el en) (λx t4 =>
      wpAny (model P w) A (call (.builtin "list.append") [ac,x]) (λ_ t5=>∃m,m<n/\I m t5) (λ_ _=>False) t4) (λ_ _=>False) t3
     else ∃m,m<n/\I m t3) (λ_ _=>False) t2) (λ_ _=>False) t1') (λ_ _=>False) t1) (λ_ _=>False) s)
  (n:Nat) (h:I n s) :
  codeAny (model P w) A (.compLoop (.ListComp el [⟨tg,ir,cs,0⟩] sc ps) 0 it ac en) R s:=by
 refine codeAny_loop rfl I (λn s hJ=>?_) n h
 refine wpAny_noted ?_
 rw[compTurn_list]
 refine zd (zzF (zd (ZA (tur n s hJ) (λr t1 k1=>?_) λ_ _ z=>z.elim)))
 cases r with
 |none=>exact zH k1
 |some v =>
  refine zd (ZA k1 (λ_ t1' k1'=>(zd (ZA k1' (λ_ t2 k2=>zd (ZA k2 (λok t3 k3=>?_) λ_ _ z=>z.elim)) λ_ _ z=>z.elim))) λ_ _ z=>z.elim)
  cases ok with
  |false=>exact zH ⟨rfl,k3⟩
  |true =>
   exact zd (zd (ZA k3 (λx t4 k4=>zd (ZA k4 (λ_ t5 k5=>zH (zH ⟨rfl,k5⟩)) λ_ _ z=>z.elim)) λ_ _ z=>z.elim))
end
def eY(D:Addr)(J:L2.It)(g:TG)(tt:TT)(te:TE)(Q:VK)(τ:L2.St)(H:Hp):Prop :=
 ∃W:Nat->Nat->L2.St->Hp->Prop,(∃m,W 0 m τ (aW H D (.lst [])))/\∀i m τ H,W i m τ H ->
  (J.stop i H/\Q (.ref D) H)\/(J.go i H/\∀x H',J.yld i H x H'->g x τ H' λτ2 H2=>tt τ2 H2 λb H3=>if b=true then te τ2 H3 λy H4=>∃ys,H4 D=some (.lst ys)/\ys.length<sizeLine/\∃m',m'<m/\W (i+1) m' τ2 (aW H4 D (.lst (ys++[y])))
   else ∃m',m'<m/\W (i+1) m' τ2 H3)
def Li(X:Cx)(ifs:List Expr)(t:TT):Prop :=
 ∀(pins:List (Addr×Obj)) (s:Shared) (σ:L2.St) (H:Hp) (Q:Bool->Hp->Prop),Inv X pins σ H s->t σ H Q ->
  wpAny (model X.prog X.w) X.A (forIn ifs true λc r=>if r=true then do let ok <- isTrue c X.env (eval c X.env);pure (ForInStep.yield ok) else pure (ForInStep.yield r)) (TP X pins σ Q) X.xe s
theorem DW:Li X [] (λ_ H Q=>Q true H):=λpins s σ H Q I q=>wpAny_tests_nil ⟨H,I,q⟩
theorem Dq(h:PT X c t):Li X [c] t:=λpins s σ H Q I q=>wpAny_tests_one (h pins s σ H Q I q)
theorem mE{X:Cx}{pins:List (Addr×Obj)}{σ τ:L2.St}{H:Hp}{s:Shared}{N':List Str}{sc:Scope}{own:List Str}{tg iter elt:Expr}{ifs:List Expr}{pos:Pos}{wi:TI}{g:TG}{tt:TT}{te:TE}{Q:VK}
  {RR:Value->Addr->Result->Shared->Prop}{E:Value->Shared->Prop}
  (hcalm:X.calm=true) (hi:PI X tg iter wi) (B:BlkOk X.env.scope X.N N' sc own) (S:BlkSt X.N N' own σ τ)
  (hb:∀cl C fp s H,PG (blk X N' sc cl C fp s H) tg g/\Li (blk X N' sc cl C fp s H) ifs tt/\PE (blk X N' sc cl C fp s H) elt te)
  (I:Inv X pins σ H s) (q:wi σ H λJ H1=>∀D,H1 D=none->eY D J g tt te Q τ H1)
  (hRR:∀D C H' s' m',Inv X pins σ H' s'->iP X pins H' C->s'.heap.Ns C m'->Q (.ref D) H'->RR (.ref D) C (.ok .next) s')
  (hE:E=X.xe) :
  wpAny (model X.prog X.w) X.A (eval iter X.env) (λxv s₁=>wpAny (model X.prog X.w) X.A (pyIter xv) (λit s₂=>wpAny (model X.prog X.w) X.A (newList []) (λacc s₃ =>
   wpAny (model X.prog X.w) X.A (newFunctionEnv sc X.env.globals (lN X.env sc.names []) [] X.env.qual none .none (some X.env)) (λcenv s₄ =>
    codeAny (model X.prog X.w) X.A (.compStart (.ListComp elt [⟨tg,iter,ifs,0⟩] sc pos) 0 it acc { cenv with scope:=relabel sc X.env }) (RR acc cenv.locals) s₄) E s₃) E s₂) E s₁) E s:=by
 subst hE
 refine aU (hi pins s σ H _ I q) λxv s1 h1=>aU h1 λitv s2 h2=>?_
 obtain⟨it,fp,tn,J,H2,e,I2,T,st2,f2,q2⟩:=h2
 subst e
 refine zzj (wpAny_newFunctionEnv B.cell (by intro y hy;simp at hy) (λh₁ hns₁ hsb₁=>?_) B.kind)
 dsimp only at hns₁ hsb₁ ⊢
 have hDn:H2 s2.heap.objs.size=none:=I2.fresh
 obtain⟨W,⟨m0,w0⟩,sm⟩:=q2 s2.heap.objs.size hDn
 have I3:=I2.lnew (its:=[]) (ys:=[]) (t':=s2.toks) .nil ZzS
 generalize hH2:s2.heap.push { cls:=.type "list",dict:=none,data:=.seq ([]:List Value).toArray }=HP at hns₁ hsb₁ ⊢
 have hC:HP.objs.size=s2.heap.objs.size+1:=by rw[<- hH2,ZW]
 have hCle:s2.heap.objs.size<=HP.objs.size:=by rw[hC];exact ZK _
 have hDC:s2.heap.objs.size≠HP.objs.size:=by rw[hC];exact zU (zzt _)
 have I3':Inv X pins σ (aW H2 s2.heap.objs.size (.lst [])) { s2 with heap:=HP,toks:=s2.toks }:=by rw[<- hH2];exact I3
 have old3:∀b o,HP.get? b=some o->h₁.get? b=some o:=λb o e=>hsb₁.extBut b o (zU (zL e)) (hps0 _ e)
 have old:∀b o,s2.heap.get? b=some o->h₁.get? b=some o:=λb o e=>old3 b o (by rw[<- hH2];exact hps0 _ e)
 have hfp:∀b∈fp,b<s2.heap.objs.size:=λb hb=>by obtain⟨o,e,_⟩:=T.obj _ _ st2 b hb;exact zL e
 have hC':aW H2 s2.heap.objs.size (.lst []) HP.objs.size=none:=by rw[a6 (zzi hDC)];exact I2.hok.fresh hCle
 have IB:=CU (tk:=s2.toks+([]:List (Str×Value)).length) (C:=HP.objs.size) I2 B S f2 hCle hfp old hns₁ (Un.laid old (zD _) hDn) (I3'.hok.kept old3) hC'
 have stat:∀{H':Hp},(∀b∈fp,H' b=none)->∀b∈fp,iP (blk X N' sc (lN X.env sc.names []) HP.objs.size fp s2 H2) [] H' b:=λhn b hb =>
  ⟨hn b hb,λe=>ZN _ (zj (hfp b hb) (by rw[show b=HP.objs.size from e];exact hCle)),IB.ok.exfs b hb,.inl hb,λx c e=>(IB.ok.exf b hb).2 x c e,λp hp=>absurd (show p∈([]:List (Addr×Obj)) from hp) ZzS⟩
 obtain⟨pg,pt,pe⟩:=hb (lN X.env sc.names []) HP.objs.size fp s2 H2
 have fpn:∀b∈fp,aW H2 s2.heap.objs.size (.lst []) b=none:=λb hb=>by rw[a6 (zU (hfp b hb))];exact(f2 b hb).1
 have tn1:tn 0 h₁:=T.keep _ _ _ st2 λb _ o e=>old b o e
 have loop:∀s₃:Shared,s₃={ s2 with heap:=h₁,toks:=s2.toks+([]:List (Str×Value)).length } ->
   codeAny (model X.prog X.w) X.A (.compLoop (.ListComp elt [⟨tg,iter,ifs,0⟩] sc pos) 0 (.ref it) (.ref s2.heap.objs.size) (compEnvC sc (lN X.env sc.names []) HP.objs.size X.env))
    (RR (.ref s2.heap.objs.size) HP.objs.size) s₃:=by
  rintro s₃ rfl
  refine nZ (λn s'=>∃i τ' H',Inv (blk X N' sc (lN X.env sc.names []) HP.objs.size fp s2 H2) [] τ' H' s'/\tn i s'.heap/\(∀b∈fp,H' b=none)/\W i n τ' H') ?_ m0 ⟨0,τ,_,IB,tn1,fpn,w0⟩
  rintro n s' ⟨i,τ',H',I',st',fr',w'⟩
  rcases sm i n τ' H' w' with⟨stop,qn⟩|⟨go,step⟩
  ·refine aU (T.done (blk X N' sc (lN X.env sc.names []) HP.objs.size fp s2 H2) rfl rfl rfl hcalm i [] s' τ' H' _ I' (stat fr') st' stop) λr s4 zq=>?_
   obtain⟨hr,I4⟩:=zq
   subst hr
   obtain⟨m4,hn4,_⟩:=I4.loc
   have IX:Inv X pins σ H' s4:=I2.call' (ch:=fp) I4.os I4.base I4.hok I4.bare λb hb=>⟨(f2 b hb).2.2.2.1,(f2 b hb).2.1,(f2 b hb).2.2.2.2.1,(f2 b hb).2.2.2.2.2⟩
   refine hRR _ _ H' s4 m4 IX ?_ hn4 qn
   have z:=I2.fpOk (H':=H') hCle I4.free
   exact z
  ·refine aU (T.item (blk X N' sc (lN X.env sc.names []) HP.objs.size fp s2 H2) rfl rfl rfl hcalm i [] s' τ' H' _ I' (stat fr') st' go) λr s4 zq=>?_
   obtain⟨u,hr,h4⟩:=zq
   subst hr
   refine aU h4 λ_ s5 zq=>?_
   obtain⟨x,H5,I5,r5,y5,st5,fr5⟩:=zq
   have I5':=I5.pinned (stat fr5) (T.obj _ _ st5)
   have keepT:∀{τ7:L2.St}{H7:Hp}{s7:Shared},Inv (blk X N' sc (lN X.env sc.names []) HP.objs.size fp s2 H2) ([]++lA fp s5.heap) τ7 H7 s7->tn (i+1) s7.heap/\∀b∈fp,H7 b=none:=λ{τ7 H7 s7} I7 =>
    ⟨T.keep _ _ _ st5 λb hb o e=>(I7.pin (b,o) (Zb _ (Zb _ (fO hb e)))).1,λb hb=>by
     obtain⟨o,e,d⟩:=T.obj _ _ st5 b hb
     exact(I7.pin (b,o) (Zb _ (Zb _ (fO hb e)))).2.1⟩
   refine aU (pg _ s5 τ' H5 x u _ I5' r5 (step x H5 y5)) λ_ s6 zq=>?_
   obtain⟨τ6,H6,I6,q6⟩:=zq
   refine aU (pt _ s6 τ6 H6 _ I6 q6) λok s7 zq=>?_
   obtain⟨H7,I7,q7⟩:=zq
   cases ok with
   |false =>
    rw[zM ZzD]at q7 ⊢
    obtain⟨m',hm,w7⟩:=q7
    obtain⟨k1,k2⟩:=keepT I7
    exact⟨m',hm,i+1,τ6,H7,I7.unpinned,k1,k2,w7⟩
   |true =>
    rw[zF rfl]at q7 ⊢
    refine aU (pe _ s7 τ6 H7 _ I7 q7) λv s8 zq=>?_
    obtain⟨y,H8,I8,r8,ys,hD8,hz,m',hm,w8⟩:=zq
    refine aU (nJ _ s8 τ6 H8 (.ref s2.heap.objs.size) [y] _ [v] (λ_ H9=>H9=aW H8 s2.heap.objs.size (.lst (ys++[y]))) I8 rfl (.cons r8 .nil) ⟨_,ys,y,rfl,rfl,hD8,hz,rfl⟩) λ_ s9 zq=>?_
    obtain⟨_,H9,I9,_,e9⟩:=zq
    subst e9
    obtain⟨k1,k2⟩:=keepT I9
    exact⟨m',hm,i+1,τ6,_,I9.unpinned,k1,k2,w8⟩
 exact codeAny_compStart_list (loop _ rfl) (T.self X.A 0 _ _ _ tn1 (loop _ rfl))
noncomputable def LB:Bool->String
 |true=>"tuple_iterator"
 |false=>"list_iterator"
noncomputable def N9:Bool->String
 |true=>"tuple"
 |false=>"list"
def isIt(t:Bool)(h:Heap)(it l:Addr)(i:Nat):Prop:=∃o,h.get? it=some o/\o.cls=.type (LB t)/\o.data=.fields #[.ref l,.int i 0]
def isSq(t:Bool)(h:Heap)(l:Addr)(its:Array Value):Prop:=∃o,h.get? l=some o/\o.cls=.type (N9 t)/\∃n,o.data=.seq its n
theorem isIt.on(x:isIt t h it l i)(k:∀o,h.get? it=some o->h'.get? it=some o):isIt t h' it l i:=let ⟨o,e,r⟩:=x;⟨o,k o e,r⟩
theorem isSq.on(x:isSq t h l its)(k:∀o,h.get? l=some o->h'.get? l=some o):isSq t h' l its:=let ⟨o,e,r⟩:=x;⟨o,k o e,r⟩
section
variable {P:Program}{w:World}{A:Around}{E:Value->Shared->Prop}{s:Shared}
theorem kr{t:Bool}{it l:Addr}{i:Nat}{its:Array Value}{x:Value}{Q:Value->Shared->Prop}(a:isIt t s.heap it l i)(b:isSq t s.heap l its)(c:its[i]?=some x)
  (q:∀h',isIt t h' it l (i+1)->Heap.SameBut it s.heap h'->Q x { s with heap:=h' }):wpAny (model P w) A (Builtin.SmallTypes.nextOf (.ref it)) Q E s:=by
 cases t with
 |false=>exact wpAny_nextOf_list_item (l:=l) (i:=i) a b c q
 |true =>
  obtain⟨o,eo,ec,ed⟩:=id a
  obtain⟨ol,el,_,n,dl⟩:=b
  have ty:s.TypeIs (.ref it) "tuple_iterator":=⟨o,eo,ec⟩
  refine zd (Zz  ty Z9 (ZS Z9 ty F.entry_tuple_iterator_next ?_ (F.args_tuple_iterator_next_1 _)))
  refine zd (m:=field (.ref it) 0) (Zn eo ed (x:=.ref l) rfl ?_)
  refine zd (m:=field (.ref it) 1) (Zn eo ed (x:=.int i 0) rfl ?_)
  refine zd (m:=seqItems? (.ref l)) (zza el dl ?_)
  simp only[Zt,c]
  refine zd (wpAny_setField eo ed ZzS (zH ⟨x,rfl,zH (q _ ⟨_,Heap.get?_update_self _ eo (Obj.isFreed_of_fields (Obj.data_mapFields ed _)),(Obj.cls_mapFields ..).trans ec,?_⟩ (Heap.SameBut.update ..))⟩))
  rw[Obj.data_mapFields ed]
  simp[rawInt]
theorem oJ{t:Bool}{it l:Addr}{i:Nat}{its:Array Value}{Q:Value->Shared->Prop}(hh:A.handled=none)(a:isIt t s.heap it l i)(b:isSq t s.heap l its)(c:its[i]?=none)
  (q:∀h' e,Heap.ExtBut it s.heap h'->(∃o,h'.get? e=some o/\o.cls=.type "StopIteration")->E (.ref e) { s with heap:=h' }):wpAny (model P w) A (Builtin.SmallTypes.nextOf (.ref it)) Q E s:=by
 cases t with
 |false=>exact wpAny_nextOf_list_end hh (l:=l) (i:=i) a b c q
 |true =>
  obtain⟨o,eo,ec,ed⟩:=id a
  obtain⟨ol,el,_,n,dl⟩:=b
  have ty:s.TypeIs (.ref it) "tuple_iterator":=⟨o,eo,ec⟩
  unfold Builtin.SmallTypes.nextOf
  refine zd (Zz (name:=Str.ofString "__next__") ty Z9 (ZS Z9 ty F.entry_tuple_iterator_next ?_ (F.args_tuple_iterator_next_1 _)))
  refine zd (m:=field (.ref it) 0) (Zn eo ed (x:=.ref l) rfl ?_)
  refine zd (m:=field (.ref it) 1) (Zn eo ed (x:=.int i 0) rfl ?_)
  refine zd (m:=seqItems? (.ref l)) (zza el dl ?_)
  simp only[Zt,c]
  refine zd (wpAny_rule (zd (wpAny_setField eo ed ZzS ?_)))
  refine zd  ?_
  simp only[newExc,newTuple]
  refine zd (zzj (zd (m:=firstArgMember _ _) (wpAny_of_eq (a:=Value.none) (rfl) (zzj ?_ (by size_fits)))) (by size_fits))
  simp only[raiseNew]
  refine zd (wpAny_handled ?_)
  first|rw[show A.in1.handled=none from hh]|rw[hh]
  exact zd (zH (wpAny_throw (q _ _ (((Heap.SameBut.update ..).extBut.push _).push _) ⟨_,zG _ rfl,rfl⟩)))
end
section
variable {P:Program}{w:World}{A:Around}{E:Value->Shared->Prop}{s:Shared}
theorem Ai{z TI TO i1 i2 l1 l2:Addr}(D:ZipApart z TI TO i1 i2 l1 l2)(hz:IsZip s.heap z TI TO .none)(hI:IsPair s.heap TI (.ref i1) (.ref i2))(hO:IsPair s.heap TO a b)
  (a1:isIt t1 s.heap i1 l1 k) (a2:isIt t2 s.heap i2 l2 k) (b1:isSq t1 s.heap l1 xs) (b2:isSq t2 s.heap l2 ys) (ex:xs[k]?=some x) (ey:ys[k]?=some y)
  (q:∀h',IsZip h' z TI TO (rawInt s.heap.objs.size)->IsPair h' TO x y->isIt t1 h' i1 l1 (k+1)->isIt t2 h' i2 l2 (k+1)->IsPair h' s.heap.objs.size x y->(∀c o,c∉[z,TO,i1,i2]->s.heap.get? c=some o->h'.get? c=some o)->Q (some (.ref s.heap.objs.size)) { s with heap:=h' }) :
  wpAny (model P w) A (pyNext (.ref z)) Q E s:=by
 have ty:s.TypeIs (.ref z) "zip":=⟨_,hz,rfl⟩
 unfold pyNext
 refine zd (wpAny_attempt (Zz (name:=Str.ofString "__next__") ty F.slot_zip_next (ZS F.slot_zip_next ty F.entry_zip_next ?_ (F.args_zip_next_1 _))))
 refine zd (m:=field (.ref z) 2) (Zn hz rfl (x:=.bool false) rfl ?_)
 refine zd (m:=field (.ref z) 3) (Zn hz rfl (x:=.ref TI) rfl (zd (zza hI rfl ?_)))
 refine zd (m:=Builtin.SmallTypes.ownedTupleIsFree (.ref z)) ?_
 unfold Builtin.SmallTypes.ownedTupleIsFree
 refine zd (Zn hz rfl (x:=.none) rfl (zH ?_))
 simp only[if_true]
 refine zd (wpAny_rule (zd (Zn hz rfl (x:=.ref TO) rfl (zd (Zq hz ZzS λg1 z1 s1=>?_)))))
 replace z1:IsZip g1 z TI TO .ellipsis:=z1
 refine zd ?_
 simp only[List.zipIdx_cons,List.zipIdx_nil,List.forIn_cons,List.forIn_nil]
 refine zd (zd (wpAny_onRaise ?_))
 refine zd (m:=Builtin.SmallTypes.nextOf (.ref i1)) (kr (l:=l1) (i:=k) (t:=t1) (a1.on λo e=>s1.extBut _ _ D.i1z e) (b1.on λo e=>s1.extBut _ _ D.l1z e) ex λg2 a1' s2=>zH ?_)
 have O2:IsPair g2 TO a b:=s2.extBut _ _ D.TOi1 (s1.extBut _ _ D.TOz hO)
 refine zd (zza O2 rfl (zd (wpAny_updateSeq_pair O2 λg3 O3 s3=>?_)))
 replace O3:IsPair g3 TO x b:=O3
 refine zd (wpAny_letGo (zH (zd (zd (wpAny_onRaise ?_)))))
 refine zd (m:=Builtin.SmallTypes.nextOf (.ref i2)) (kr (l:=l2) (i:=k) (t:=t2) (a2.on λo e=>s3.extBut _ _ D.TOi2.symm (s2.extBut _ _ D.i12.symm (s1.extBut _ _ D.i2z e))) (b2.on λo e=>s3.extBut _ _ D.l2TO (s2.extBut _ _ D.l2i1 (s1.extBut _ _ D.l2z e))) ey λg4 a2' s4=>zH ?_)
 have O4:IsPair g4 TO x b:=s4.extBut _ _ D.TOi2 O3
 refine zd (zza O4 rfl (zd (wpAny_updateSeq_pair O4 λg5 O5 s5=>?_)))
 replace O5:IsPair g5 TO x y:=O5
 refine zd (wpAny_letGo (zH (zH (zd (zza O5 rfl (zd (wpAny_newTuple ?_)))))))
 have sz:g5.objs.size=s.heap.objs.size:=by rw[s5.1,s4.1,s3.1,s2.1,s1.1]
 have z5:IsZip g5 z TI TO .ellipsis:=s5.extBut _ _ D.TOz.symm (s4.extBut _ _ D.i2z.symm (s3.extBut _ _ D.TOz.symm (s2.extBut _ _ D.i1z.symm z1)))
 have k5:∀c o,c∉[z,TO,i1,i2]->s.heap.get? c=some o->g5.get? c=some o:=λc o hc e=>by simp only[zS,Zr,zzM,not_or]at hc;exact s5.extBut _ _ hc.2.1 (s4.extBut _ _ hc.2.2.2 (s3.extBut _ _ hc.2.1 (s2.extBut _ _ hc.2.2.1 (s1.extBut _ _ hc.1 e))))
 have p1:isIt t1 g5 i1 l1 (k+1):=a1'.on λo e=>s5.extBut _ _ D.TOi1.symm (s4.extBut _ _ D.i12 (s3.extBut _ _ D.TOi1.symm e))
 have p2:isIt t2 g5 i2 l2 (k+1):=a2'.on λo e=>s5.extBut _ _ D.TOi2.symm e
 have zlt:z<g5.objs.size:=zL z5
 refine zd (m:=Builtin.SmallTypes.ownedTupleHandOut (.ref z) (.ref g5.objs.size)) ?_
 unfold Builtin.SmallTypes.ownedTupleHandOut
 refine zd (Zq (hps0 _ z5) ZzS λg7 z7 s7=>?_)
 replace z7:IsZip g7 z TI TO (rawInt g5.objs.size):=z7
 refine Zq z7 ZzS λg8 z8 s8=>?_
 replace z8:IsZip g8 z TI TO (rawInt g5.objs.size):=z8
 have up:∀c o,c≠z->g5.get? c=some o->g8.get? c=some o:=λc o c1 e=>s8.extBut _ _ c1 (s7.extBut _ _ c1 (hps0 _ e))
 have T8:IsPair g8 g5.objs.size x y:=s8.extBut _ _ (ZO zlt) (s7.extBut _ _ (ZO zlt) (zG _ rfl))
 rw[sz]at z8 T8
 refine zH ⟨_,rfl,zH ?_⟩
 show Q (some (.ref g5.objs.size)) _
 rw[sz]
 exact q g8 z8 (up _ _ D.TOz O5) (p1.on λo e=>up _ o D.i1z e) (p2.on λo e=>up _ o D.i2z e) T8 λc o hc e=>up c o (λz=>hc (by simp[z])) (k5 c o hc e)
theorem yG{z TI TO i1 i2 l1 l2:Addr}(hh:A.handled=none)(D:ZipApart z TI TO i1 i2 l1 l2)(hz:IsZip s.heap z TI TO .none)(hI:IsPair s.heap TI (.ref i1) (.ref i2))(hO:IsPair s.heap TO a b)
  (a1:isIt t1 s.heap i1 l1 k) (a2:isIt t2 s.heap i2 l2 k) (b1:isSq t1 s.heap l1 xs) (b2:isSq t2 s.heap l2 ys) (en:xs[k]?=none\/ys[k]?=none)
  (q:∀h',(∀c o,c∉[z,TO,i1,i2]->s.heap.get? c=some o->h'.get? c=some o)->Q none { s with heap:=h' }):wpAny (model P w) A (pyNext (.ref z)) Q E s:=by
 have ty:s.TypeIs (.ref z) "zip":=⟨_,hz,rfl⟩
 unfold pyNext
 refine zd (wpAny_attempt (Zz (name:=Str.ofString "__next__") ty F.slot_zip_next (ZS F.slot_zip_next ty F.entry_zip_next ?_ (F.args_zip_next_1 _))))
 refine zd (m:=field (.ref z) 2) (Zn hz rfl (x:=.bool false) rfl ?_)
 refine zd (m:=field (.ref z) 3) (Zn hz rfl (x:=.ref TI) rfl (zd (zza hI rfl ?_)))
 refine zd (m:=Builtin.SmallTypes.ownedTupleIsFree (.ref z)) ?_
 unfold Builtin.SmallTypes.ownedTupleIsFree
 refine zd (Zn hz rfl (x:=.none) rfl (zH ?_))
 simp only[if_true]
 refine zd (wpAny_rule (zd (Zn hz rfl (x:=.ref TO) rfl (zd (Zq hz ZzS λg1 z1 s1=>?_)))))
 replace z1:IsZip g1 z TI TO .ellipsis:=z1
 refine zd ?_
 refine zd (zd (wpAny_onRaise ?_))
 have fin:∀{h':Heap}{e:Addr},(∃o,h'.get? e=some o/\o.cls=.type "StopIteration")->(∀c o,c∉[z,TO,i1,i2]->s.heap.get? c=some o->h'.get? c=some o) ->
   wpAny (model P w) A (isInstance (.ref e) (.type "StopIteration")) (λr s'=>wpAny (model P w) A (if r=true then pure none else throw (Value.ref e)) Q E s') E { s with heap:=h' }:=λ{h' e} ⟨o,ho,hc⟩ kk =>
  wpAny_isInstance (T:="StopIteration") (b:=true) ⟨o,ho,hc⟩ isSubtype_stop (zH (q _ kk))
 cases hx:xs[k]? with
 |none =>
  refine zd (m:=Builtin.SmallTypes.nextOf (.ref i1)) (oJ (l:=l1) (i:=k) (t:=t1) hh (a1.on λo e=>s1.extBut _ _ D.i1z e) (b1.on λo e=>s1.extBut _ _ D.l1z e) hx λg2 e s2 he=>?_)
  obtain⟨oe,ho,hc⟩:=he
  have z2:IsZip g2 z TI TO .ellipsis:=s2 _ _ D.i1z.symm z1
  have ez:e≠z:=λr=>by subst r;rw[z2]at ho;cases ho;simp at hc
  refine Zq z2 ZzS λg3 _ s3=>zd (fin ⟨oe,s3.extBut _ _ ez ho,hc⟩ λc o hc e=>?_)
  simp only[zS,Zr,zzM,not_or]at hc
  exact s3.extBut _ _ hc.1 (s2 _ _ hc.2.2.1 (s1.extBut _ _ hc.1 e))
 |some x =>
  have hy:ys[k]?=none:=by rcases en with r|r;rw[hx]at r;cases r;exact r
  refine zd (m:=Builtin.SmallTypes.nextOf (.ref i1)) (kr (l:=l1) (i:=k) (t:=t1) (a1.on λo e=>s1.extBut _ _ D.i1z e) (b1.on λo e=>s1.extBut _ _ D.l1z e) hx λg2 a1' s2=>zH ?_)
  have O2:IsPair g2 TO a b:=s2.extBut _ _ D.TOi1 (s1.extBut _ _ D.TOz hO)
  refine zd (zza O2 rfl (zd (wpAny_updateSeq_pair O2 λg3 O3 s3=>?_)))
  refine zd (wpAny_letGo (zH (zd (zd (wpAny_onRaise ?_)))))
  refine zd (m:=Builtin.SmallTypes.nextOf (.ref i2)) (oJ (l:=l2) (i:=k) (t:=t2) hh (a2.on λo e=>s3.extBut _ _ D.TOi2.symm (s2.extBut _ _ D.i12.symm (s1.extBut _ _ D.i2z e))) (b2.on λo e=>s3.extBut _ _ D.l2TO (s2.extBut _ _ D.l2i1 (s1.extBut _ _ D.l2z e))) hy λg4 e s4 he=>?_)
  obtain⟨oe,ho,hc⟩:=he
  have z4:IsZip g4 z TI TO .ellipsis:=s4 _ _ D.i2z.symm (s3.extBut _ _ D.TOz.symm (s2.extBut _ _ D.i1z.symm z1))
  have ez:e≠z:=λr=>by subst r;rw[z4]at ho;cases ho;simp at hc
  refine Zq z4 ZzS λg5 _ s5=>zd (fin ⟨oe,s5.extBut _ _ ez ho,hc⟩ λc o hc e=>?_)
  simp only[zS,Zr,zzM,not_or]at hc
  exact s5.extBut _ _ hc.1 (s4 _ _ hc.2.2.2 (s3.extBut _ _ hc.2.1 (s2.extBut _ _ hc.2.2.1 (s1.extBut _ _ hc.1 e))))
end
section
variable {P:Program}{w:World}{A:Around}{E:Value->Shared->Prop}{s:Shared}
theorem kB(a:isSq t s.heap l its)(q:Q (.ref s.heap.objs.size) { s with heap:=s.heap.push { cls:=.type (LB t),data:=.fields #[.ref l,.int 0 0] } }):wpAny (model P w) A (pyIter (.ref l)) Q E s:=by cases t;exact zzJ a q;exact wpAny_pyIter_tuple a q
noncomputable abbrev DJ(t1:Bool)(h:Heap)(l1:Addr):Heap:=h.push { cls:=.type (LB t1),data:=.fields #[.ref l1,.int 0 0] }
noncomputable abbrev Mn(t1 t2:Bool)(h:Heap)(l1 l2:Addr):Heap:=(DJ t1 h l1).push { cls:=.type (LB t2),data:=.fields #[.ref l2,.int 0 0] }
noncomputable abbrev Mp(t1 t2:Bool)(h:Heap)(l1 l2:Addr):Heap:=(Mn t1 t2 h l1 l2).push { cls:=.type "tuple",data:=.seq #[.ref h.objs.size,.ref (DJ t1 h l1).objs.size] }
noncomputable abbrev Mg(t1 t2:Bool)(h:Heap)(l1 l2:Addr):Heap:=(Mp t1 t2 h l1 l2).push { cls:=.type "tuple",data:=.seq #[.none,.none] }
noncomputable abbrev IP(t1 t2:Bool)(h:Heap)(l1 l2:Addr):Heap:=(Mg t1 t2 h l1 l2).push { cls:=.type "zip",data:=.fields #[.none,.bool false,.bool false,.ref (Mn t1 t2 h l1 l2).objs.size,.ref (Mp t1 t2 h l1 l2).objs.size] }
theorem yA(t1 t2)(l1 l2)(xs ys):Meets (Builtin.«zip.__new__» ⟨[.type "zip",.ref l1,.ref l2],[]⟩) (λ_ R s=>isSq t1 s.heap l1 xs/\isSq t2 s.heap l2 ys/\R (.ok (.ret (.ref (Mg t1 t2 s.heap l1 l2).objs.size))) { s with heap:=IP t1 t2 s.heap l1 l2 }) :=
 .of_wp λP w A R s h=>by
  obtain⟨hp,g,d,tk,os⟩:=s
  obtain⟨c1,c2,h⟩:=h
  have hsub:=sub_zip
  have m1 :=c1
  have m2:isSq t2 (Shared.heap ⟨hp.push { cls:=.type (LB t1),data:=.fields #[.ref l1,.int 0 0] },g,d,tk,os⟩) l2 ys:=c2.on λo e=>hps0 _ e
  wp_walk using kB m1,kB m2
  exact⟨_,rfl,h⟩
theorem y8(c1:isSq t1 s.heap l1 xs)(c2:isSq t2 s.heap l2 ys)
  (q:∀h',IsZip h' (s.heap.objs.size+4) (s.heap.objs.size+2) (s.heap.objs.size+3) .none->IsPair h' (s.heap.objs.size+2) (.ref s.heap.objs.size) (.ref (s.heap.objs.size+1))->IsPair h' (s.heap.objs.size+3) .none .none ->
   isIt t1 h' s.heap.objs.size l1 0->isIt t2 h' (s.heap.objs.size+1) l2 0->(∀c o,s.heap.get? c=some o->h'.get? c=some o)->Q (.ref (s.heap.objs.size+4)) { s with heap:=h' }):wpAny (model P w) A (call (.type "zip") [.ref l1,.ref l2]) Q E s:=by
 refine callType_new F.called_zip ZzD (F.typeCall_zip_2 _ _) (F.newCall_zip_2 _ _) (λobj=>F.args_object_init_3 obj _ _) F.entry_zip_new (yA t1 t2 l1 l2 xs ys) ⟨c1,c2,?_⟩
 have n1:(DJ t1 s.heap l1).objs.size=s.heap.objs.size+1:=ZW ..
 have n2:(Mn t1 t2 s.heap l1 l2).objs.size=s.heap.objs.size+2:=by rw[ZW,n1]
 have n3:(Mp t1 t2 s.heap l1 l2).objs.size=s.heap.objs.size+3:=by rw[ZW,n2]
 have n4:(Mg t1 t2 s.heap l1 l2).objs.size=s.heap.objs.size+4:=by rw[ZW,n3]
 have g5:(IP t1 t2 s.heap l1 l2).get? (Mg t1 t2 s.heap l1 l2).objs.size=some _:=zG _ rfl
 have g4:(IP t1 t2 s.heap l1 l2).get? (Mp t1 t2 s.heap l1 l2).objs.size=some _:=hps0 _ (zG _ rfl)
 have g3:(IP t1 t2 s.heap l1 l2).get? (Mn t1 t2 s.heap l1 l2).objs.size=some _:=hps0 _ (hps0 _ (zG _ rfl))
 have g2:(IP t1 t2 s.heap l1 l2).get? (DJ t1 s.heap l1).objs.size=some _:=hps0 _ (hps0 _ (hps0 _ (zG _ rfl)))
 have g1:(IP t1 t2 s.heap l1 l2).get? s.heap.objs.size=some _:=hps0 _ (hps0 _ (hps0 _ (hps0 _ (zG _ rfl))))
 show _/\_
 rw[n2,n3,n4]at g5
 rw[n1,n2]at g3
 rw[n3]at g4
 rw[n1]at g2
 rw[n4]
 exact⟨⟨_,g5,rfl⟩,q _ g5 g3 g4 ⟨_,g1,rfl,rfl⟩ ⟨_,g2,rfl,rfl⟩ λc o x=>hps0 _ (hps0 _ (hps0 _ (hps0 _ (hps0 _ x))))⟩
end
section
variable {P:Program}{w:World}{A:Around}{E:Value->Shared->Prop}{s:Shared}
theorem wN(he:IsEnum s.heap e it c old)(a:isIt t s.heap it l i)(b:isSq t s.heap l its)(ex:its[i]?=some x)(ne:e≠it)
  (q:∀h' tk,IsEnumOut h' e it (c+1) x s.heap.objs.size->isIt t h' it l (i+1)->IsPair h' s.heap.objs.size (.int c tk) x->(∀b o,b∉[e,it]->s.heap.get? b=some o->h'.get? b=some o)->Q (some (.ref s.heap.objs.size)) { s with heap:=h',toks:=tk+1 }) :
  wpAny (model P w) A (pyNext (.ref e)) Q E s:=by
 have ty:s.TypeIs (.ref e) "enumerate":=⟨_,he,rfl⟩
 unfold pyNext
 refine zd (wpAny_attempt (Zz (name:=Str.ofString "__next__") ty zzG (ZS zzG ty F.entry_enumerate_next ?_ (F.args_enumerate_next_1 _))))
 refine zd (m:=field (.ref e) 2) (Zn he rfl (x:=.ref it) rfl ?_)
 refine zd (m:=Builtin.SmallTypes.nextOf (.ref it)) (kr (l:=l) (i:=i) (t:=t) a b ex λg1 a1 s1=>?_)
 have e1:IsEnum g1 e it c old:=(s1.2 e ne).trans he
 refine zd (m:=field (.ref e) 3) (Zn e1 rfl (x:=rawInt c) rfl ?_)
 refine zd (m:=field (.ref e) 4) (Zn e1 rfl (x:=.none) rfl ?_)
 refine zd (m:=mkInt c) (wpAny_mkInt ?_)
 refine zd (m:=setField (.ref e) 3 (rawInt (c+1))) (Zq e1 ZzS λg2 e2 s2=>?_)
 replace e2:IsEnum g2 e it (c+1) old:=e2
 refine zd (m:=setField (.ref e) 4 .none) (Zq e2 ZzS λg3 e3 s3=>?_)
 replace e3:IsEnum g3 e it (c+1) old:=e3
 refine zd (m:=newTuple [.int c s.toks,x]) (wpAny_newTuple ?_)
 have e4:IsEnum (g3.push { cls:=.type "tuple",data:=.seq #[.int c s.toks,x] }) e it (c+1) old:=hps0 _ e3
 have sz:g3.objs.size=s.heap.objs.size:=by rw[s3.1,s2.1,s1.1]
 have el:e<s.heap.objs.size:=zL he
 generalize hg:g3.push { cls:=.type "tuple",data:=.seq #[.int c s.toks,x] }=g4 at e4
 have T4:IsPair g4 s.heap.objs.size (.int c s.toks) x:=by rw[<- hg,<- sz];exact zG _ rfl
 have k4:∀b o,b∉[e,it]->s.heap.get? b=some o->g4.get? b=some o:=λb o hb eb=>by simp only[zS,Zr,zzM,not_or]at hb;rw[<- hg];exact hps0 _ (s3.extBut b o hb.1 (s2.extBut b o hb.1 (s1.extBut b o hb.2 eb)))
 have i4:isIt t g4 it l (i+1):=a1.on λo y=>by rw[<- hg];exact hps0 _ (s3.extBut it o ne.symm (s2.extBut it o ne.symm y))
 refine zd (m:=Builtin.SmallTypes.ownedTupleIsFree (.ref e)) ?_
 unfold Builtin.SmallTypes.ownedTupleIsFree
 rw[sz]
 refine zd (Zn (s:=⟨g4,_,_,_,_⟩) e4 rfl (x:=.none) rfl (zH ?_))
 simp only[if_true]
 refine zd (wpAny_rule (zd (Zn e4 rfl (x:=old) rfl (zd (Zq e4 ZzS λg5 e5 s5=>?_)))))
 replace e5:IsEnum g5 e it (c+1) x:=e5
 replace s5:Heap.SameBut e g4 g5:=s5
 refine zd  ?_
 unfold Builtin.SmallTypes.ownedTupleHandOut
 refine zd (Zq e5 ZzS λg6 e6 s6=>?_)
 replace e6:IsEnumOut g6 e it (c+1) x s.heap.objs.size:=e6
 replace s6:Heap.SameBut e g5 g6:=s6
 refine Zq e6 ZzS λg7 e7 s7=>?_
 replace e7:IsEnumOut g7 e it (c+1) x s.heap.objs.size:=e7
 replace s7:Heap.SameBut e g6 g7:=s7
 have up:∀b o,b≠e->g4.get? b=some o->g7.get? b=some o:=λb o hb y=>s7.extBut b o hb (s6.extBut b o hb (s5.extBut b o hb y))
 exact zd (wpAny_letGo (zH ⟨_,rfl,zH (q g7 s.toks e7 (i4.on λo y=>up it o ne.symm y) (up _ _ (ZO el) T4) λb o hb y=>up b o (λz=>hb (by simp[z])) (k4 b o hb y))⟩))
theorem vI(hh:A.handled=none)(he:IsEnum s.heap e it c old)(a:isIt t s.heap it l i)(b:isSq t s.heap l its)(ex:its[i]?=none)
  (q:∀h',Heap.ExtBut it s.heap h'->Q none { s with heap:=h' }):wpAny (model P w) A (pyNext (.ref e)) Q E s:=by
 have ty:s.TypeIs (.ref e) "enumerate":=⟨_,he,rfl⟩
 refine zd (wpAny_attempt (Zz  ty zzG (ZS zzG ty F.entry_enumerate_next ?_ (F.args_enumerate_next_1 _))))
 refine zd (m:=field (.ref e) 2) (Zn he rfl (x:=.ref it) rfl ?_)
 refine zd  (oJ (l:=l) (i:=i) (t:=t) hh a b ex λg1 x s1 hx=>?_)
 obtain⟨o,ho,hc⟩:=hx
 exact zd (wpAny_isInstance  (b:=true) ⟨o,ho,hc⟩ isSubtype_stop (zH (q _ s1)))
end
def SqB(K:Fg0)(t:Bool)(H:Hp)(a:Addr)(xs:List V):Prop:=match t with
 |true=>jQ K H a xs
 |false=>iI K H a xs
section
variable {X:Cx}{pins:List (Addr×Obj)}{σ:L2.St}{H:Hp}{s:Shared}{t:Bool}{a b:Addr}{xs ys:List V}
theorem SqB.at_(I:Inv X pins σ H s)(q:SqB X.K t H a xs):∃its:List Value,Vals xs its/\isSq t s.heap a its.toArray:=by
 cases t with
 |false=>obtain⟨its,r,p,_⟩:=I.list q;exact⟨its,r,p.isList⟩
 |true=>obtain⟨its,r,p,_⟩:=I.tuple q;exact⟨its,r,p⟩
theorem SqB.inj(I:Inv X pins σ H s)(q:SqB X.K t H a xs)(r:SqB X.K t H a ys):xs=ys:=by
 cases t with
 |false=>exact I.list_inj q r
 |true=>exact I.tuple_inj q r
theorem Rd.ne(r:Rd H a u)(f:H b=none):a≠b:=by rintro rfl;rcases r with r|⟨_,r⟩<;>rw[f]at r<;>cases r
theorem yi(I:Inv X pins σ H s)(k:X.K.lookup a=some o)(f:iP X pins H b):a≠b:=by rintro rfl;have e:=I.mod.kin a o k;rcases f.2.2.2.1 with z|z;exact I.ok.noex a o e z;exact absurd (zj (zL e) (zf I.ok.bsz z)) (ZN _)
theorem SqB.ne(I:Inv X pins σ H s)(q:SqB X.K t H a xs)(f:iP X pins H b):a≠b:=by
 cases t with
 |false=>rcases q with q|⟨o,_,_,k,_⟩;exact Rd.ne q f.1;exact yi I k f
 |true=>rcases q with q|⟨o,_,_,k,_⟩;exact Rd.ne q f.1;exact yi I k f
theorem rA{fp:List Addr}{h':Heap}{t':Nat}{x y:V}{u v:Value}(I:Inv X pins σ H s)(hf:∀b∈fp,iP X pins H b)(k:∀b o,b∉fp->s.heap.get? b=some o->h'.get? b=some o)(hp:IsPair h' s.heap.objs.size u v)(ru:RelV x u)(rv:RelV y v) :
  Inv X pins σ (aW H s.heap.objs.size (.tup [x,y])) { s with heap:=h',toks:=t' }:=by
 have hn:=I.fresh
 have nz:∀c (o:HO),H c=some o->c≠s.heap.objs.size:=λc o e z=>by rw[z,hn]at e;cases e
 have lt:∀b o,s.heap.get? b=some o->b≠s.heap.objs.size:=λb o e=>zU (zL e)
 have nf:∀c (o:HO),H c=some o->c∉fp:=λc o e z=>by rw[(hf c z).1]at e;cases e
 refine I.step (g':=s.gens) (d':=s.drawn) (ch:=fp) (λb hb=>?_) (λb o _ _ hc e _=>k b o hc e) (λb o _ _ hc e _=>⟨o.slots,k b o hc e⟩) (λb o _ e n=>by rw[a6 (lt b o e)];exact n)
  (λb o hc e=>⟨o,k b o hc e⟩) (λb _ e=>by rw[a6 (nz b _ e)];exact e) (λb _ _ e=>by rw[a6 (nz b _ e)];exact e) (λb ps e=>⟨#[],by rw[a6 (nz b _ e),e];simp⟩) (λm hm=>?_) (λb o e=>?_) I.bare
 ·obtain⟨_,f1,_,f3,f4,f5⟩:=hf b hb
  exact⟨f3,f1,f4,f5⟩
 ·obtain⟨o,es,ep,ho,r⟩:=hm
  exact⟨o,es,ep,k _ o (λz=>(hf _ z).2.1 rfl) ho,r⟩
 ·by_cases hb:b=s.heap.objs.size
  ·subst hb
   rw[aE]at e
   cases e
   exact⟨by show 2<=sizeLine;decide,[u,v],.cons ru (.cons rv .nil),⟨_,hp,rfl,_,rfl⟩⟩
  ·rw[a6 hb]at e
   refine(I.hok b o e).stay (λc v hc q=>k c v ?_ q) (λc q=>by rw[a6 (nz c _ q)];exact q) λc _ q=>by rw[a6 (nz c _ q)];exact q
   grind
theorem kO{fp:List Addr}{h':Heap}{t':Nat}(I:Inv X pins σ H s)(hf:∀b∈fp,iP X pins H b)(k:∀b o,b∉fp->s.heap.get? b=some o->h'.get? b=some o):Inv X pins σ H { s with heap:=h',toks:=t' }:=by
 have nf:∀c (o:HO),H c=some o->c∉fp:=λc o e z=>by rw[(hf c z).1]at e;cases e
 refine I.step (g':=s.gens)  (ch:=fp) (λb hb=>?_) (λb o _ _ hc e _=>k b o hc e) (λb o _ _ hc e _=>⟨o.slots,k b o hc e⟩) (λb o _ e n=>n)
  (λb o hc e=>⟨o,k b o hc e⟩) (λb _ e=>e) (λb _ _ e=>e) (λb ps e=>⟨#[],by rw[e];simp⟩) (λm hm=>?_) (λb o e=>?_) I.bare
 ·obtain⟨_,f1,_,f3,f4,f5⟩:=hf b hb
  exact⟨f3,f1,f4,f5⟩
 ·obtain⟨o,es,ep,ho,r⟩:=hm
  exact⟨o,es,ep,k _ o (λz=>(hf _ z).2.1 rfl) ho,r⟩
 ·refine(I.hok b o e).stay (λc v hc q=>k c v ?_ q) (λc q=>q) λc _ q=>q
  grind
end
noncomputable def OL(K:Fg0)(t1 t2:Bool)(a b:Addr):L2.It :=
 ⟨λi H => ∃xs ys x y, SqB K t1 H a xs /\ SqB K t2 H b ys /\ xs[i]? = some x /\ ys[i]? = some y,
  λi H v H'=>∃p x y,H p=none/\v=.ref p/\H'=aW H p (.tup [x,y])/\(∀xs,SqB K t1 H a xs->xs[i]?=some x)/\∀ys,SqB K t2 H b ys->ys[i]?=some y,
  λi H => ∃xs ys, SqB K t1 H a xs /\ SqB K t2 H b ys /\ (xs.length <= i \/ ys.length <= i)⟩
noncomputable def Ot(K:Fg0)(t:Bool)(c:Int)(a:Addr):L2.It :=
 ⟨λi H => ∃xs x, SqB K t H a xs /\ xs[i]? = some x,
  λi H v H'=>∃p x,H p=none/\v=.ref p/\H'=aW H p (.tup [.int (c+i),x])/\∀xs,SqB K t H a xs->xs[i]?=some x,
  λi H => ∃xs, SqB K t H a xs /\ xs.length <= i⟩
def PM(t1 t2:Bool)(a b n:Addr)(i:Nat)(h:Heap):Prop:=IsZip h (n+4) (n+2) (n+3) .none/\IsPair h (n+2) (.ref n) (.ref (n+1))/\(∃u v,IsPair h (n+3) u v)/\isIt t1 h n a i/\isIt t2 h (n+1) b i
noncomputable abbrev Kj(n:Addr):List Addr:=[n+4,n+2,n+3,n,n+1]
theorem apart{n a b:Addr}(ha:∀c∈Kj n,a≠c)(hb:∀c∈Kj n,b≠c):ZipApart (n+4) (n+2) (n+3) n (n+1) a b:=by refine⟨?_,?_,?_,?_,?_,?_,?_,?_,?_,?_,ha _ ZzS,ha _ ZzS,ha _ ZzS,ha _ ZzS,hb _ ZzS,hb _ ZzS,hb _ ZzS,hb _ ZzS⟩<;>(simp)
theorem yH{P:Program}{w:World}{K:Fg0}(t1 t2)(a b n):Turn P w K (.Tuple es x1 pos) (OL K t1 t2 a b) (Kj n) (n+4) (PM t1 t2 a b n) where
 mem:=ZzS
 obj:=λi h ⟨q1,q2,⟨u,v,q3⟩,⟨o4,q4,_,d4⟩,⟨o5,q5,_,d5⟩⟩ c hc=>by grind
 keep:=λi h h' ⟨q1,q2,⟨u,v,q3⟩,q4,q5⟩ k=>⟨k _ ZzS _ q1,k _ ZzS _ q2,⟨u,v,k _ ZzS _ q3⟩,q4.on λo e=>k _ ZzS o e,q5.on λo e=>k _ ZzS o e⟩
 item:=by
  intro X hP hw hK hc i pins s σ H E I hf st hg;subst hP hw hK;obtain⟨xs,ys,x,y,s1,s2,ex,ey⟩:=hg;obtain⟨q1,q2,⟨u,v,q3⟩,q4,q5⟩:=st;obtain⟨is1,r1,p1⟩:=s1.at_ I;obtain⟨is2,r2,p2⟩:=s2.at_ I;obtain⟨ux,hux,rx⟩:=r1.get ex;obtain⟨uy,huy,ry⟩:=r2.get ey;have D:=apart (n:=n) (a:=a) (b:=b) (λc hc=>s1.ne I (hf c hc)) (λc hc=>s2.ne I (hf c hc));refine Ai D q1 q2 q3 q4 q5 p1 p2 (x:=ux) (y:=uy) (by simpa using hux) (by simpa using huy) λh' z1 z2 z3 z4 z5 kk=>⟨_,rfl,?_⟩;refine wpAny_letOwnedTupleGo_zip z1 λh2 y1 sb=>?_;have kz:∀c o,c∉Kj n->s.heap.get? c=some o->h2.get? c=some o:=λc o hc e=>sb.extBut _ _ (λz=>hc (by simp[z])) (kk c o (λz=>hc (by grind)) e);have hz:n+4<s.heap.objs.size:=zL q1;have I1:=rA (t':=s.toks) I hf kz (sb.extBut _ _ (ZO hz) z5) rx ry
  refine⟨.ref s.heap.objs.size,_,I1,rfl,⟨_,x,y,I.fresh,rfl,rfl,λzs hs=>by rw[SqB.inj I hs s1];exact ex,λzs hs=>by rw[SqB.inj I hs s2];exact ey⟩,
   ⟨y1,?_,⟨_,_,sb.extBut _ _ (by show @Ne Nat _ _;lia) z2⟩,z3.on λo e=>sb.extBut _ _ (by show @Ne Nat _ _;lia) e,z4.on λo e=>sb.extBut _ _ (by show @Ne Nat _ _;lia) e⟩,λb hb=>?_⟩
  refine sb.extBut _ _ (by show @Ne Nat _ _;lia) (kk _ _ ?_ q2);simp only[zS,Zr,zzM];rintro (z|z|z|z)<;>exact absurd z (by show @Ne Nat _ _;lia);have:b<s.heap.objs.size:=by grind
  rw[a6 (zU this)];exact(hf b hb).1
 done:=by
  intro X hP hw hK hc i pins s σ H E I hf st hg;subst hP hw hK;obtain⟨xs,ys,s1,s2,en⟩:=hg;obtain⟨q1,q2,⟨u,v,q3⟩,q4,q5⟩:=st;obtain⟨is1,r1,p1⟩:=s1.at_ I;obtain⟨is2,r2,p2⟩:=s2.at_ I;have D:=apart (n:=n) (a:=a) (b:=b) (λc hc=>s1.ne I (hf c hc)) (λc hc=>s2.ne I (hf c hc));have l1:=r1.length;have l2:=r2.length
  refine yG (I.ok.hd hc) D q1 q2 q3 q4 q5 p1 p2 (by simp;lia) λh' kk=>⟨rfl,kO (t':=s.toks) I hf λc o hc e=>kk c o (λz=>hc (by
   simp only[zS,Zr,zzM]at z ⊢
   rcases z with z|z|z|z
   ·exact .inl z
   ·exact .inr (.inr (.inl z))
   ·exact .inr (.inr (.inr (.inl z)))
   ·exact .inr (.inr (.inr (.inr z))))) e⟩
 self:=λA i s Q E st h=>wpAny_pyIter_zip st.1 h
def Q7(t:Bool)(c:Int)(a n:Addr)(i:Nat)(h:Heap):Prop:=(∃old,IsEnum h (n+1) n (c+i) old)/\isIt t h n a i
theorem vJ{P:Program}{w:World}{K:Fg0}(t)(c)(a n):Turn P w K (.Tuple es x1 pos) (Ot K t c a) [n+1,n] (n+1) (Q7 t c a n) where
 mem:=ZzS
 obj:=λi h ⟨⟨old,q1⟩,⟨o2,q2,_,d2⟩⟩ b hb=>by grind
 keep:=λi h h' ⟨⟨old,q1⟩,q2⟩ k=>⟨⟨old,k _ ZzS _ q1⟩,q2.on λo e=>k _ ZzS o e⟩
 item:=by
  intro X hP hw hK hc i pins s σ H E I hf st hg;subst hP hw hK;obtain⟨xs,x,s1,ex⟩:=hg;obtain⟨⟨old,q1⟩,q2⟩:=st;obtain⟨is1,r1,p1⟩:=s1.at_ I;obtain⟨ux,hux,rx⟩:=r1.get ex;refine wN q1 q2 p1 (x:=ux) (by simpa using hux) (by show @Ne Nat _ _;lia) λh' tk z1 z2 z3 kk=>⟨_,rfl,?_⟩;refine wpAny_letOwnedTupleGo_enum z1 λh2 y1 sb=>?_;have kz:∀c o,c∉[n+1,n]->s.heap.get? c=some o->h2.get? c=some o:=λc o hc e=>sb.extBut _ _ (λz=>hc (by simp[z])) (kk c o hc e);have hz:n+1<s.heap.objs.size:=zL q1;have I1:=rA (t':=tk+1) (x:=.int (c+i)) I hf kz (sb.extBut _ _ (ZO hz) z3) ⟨_,rfl⟩ rx;refine⟨.ref s.heap.objs.size,_,I1,rfl,⟨_,x,I.fresh,rfl,rfl,λzs hs=>by rw[SqB.inj I hs s1];exact ex⟩,⟨⟨ux,?_⟩,z2.on λo e=>sb.extBut _ _ (by show @Ne Nat _ _;lia) e⟩,λb hb=>?_⟩;have e:(c+((i+1:Nat):Int))=c+(i:Int)+1:=ZzL;rw[e];exact y1;have:b<s.heap.objs.size:=by have hb':=hb;simp only[zS,Zr,zzM]at hb';have hz':@LT.lt Nat _ (n+1) s.heap.objs.size:=hz;rcases hb' with rfl|rfl<;>(show @LT.lt Nat _ _ _;lia)
  rw[a6 (zU this)];exact(hf b hb).1
 done:=by intro X hP hw hK hc i pins s σ H E I hf st hg;subst hP hw hK;obtain⟨xs,s1,en⟩:=hg;obtain⟨⟨old,q1⟩,q2⟩:=st;obtain⟨is1,r1,p1⟩:=s1.at_ I;have l1:=r1.length;exact vI (I.ok.hd hc) q1 q2 p1 (by simp;lia) λh' kk=>⟨rfl,kO (t':=s.toks) I hf λc o hc e=>kk c o (λz=>hc (by simp[z])) e⟩
 self:=λA i s Q E ⟨⟨_,q1⟩,_⟩ h=>wpAny_pyIter_enum q1 h
section
variable {P:Program}{w:World}{A:Around}{E:Value->Shared->Prop}{s:Shared}
noncomputable abbrev E1(tk:Tok):List (Str×Value):=[("start",.int 1 tk)]
theorem rS(t)(tk0)(l)(its)(n)(dct)(sl : Array (Option Value)) : Meets (Builtin.«enumerate.__new__» ⟨[.type "enumerate", .ref l], E1 tk0⟩) (λ_ R s => s.heap.get? l = some { cls := .type (N9 t), dict := dct, data := .seq its n, slots := sl } /\
   R (.ok (.ret (.ref (DJ t s.heap l).objs.size))) { s with heap:=(DJ t s.heap l).push { cls:=.type "enumerate",data:=.fields #[.none,.bool false,.ref s.heap.objs.size,rawInt 1,.none,.none] } }) :=
 .of_wp λP w A R s h=>by
  obtain⟨hp,g,d,tk,os⟩:=s
  obtain⟨c1,h⟩:=h
  have hsub:=sub_enumerate
  have m1:isSq t (Shared.heap ⟨hp,g,d,tk,os⟩) l its:=⟨_,c1,rfl,n,rfl⟩
  wp_walk using zzW c1
  refine wpAny_stack_any λst=>zH ?_
  split
  ·rename_i c _ _ _ _ _
   cases (c==Value.type "enumerate")<;>(wp_walk using zzW c1,kB m1;exact⟨_,rfl,h⟩)
  ·wp_walk using zzW c1,kB m1
   exact⟨_,rfl,h⟩
theorem CK(a b)(tk):argsOk "object.__init__" ⟨[a,b],E1 tk⟩:=by rfl
theorem rL:Meets (Builtin.«object.__init__» ⟨[o,x],E1 tk⟩) (λ_ R s=>s.TypeIs o "enumerate"/\R (.ok (.ret .none)) s):=by
 refine Meets.of_wp λP w A R s hs=>?_;obtain⟨hT,hq⟩:=hs;have hl:=F.called_enumerate.init.lookup;have hm:=F.called_enumerate.made;repeat (any_goals (first|rfl|wp_step))
 simp_all
theorem tf{t:Bool}{tk:Tok}{l:Addr}{its:Array Value}{Q:Value->Shared->Prop}(c:isSq t s.heap l its)
  (q:∀h',IsEnum h' (s.heap.objs.size+1) s.heap.objs.size 1 .none->isIt t h' s.heap.objs.size l 0->(∀c o,s.heap.get? c=some o->h'.get? c=some o)->Q (.ref (s.heap.objs.size+1)) { s with heap:=h' }):wpAny (model P w) A (call (.type "enumerate") [.ref l] (E1 tk)) Q E s:=by
 obtain⟨⟨cl,dct,dt,sl⟩,el,hc,n,hd⟩:=c
 replace hc:cl=.type (N9 t):=hc
 replace hd:dt=.seq its n:=hd
 subst hc hd
 have ft:=F.called_enumerate
 have hct:checkTypeCall "enumerate" ⟨[.ref l],E1 tk⟩=pure ():=by kernel_rfl
 have hcn:checkBuiltinCall "enumerate.__new__" ⟨[.type "enumerate",.ref l],E1 tk⟩=pure ():=by kernel_rfl
 obtain⟨c,tl,hmro⟩:=ft.mro
 have hmade:=ft.made
 have hsub:=ft.sub
 refine wpAny_call (codeAny_of_tree ?_)
 show wpAny _ _ (callAny (.type "enumerate") _) _ _ _
 refine zH ⟨zz0 _ (by decide +kernel),zzg F.entry_type_call ?_⟩
 rw[Around.under_plain (weight_type_call_type "enumerate" [.ref l] (E1 tk)) (units_type_call_type "enumerate" [.ref l] (E1 tk))]
 have h1:=ft.notType
 have h2:=ft.canCreate
 repeat (any_goals (first|assumption|wp_step))
 have n1:(DJ t s.heap l).objs.size=s.heap.objs.size+1:=ZW ..
 have g2:((DJ t s.heap l).push { cls:=.type "enumerate",data:=.fields #[.none,.bool false,.ref s.heap.objs.size,rawInt 1,.none,.none] }).get? (DJ t s.heap l).objs.size=some _:=zG _ rfl
 rw[n1]at g2
 refine zzw (zzl ft.plain F.entry_enumerate_new (wpAny_of_eq hcn (rS t tk l its n dct sl P w A.in1 (wants (λobj s1=>s1.TypeIs obj "enumerate"/\Q obj s1) E) s ⟨el,?_⟩))) λr s1 hr=>?_
 ·show _/\_
  rw[n1]
  exact⟨⟨_,g2,rfl⟩,q _ g2 ⟨_,hps0 _ (zG _ rfl),rfl,rfl⟩ λc o x=>hps0 _ (hps0 _ x)⟩
 cases r with
 |error e=>exact hr
 |ok fl =>
  cases fl with
  |ret obj =>
   obtain⟨hT,hQ⟩:=hr
   have hli:=ft.init.lookup
   have hbi:=ft.init.bind obj
   repeat (any_goals (first|assumption|wp_step))
   refine zzw (zzl ft.init.plain F.entry_object_init (ft.init.check _ _ _ _ _ _ _ _ hT (CK obj _ tk) (rL P w A.in1 (wants (λr s2=>r=.none/\Q obj s2) E) s1 ⟨hT,rfl,hQ⟩))) λr2 s2 h3=>?_
   cases r2 with
   |error e=>exact h3
   |ok fl2 =>
    cases fl2 with
    |ret r =>
     obtain⟨rfl,hq⟩:=h3
     repeat (any_goals (first|assumption|wp_step))
    |_=>exact h3.elim
  |_=>exact hr.elim
end
def FX:cb:=λ_ _ _ _=>False
theorem RelE.weak{K:Fg0}(r:RelE K ρ H σ' τ)(hl:σ.length=σ'.length)(h:∀(i:Nat) (w:W),σ[i]?=some (some w)->σ'[i]?=some (some w)):RelE K ρ H σ τ :=
 ⟨hl.trans r.len,λi w e=>r.at_ i w (h i w e)⟩
theorem sO{σ:ag}(hn:∀u,σ[i]?≠some (some u)):(σ.set i (some w)).length=σ.length/\∀(j:Nat) (u:W),σ[j]?=some (some u)->(σ.set i (some w))[j]?=some (some u) :=
 ⟨ZzS,λj u e=>by
  have hij:i≠j:=by rintro rfl;simp_all
  simp_all⟩
theorem jI:∀{is:List Nat}{ws:List W}{σ σ':ag},cY is ws σ=some σ'->σ'.length=σ.length/\∀(j:Nat) (u:W),j∉is->σ[j]?=some (some u)->σ'[j]?=some (some u)
 |[],[],σ,σ',e=>by cases e;simp_all
 |[],_::_,_,_,e=>by cases e
 |_::_,[],_,_,e=>by cases e
 |i::is,w::ws,σ,σ',e=>by
  obtain⟨h1,h2⟩:=jI  (ws:=ws) e
  refine⟨by simp_all,λj u hj z=>h2 j u (λm=>hj (zB _ m)) ?_⟩
  grind
theorem yU{is:List Nat}(e:aV is w σ=some σ')(hn:∀i∈is,∀u,σ[i]?≠some (some u)):σ'.length=σ.length/\∀(j:Nat) (u:W),σ[j]?=some (some u)->σ'[j]?=some (some u):=by
 unfold aV at e
 split at e
 ·rename_i i
  cases e
  exact sO (hn i ZzS)
 ·split at e
  ·obtain⟨h1,h2⟩:=jI e
   grind
  ·obtain⟨h1,h2⟩:=jI e
   grind
  ·cases e
open Classical in
theorem i9{K:Fg0}{EX:cb}{ρ1:List Addr}{h1:aa}{H1:Hp}{σ0:ag}{τ0:L2.St}{J:L2.It}{ws:List W}{src:Option Nat}{is:List Nat}{ts:ag->aa->Res Bool}{ev:ag->aa->Res W}{Q:VK}
  (re:RelE K ρ1 H1 σ0 τ0) (hr:HRel K ρ1 h1 H1) (hsrc:∀k,src=some k->k<h1.length)
  (ok:∀ρ h H i,Ext ρ1 H1 ρ H->HRel K ρ h H->(∀k,src=some k->h[k]?=h1[k]?)->(i=ws.length->J.stop i H)/\∀w,ws[i]?=some w->J.go i H/\∀x H',J.yld i H x H'->Ext ρ H ρ H'/\HRel K ρ h H'/\Rel K ρ H' w x)
  (hcl:∀i∈is,∀u,σ0[i]?≠some (some u))
  (q:RQ K EX ρ1 H1 (jG h1.length (lc h1.length src (λw h=>cA (aV is w σ0) ts ev h) ws (h1++[.lst []]))) λw _ ρ' H'=>∀v,Rel K ρ' H' w v->Q v H') :
  ∀D,H1 D=none->eY D J (kE K is) (fC K FX ts) (tI K FX ev) Q τ0 H1:=by
 intro D hD
 generalize hR:jG h1.length (lc h1.length src (λw h=>cA (aV is w σ0) ts ev h) ws (h1++[.lst []]))=R0 at q
 have hl1:ρ1.length=h1.length:=hr.len
 have hD1:D∉ρ1:=hr.new hD
 refine⟨λi m τ H=>m=ws.length-i/\i<=ws.length/\∃ρ h,Ext ρ1 H1 ρ H/\ρ[h1.length]?=some D/\RelE K ρ H σ0 τ/\HRel K ρ h H/\(∀k,src=some k->h[k]?=h1[k]?) /\
  jG h1.length (lc h1.length src (λw h=>cA (aV is w σ0) ts ev h) (ws.drop i) h)=R0,⟨ws.length,ZzS,ZQ _,ρ1++[D],h1++[.lst []],ext_cell hr hD,?_,re.ext (ext_cell hr hD),hr.cell (ws:=[]) (xs:=[]) hD (by rw[ah]) .nil,?_,by rw[zzu];exact hR⟩,?_⟩
 ·rw[zK ZzL,hl1];simp
 ·intro k hk
  rw[zI (hsrc k hk)]
 rintro i m τ H ⟨rfl,hi,ρ,h,x,hD2,re2,hr2,hk,hq⟩
 obtain⟨ok1,ok2⟩:=ok ρ h H i x hr2 hk
 by_cases hlt:i<ws.length
 ·refine .inr ?_
  obtain⟨go,yl⟩:=ok2 ws[i] (zJ hlt)
  refine⟨go,λv H' y=>?_⟩
  obtain⟨xe,hr2',rv⟩:=yl v H' y
  replace x:=x.trans xe
  replace re2:=re2.ext xe
  clear ok1 ok2 yl go
  replace hr2:=hr2'
  rw[zzR hlt,lc]at hq
  cases eb:aV is ws[i] σ0 with
  |none =>
   rw[eb]at hq
   have:R0=.stuck:=hq.symm
   rw[this]at q;exact q.elim
  |some σ1 =>
   rw[eb]at hq
   obtain⟨u1,u2⟩:=yU eb hcl
   refine⟨ρ,σ0,ws[i],σ1,re2,rv,eb,λτ' re'=>⟨ρ,σ1,h,re',hr2,?_⟩⟩
   have re0:RelE K ρ _ σ0 τ':=re'.weak u1.symm u2
   unfold cA at hq
   dsimp only at hq
   cases et:ts σ1 h with
   |stuck =>
    rw[et]at hq
    have:R0=.stuck:=hq.symm
    rw[this]at q;exact q.elim
   |exc c h3 =>
    rw[et]at hq
    have:R0=.stuck:=hq.symm
    rw[this]at q;exact q.elim
   |ok b h3 =>
    rw[et]at hq
    intro ρ3 H3 x3 hr3
    cases b with
    |false =>
     refine qM ?_
     have hq':jG h1.length (if(∀k,src=some k->h3[k]?=h[k]?) then lc h1.length src (λw h=>cA (aV is w σ0) ts ev h) (ws.drop (i+1)) h3 else .stuck)=R0:=hq
     by_cases hg:∀k,src=some k->h3[k]?=h[k]?
     ·rw[zF hg]at hq'
      exact⟨ws.length-(i+1),ZzL,rfl,hlt,ρ3,h3,x.trans x3,x3.at hD2,re0.ext x3,hr3,λk e=>(hg k e).trans (hk k e),hq'⟩
     ·rw[zM hg]at hq'
      have:R0=.stuck:=hq'.symm
      rw[this]at q;exact q.elim
    |true =>
     refine rq ⟨ρ3,σ1,h3,re'.ext x3,hr3,?_⟩
     have hq1:jG h1.length (bnd (bnd (ev σ1 h3) λw h=>Res.ok (some w) h) λo h'=>if(∀k,src=some k->h'[k]?=h[k]?) then(match o with
       |none=>lc h1.length src (λw h=>cA (aV is w σ0) ts ev h) (ws.drop (i+1)) h'
       |some u=>match h'[h1.length]? with
        |some (.lst us)=>if ak u=true/\us.length<sizeLine then lc h1.length src (λw h=>cA (aV is w σ0) ts ev h) (ws.drop (i+1)) (h'.set h1.length (.lst (us++[u]))) else .stuck
        |_=>.stuck) else .stuck)=R0:=hq
     cases ee:ev σ1 h3 with
     |stuck =>
      rw[ee]at hq1
      have:R0=.stuck:=hq1.symm
      rw[this]at q;exact q.elim
     |exc c h4 =>
      rw[ee]at hq1
      have:R0=.stuck:=hq1.symm
      rw[this]at q;exact q.elim
     |ok u h4 =>
      rw[ee]at hq1
      intro ρ4 H4 x4 hr4 y ry
      have hq2:jG h1.length (if(∀k,src=some k->h4[k]?=h[k]?) then(match h4[h1.length]? with
        |some (.lst us)=>if ak u=true/\us.length<sizeLine then lc h1.length src (λw h=>cA (aV is w σ0) ts ev h) (ws.drop (i+1)) (h4.set h1.length (.lst (us++[u]))) else .stuck
        |_=>.stuck) else .stuck)=R0:=hq1
      by_cases hg:∀k,src=some k->h4[k]?=h[k]?
      ·rw[zF hg]at hq2
       have hD4:=x4.at (x3.at hD2)
       split at hq2
       ·rename_i us eu
        obtain⟨pu,ys,hy,rs⟩:=hr4.at_ _ D _ hD4 eu
        by_cases hp:ak u=true/\us.length<sizeLine
        ·rw[zF hp]at hq2
         refine⟨ys,hy,by rw[<- rs.length];exact hp.2,ws.length-(i+1),ZzL,rfl,hlt,ρ4,h4.set h1.length (.lst (us++[u])),?_,hD4,?_,hr4.write hD4 (bx pu hp.1) (rs.append (.cons ry .nil)),?_,hq2⟩
         ·exact((x.trans x3).trans x4).trans (ext_write hD4)
         ·exact((re0.ext x3).ext x4).ext (ext_write hD4)
         ·intro k e
          rw[zY (ZO (hsrc k e))]
          exact(hg k e).trans (hk k e)
        ·rw[zM hp]at hq2
         have:R0=.stuck:=hq2.symm
         rw[this]at q;exact q.elim
       ·have:R0=.stuck:=hq2.symm
        rw[this]at q;exact q.elim
      ·rw[zM hg]at hq2
       have:R0=.stuck:=hq2.symm
       rw[this]at q;exact q.elim
 ·have ei:i=ws.length:=ZzL
  refine .inl ⟨ok1 ei,?_⟩
  rw[ei,zzQ,lc]at hq
  unfold jG at hq
  dsimp only at hq
  split at hq
  ·rename_i us eu
   obtain⟨pu,ys,hy,rs⟩:=hr2.at_ _ D _ hD2 eu
   subst hq
   refine q ρ1 H x.cut (hr2.cut x hl1) _ ?_
   rw[Rel]
   exact⟨D,ys,rfl,hD1,hy,RelL.less (λb hb=>x.pre.subset hb) us ys pu rs⟩
  ·subst hq;exact q.elim
open Classical in
theorem fh{K:Fg0}{EX:cb}{ρ1:List Addr}{h1:aa}{H1:Hp}{σ0:ag}{τ0:L2.St}{J:L2.It}{ws:List W}{src:Option Nat}{is:List Nat}{ts:ag->aa->Res Bool}{ev:ag->aa->Res W}{Q:VK}
  (re:RelE K ρ1 H1 σ0 τ0) (hr:HRel K ρ1 h1 H1) (hsrc:∀k,src=some k->k<h1.length)
  (ok:∀ρ h H i,Ext ρ1 H1 ρ H->HRel K ρ h H->(∀k,src=some k->h[k]?=h1[k]?)->(i=ws.length->J.stop i H)/\∀w,ws[i]?=some w->J.go i H/\∀x H',J.yld i H x H'->H'=H/\Rel K ρ H w x)
  (hcl:∀i∈is,∀u,σ0[i]?≠some (some u))
  (q:RQ K EX ρ1 H1 (jG h1.length (lc h1.length src (λw h=>cA (aV is w σ0) ts ev h) ws (h1++[.lst []]))) λw _ ρ' H'=>∀v,Rel K ρ' H' w v->Q v H') :
  ∀D,H1 D=none->eY D J (kE K is) (fC K FX ts) (tI K FX ev) Q τ0 H1 :=
 i9 re hr hsrc (λρ h H i x hr hk=>⟨(ok ρ h H i x hr hk).1,λw e=>⟨((ok ρ h H i x hr hk).2 w e).1,λv H' y=>by
  obtain⟨e',r⟩:=((ok ρ h H i x hr hk).2 w e).2 v H' y
  subst e'
  exact⟨Ext.refl,hr,r⟩⟩⟩) hcl q
theorem kC:∀(is:List Nat) (σ:List (Option α)),(kA is σ).length=σ.length
 |[],_=>rfl
 |i::is,σ=>by rw[kA,kC is];simp
theorem xV:∀{is:List Nat}{σ:List (Option α)}{i:Nat}{w:α},(kA is σ)[i]?=some (some w)->i∉is/\σ[i]?=some (some w)
 |[],_,_,_,h=>⟨ZzS,h⟩
 |j::is,σ,i,w,h=>by rw[kA]at h;obtain⟨h1,h2⟩:=xV h;by_cases hij:j=i;rw[List.getElem?_set]at h2;simp_all;rw[zY hij]at h2;exact⟨λm=>(zS.mp m).elim (λe=>hij e.symm) h1,h2⟩
theorem uc:∀{is:List Nat}{σ:List (Option α)}{i:Nat},i∉is->(kA is σ)[i]?=σ[i]?
 |[],_,_,_=>rfl
 |j::is,σ,i,h=>by rw[kA,uc λm=>h (zB _ m),zY (by grind)]
noncomputable abbrev i8{α:Type}(is:List Nat)(n:Nat)(σ:List (Option α)):List (Option α):=kA is σ++List.replicate n none
theorem oW{α:Type}{is:List Nat}{n:Nat}{σ:List (Option α)}{i:Nat}{w:α}(h:(i8 is n σ)[i]?=some (some w)):i∉is/\σ[i]?=some (some w):=by by_cases hi:i<(kA is σ).length;rw[zI hi]at h;exact xV h;rw[zK (by simp_all),zz3]at h;simp_all
theorem fL{α:Type}{is:List Nat}{n:Nat}{σ:List (Option α)}:∀i∈is,∀u,(i8 is n σ)[i]?≠some (some u):=λi hi u e=>(oW e).1 hi
theorem dH{K:Fg0}(r:RelE K ρ H σ τ):RelE K ρ H (i8 is n σ) (i8 is n τ):=by
 refine⟨by simp[kC,r.len],λi w e=>?_⟩;obtain⟨h1,h2⟩:=oW e;obtain⟨v,h3,h4⟩:=r.at_ i w h2;refine⟨v,?_,h4⟩;have hi:i<(kA is τ).length:=by rw[kC];grind
 rw[zI hi,uc h1];lia
theorem uN(hl:τ.length=N.length)(hn:N'.length=N.length+n)(ho:∀i x,N[i]?=some x->x∈own->i∈is):BlkSt N N' own τ (i8 is n τ):=by
 refine⟨by simp[kC,hl,hn],λi v e=>?_⟩;obtain⟨h1,h2⟩:=oW e;have hi:i<N.length:=by rw[<- hl];grind
 exact⟨N[i],zJ hi,λm=>h1 (ho i _ (zJ hi) m),h2⟩
section
variable {X:Cx}{EX:cb}{cf:CF}{fw:Nat}{pos:Pos}{a b c e:Expr}{a' b' c' e':E}{is:List Nat}{n:Nat}{ifs':List E}{elt':E}
theorem Eg{K:Fg0}(hr:HRel K ρ1 h1 H1)(e:seqA h1 w=some ws)(r:Rel K ρ1 H1 w v) :
  (∀k,lH w=some k->k<h1.length)/\∃p,v=.ref p/\(((∃xs,iI K H1 p xs)/\∀ρ h H i,Ext ρ1 H1 ρ H->HRel K ρ h H->(∀k,lH w=some k->h[k]?=h1[k]?)->(i=ws.length->(v8 K p).stop i H)/\∀w,ws[i]?=some w->(v8 K p).go i H/\∀x H',(v8 K p).yld i H x H'->H'=H/\Rel K ρ H w x) \/
   ((∃xs,jQ K H1 p xs)/\∀ρ h H i,Ext ρ1 H1 ρ H->HRel K ρ h H->(∀k,lH w=some k->h[k]?=h1[k]?)->(i=ws.length->(yc K p).stop i H)/\∀w,ws[i]?=some w->(yc K p).go i H/\∀x H',(yc K p).yld i H x H'->H'=H/\Rel K ρ H w x)):=by
 have lists:∀(p:Addr) (ρ:List Addr) (h:aa) (H:Hp) (i:Nat) (xs:List V),iI K H p xs->RelL K ρ H ws xs->(i=ws.length->(v8 K p).stop i H)/\∀w,ws[i]?=some w->(v8 K p).go i H/\∀x H',(v8 K p).yld i H x H'->H'=H/\Rel K ρ H w x:=by intro p ρ h H i xs hq rs;refine⟨λei=>⟨xs,hq,by rw[<- rs.length];lia⟩,λw' ew=>?_⟩;obtain⟨x,hx,rx⟩:=rs.get ew;refine⟨⟨xs,x,hq,hx⟩,λy H' ⟨e1,e2⟩=>⟨e1,?_⟩⟩;have:=e2 xs hq;rw[hx]at this;cases this;exact rx
 have tups:∀(p:Addr) (ρ:List Addr) (h:aa) (H:Hp) (i:Nat) (xs:List V),jQ K H p xs->RelL K ρ H ws xs->(i=ws.length->(yc K p).stop i H)/\∀w,ws[i]?=some w->(yc K p).go i H/\∀x H',(yc K p).yld i H x H'->H'=H/\Rel K ρ H w x:=by intro p ρ h H i xs hq rs;refine⟨λei=>⟨xs,hq,by rw[<- rs.length];lia⟩,λw' ew=>?_⟩;obtain⟨x,hx,rx⟩:=rs.get ew;refine⟨⟨xs,x,hq,hx⟩,λy H' ⟨e1,e2⟩=>⟨e1,?_⟩⟩;have:=e2 xs hq;rw[hx]at this;cases this;exact rx
 cases w with
 |tup us =>
  rw[Rel]at r
  obtain⟨p,xs,rfl,hq,rs⟩:=r
  cases (show us=ws from zW e)
  exact⟨λk ek=>(by cases ek),p,rfl,.inr ⟨⟨xs,hq.sq⟩,λρ h H i x _ _=>tups p ρ h H i xs (hq.ext x).sq (RelL.ext x _ _ rs)⟩⟩
 |scr us =>
  rw[Rel]at r
  obtain⟨p,xs,rfl,hq,rs⟩:=r
  cases (show us=ws from zW e)
  exact⟨λk ek=>(by cases ek),p,rfl,.inl ⟨⟨xs,hq.sq⟩,λρ h H i x _ _=>lists p ρ h H i xs (hq.ext x).sq (RelL.ext x _ _ rs)⟩⟩
 |lst us =>
  rw[Rel]at r
  obtain⟨p,xs,rfl,hn,hq,rs⟩:=r
  cases (show us=ws from zW e)
  exact⟨λk ek=>(by cases ek),p,rfl,.inl ⟨⟨xs,.inl (.inl hq)⟩,λρ h H i x _ _=>lists p ρ h H i xs (.inl (.inl (x.keepN hq hn (λ_ z=>by cases z)))) (RelL.ext x _ _ rs)⟩⟩
 |ref k =>
  rw[Rel]at r
  obtain⟨p,rfl,hk⟩:=r
  have e':(match h1[k]? with|some (.lst ws)=>some ws|_=>none)=some ws:=e
  split at e'<;>try (cases e';done)
  rename_i us eu
  cases e'
  obtain⟨_,xs,hx,rs⟩:=hr.at_ k p _ hk eu
  refine⟨λk' ek=>(by cases ek;exact(ze.mp eu).1),p,rfl,.inl ⟨⟨xs,.inl (.inl hx)⟩,λρ h H i x hr' hs=>?_⟩⟩
  obtain⟨_,xs',hx',rs'⟩:=hr'.at_ k p _ (x.at hk) (by rw[hs k rfl];exact eu)
  exact lists p ρ h H i xs' (.inl (.inl hx')) rs'
 |_=>cases e
theorem DH{K:Fg0}:∀ρ h H i,Ext ρ1 H1 ρ H->HRel K ρ h H->(i=(iT z).length->(IK z).stop i H)/\∀w,(iT z)[i]?=some w->(IK z).go i H/\∀x H',(IK z).yld i H x H'->H'=H/\Rel K ρ H w x:=by intro ρ h H i _ _;refine⟨λe=>by show i=z.cps.size;rw[e];simp[iT],λw e=>?_⟩;unfold iT at e;rw[zT]at e;obtain⟨c,ec,rfl⟩:=Zg.mp e;rw[Array.getElem?_toList]at ec;refine⟨(Array.getElem?_eq_some_iff.mp ec).1,λy H' ⟨e2,c',e3,e4⟩=>⟨e2,?_⟩⟩;rw[ec]at e3;cases e3;assumption
theorem tM{τ:L2.St}{H:Hp}{Q:VK}{K:Fg0}(q:tI K EX (evE cf (.compS is n a' ifs' elt')) τ H Q) :
  DP K (tI K EX (evE cf a')) τ H λJ H1=>∀D,H1 D=none->eY D J (kE K is) (fC K FX (evTs cf ifs')) (tI K FX (evE cf elt')) Q (i8 is n τ) H1:=by
 obtain⟨ρ,σ,h,re,hr,q⟩:=q
 rw[evE]at q
 refine⟨ρ,σ,h,re,hr,q.bnd.mono λw h1 ρ1 H1 x1 hr1 q1 v r=>?_⟩
 split at q1
 ·rename_i ws e
  by_cases hz:∃z,w=.str z
  ·obtain⟨z,rfl⟩:=hz
   unfold Dp at e
   dsimp only at e
   split at e
   ·cases e
    cases aB r
    exact .inl ⟨z,rfl,fh (src:=none) (dH (re.ext x1)) hr1 (λk e=>by cases e) (λρ h H i x hr _=>DH ρ h H i x hr) fL q1⟩
   ·cases e
  ·have e':seqA h1 w=some ws:=by cases w<;>first|exact e|exact absurd ⟨_,rfl⟩ hz
   obtain⟨hs,p,rfl,hq⟩:=Eg hr1 e' r
   refine .inr ⟨p,rfl,?_⟩
   rcases hq with⟨hx,hq⟩|⟨hx,hq⟩
   ·exact .inl ⟨hx,fh (dH (re.ext x1)) hr1 hs hq fL q1⟩
   ·exact .inr ⟨hx,fh (dH (re.ext x1)) hr1 hs hq fL q1⟩
 ·exact q1.elim
theorem uQ{K:Fg0}{lo:Int}:∀ρ h H i,Ext ρ1 H1 ρ H->HRel K ρ h H->(∀k,(none:Option Nat)=some k->h[k]?=([]:aa)[k]?) ->
  (i=((List.range m).map λ(k:Nat)=>W.int (lo+(k:Int))).length->(wC lo m).stop i H)/\∀w,((List.range m).map λ(k:Nat)=>W.int (lo+(k:Int)))[i]?=some w->(wC lo m).go i H/\∀x H',(wC lo m).yld i H x H'->H'=H/\Rel K ρ H w x:=by
 intro ρ h H i x hr _
 refine⟨λe=>by show m<=i;simp_all,λw e=>?_⟩
 rw[zT]at e
 cases e1:(List.range m)[i]? with
 |none=>rw[e1]at e;cases e
 |some k =>
  rw[e1]at e
  obtain⟨hi,ek⟩:=ze.mp e1
  have hi':i<m:=by simpa using hi
  have ek':k=i:=by simpa using ek.symm
  subst ek'
  cases e
  exact⟨hi',λy H' ⟨e2,e3⟩=>⟨e2,by subst e3;exact bh⟩⟩
def Hm(X:Cx)(cf:CF)(N':List Str)(sc:Scope)(tg:Expr)(is:List Nat)(ifs:List Expr)(ifs':List E)(elt:Expr)(elt':E):Prop :=
 ∀cl C fp s H,PG (blk X N' sc cl C fp s H) tg (kE X.K is)/\Li (blk X N' sc cl C fp s H) ifs (fC X.K FX (evTs cf ifs'))/\PE (blk X N' sc cl C fp s H) elt (tI X.K FX (evE cf elt'))
variable {tg elt:Expr}{ifs:List Expr}{N' own:List Str}{sc:Scope}{ce:E}{wi:TI}
theorem y7(hc:X.calm=true)(hi:PI X tg a wi)(hp:cq a=true)(B:BlkOk X.env.scope X.N N' sc own)(hn:N'.length=X.N.length+n)(ho:∀(i:Nat) (x:Str),X.N[i]?=some x->x∈own->i∈is)
  (hb:Hm X cf N' sc tg is ifs ifs' elt elt') (hq:∀τ H Q,tI X.K EX (evE cf ce) τ H Q->wi τ H λJ H1=>∀D,H1 D=none->eY D J (kE X.K is) (fC X.K FX (evTs cf ifs')) (tI X.K FX (evE cf elt')) Q (i8 is n τ) H1) :
  PE X (.ListComp elt [⟨tg,a,ifs,0⟩] sc pos) (tI X.K EX (evE cf ce)):=by
 intro pins s τ H Q I q
 exact wpAny_comprehension_free  rfl (kf hp _) (kL (lK I B)) B.kind B.loc (mE  hc hi B (uN I.len hn ho) hb I (hq τ H Q q) (λD C H' s' m' I' f hn' q'=>(⟨m',hn',λh' hs=>⟨.ref D,H',I'.turned  (λb o hb e=>hs.extBut b o hb e) f.1 f.2.1 f.2.2.2.1 f.2.2.2.2.1 f.2.2.2.2.2,rfl,q'⟩⟩)) rfl)
theorem F8(hN:X.N.Nodup)(hix:X.N[i]?=some x)(hx:sJ X.env.scope x)(hf:X.fn x=true\/X.env.scope.names.lookup x=some .local)
  (hc:X.calm=true) (hi:PI X tg a wi) (hp:cq a=true) (B:BlkOk X.env.scope X.N N' sc own) (hn:N'.length=X.N.length+n) (ho:∀(i:Nat) (x:Str),X.N[i]?=some x->x∈own->i∈is)
  (hb:Hm X cf N' sc tg is ifs ifs' elt elt') (hq:∀τ H Q,tI X.K EX (evE cf ce) τ H Q->wi τ H λJ H1=>∀D,H1 D=none->eY D J (kE X.K is) (fC X.K FX (evTs cf ifs')) (tI X.K FX (evE cf elt')) Q (i8 is n τ) H1) :
  PS X (.Assign [.Name x p] (.ListComp elt [⟨tg,a,ifs,0⟩] sc pos) spos) (dg X.K EX (exS cf fw (.asg i ce))):=by
 have key:∀D τ H,dg X.K EX (exS cf fw (.asg i ce)) D τ H->tI X.K EX (evE cf ce) τ H λv H1=>D.nx (τ.set i (some v)) H1:=λD τ H zq=>by obtain⟨ρ,σ,h,re,hr,q⟩:=zq;rw[exS]at q;exact⟨ρ,σ,h,re,hr,q.bnd.mono λw h1 ρ1 H1 x1 hr1 q1 v r=>RQ.here hr1 q1 _ ((re.ext x1).set i r)⟩
 have sw:∃k,swapsWith (.ListComp elt [⟨tg,a,ifs,0⟩] sc pos) (some (.Name x p)) spos.line X.env=pure k:=⟨_,rfl⟩
 obtain⟨k,hk⟩:=sw
 cases k with
 |false=>exact(fM hN hix hx (y7 (pos:=pos) hc hi hp B hn ho hb hq) hk hf).sub λD τ H q=>key D τ H q
 |true =>
  intro pins s τ H D I q
  rw[exec_Assign_Name_used _ _ _ _ hk]
  refine zd (zzF <| zd ?_)
  refine zd (ZA (wpAny_comprehension_free (use:=some (assign (.Name x p) X.env)) (Q:=λ_ s'=>SP X pins D .next s') rfl (kf hp _) (kL (lK I B)) B.kind B.loc ?_) (λ_ s' hq=>zH (zH hq)) λ_ _ e=>e)
  refine mE  hc hi B (uN I.len hn ho) hb I (hq τ H _ (key D τ H q)) (λDD C H' s' m' I' f hn' q'=>?_) rfl
  show wpAny _ X.A (assign (.Name x p) X.env (.ref DD)) _ _ s'
  refine wpAny_assign_Name (nh I' hN hix hx (v:=.ref DD) rfl (λs2 I2 zq=>?_) hf)
  obtain⟨al,sb,ha⟩:=zq
  have hne:C≠al:=by rcases ha with e|e;rw[e];exact f.2.1;exact zzi (f.2.2.2.2.1 x al e)
  exact⟨m',hn'.sameBut sb hne,λh' hs=>⟨_,H',I2.turned (it:=C) (λb o hb e=>hs.extBut b o hb e) f.1 f.2.1 f.2.2.2.1 f.2.2.2.2.1 f.2.2.2.2.2,q'⟩⟩
theorem Ei(ha:PE X a (tI X.K EX (evE cf a'))):PI X tg a (DP X.K (tI X.K EX (evE cf a'))):=xU ha
theorem El:∀τ H Q,tI X.K EX (evE cf (.compS is n a' ifs' elt')) τ H Q->DP X.K (tI X.K EX (evE cf a')) τ H λJ H1=>∀D,H1 D=none->eY D J (kE X.K is) (fC X.K FX (evTs cf ifs')) (tI X.K FX (evE cf elt')) Q (i8 is n τ) H1 :=
 λτ H Q q=>tM q
theorem FH:∀τ H Q,tI X.K EX (evE cf (.compR is n [a'] ifs' elt')) τ H Q->E6 (mz X.K EX (evA cf [a'])) τ H λJ H1=>∀D,H1 D=none->eY D J (kE X.K is) (fC X.K FX (evTs cf ifs')) (tI X.K FX (evE cf elt')) Q (i8 is n τ) H1:=λτ H Q zq=>by
 obtain⟨ρ,σ,h,re,hr,q⟩:=zq;rw[evE]at q;refine⟨ρ,σ,h,re,hr,?_⟩;cases e:evA cf [a'] σ h with
 |stuck=>rw[e]at q;exact q.elim
 |exc c h1=>rw[e]at q;exact q
 |ok ws h1=>
  rw[e]at q;intro ρ1 H1 x1 hr1 vs rs;have q1:=q.bnd ρ1 H1 x1 hr1;have hl:=fE e;obtain⟨w,rfl⟩:=List.length_eq_one_iff.mp hl;rw[cM]at q1;cases w with
  |int j=>obtain⟨v,rfl,rv⟩:=qp rs;cases az rv;unfold jV at q1;dsimp only at q1;split at q1;rename_i ks ek;split at ek;rename_i hj;cases ek;exact⟨j,rfl,hj.1,hj.2,fh (dH (re.ext x1)) hr1 (λk e=>by cases e) (λρ h H i x hr _=>uQ ρ h H i x hr (λk e=>by cases e)) fL q1⟩;cases ek;exact q1.elim
  |_=>exact q1.elim
theorem GY:∀τ H Q,tI X.K EX (evE cf (.compR is n [a',b'] ifs' elt')) τ H Q->EH (mz X.K EX (evA cf [a',b'])) τ H λJ H1=>∀D,H1 D=none->eY D J (kE X.K is) (fC X.K FX (evTs cf ifs')) (tI X.K FX (evE cf elt')) Q (i8 is n τ) H1:=λτ H Q zq=>by
 obtain⟨ρ,σ,h,re,hr,q⟩:=zq;rw[evE]at q;refine⟨ρ,σ,h,re,hr,?_⟩;cases e:evA cf [a',b'] σ h with
 |stuck=>rw[e]at q;exact q.elim
 |exc c h1=>rw[e]at q;exact q
 |ok ws h1=>
  rw[e]at q;intro ρ1 H1 x1 hr1 vs rs;have q1:=q.bnd ρ1 H1 x1 hr1;have hl:=fE e;obtain⟨w,w2,rfl⟩:∃w w2,ws=[w,w2]:=by rcases ws with _|⟨w,_|⟨w2,_|_⟩⟩<;>first|exact⟨_,_,rfl⟩|cases hl
  rw[cM]at q1;unfold jV at q1;split at q1;rename_i ks ek;split at ek;rename_i e1;cases e1;rename_i i j e1;cases e1;split at ek;rename_i hj;cases ek;obtain⟨v,v2,rfl,rv,rv2⟩:=An rs;cases az rv;cases az rv2;exact⟨i,j,rfl,hj,fh (dH (re.ext x1)) hr1 (λk e=>by cases e) (λρ h H i x hr _=>uQ ρ h H i x hr (λk e=>by cases e)) fL q1⟩;cases ek;cases ek;exact q1.elim
end
theorem nN{K:Fg0}(e:seqA [] w=some us)(r:Rel K ρ1 H1 w v):∃p t xs,v=.ref p/\RelL K ρ1 H1 us xs/\∀ρ H,Ext ρ1 H1 ρ H->SqB K t H p xs:=by
 cases w with
 |tup ws=>rw[Rel]at r;obtain⟨p,xs,rfl,hq,rs⟩:=r;cases (show ws=us from zW e);exact⟨p,true,xs,rfl,rs,λρ H x=>(hq.ext x).sq⟩
 |scr ws=>obtain⟨p,xs,rfl,hq,rs⟩:=r;cases (show ws=us from zW e);exact⟨p,false,xs,rfl,rs,λρ H x=>(hq.ext x).sq⟩
 |lst ws=>rw[Rel]at r;obtain⟨p,xs,rfl,hn,hq,rs⟩:=r;cases (zW e);exact⟨p,false,xs,rfl,rs,λρ H x=>.inl (.inl (x.keepN hq hn (λ_ z=>by cases z)))⟩
 |ref k=>cases e
 |_=>cases e
theorem jX{α β:Type}{a:α}{h:aa}{f:α->aa->Res β}:bnd (.ok a h) f=f a h:=rfl
theorem oE{K:Fg0}{ρ:List Addr}{h:aa}{H:Hp}{q:Addr}{u v:W}{x y:V}(hr:HRel K ρ h H)(hq:H q=none)(r1:Rel K ρ H u x)(r2:Rel K ρ H v y) :
  Ext ρ H ρ (aW H q (.tup [x,y]))/\HRel K ρ h (aW H q (.tup [x,y]))/\Rel K ρ (aW H q (.tup [x,y])) (.tup [u,v]) (.ref q):=by
 have e:Ext ρ H ρ (aW H q (.tup [x,y])):=ext_new hr hq
 exact⟨e,hr.ext_new hq,(⟨q,[x,y],rfl,.inl ⟨hr.new hq,.inl aE⟩,(.cons (Rel.ext e _ _ r1) (.cons (Rel.ext e _ _ r2) .nil))⟩)⟩
def LC(K:Fg0)(ta:TA):TI:=λσ H R=>ta σ H λvs H1=>∃p q t1 t2,vs=[.ref p,.ref q]/\(∃xs,SqB K t1 H1 p xs)/\(∃ys,SqB K t2 H1 q ys)/\R (OL K t1 t2 p q) H1
def FV(K:Fg0)(c:Int)(ta:TA):TI:=λσ H R=>ta σ H λvs H1=>∃p t,vs=[.ref p]/\(∃xs,SqB K t H1 p xs)/\R (Ot K t c p) H1
section
variable {X:Cx}{EX:cb}{cf:CF}{a b:Expr}{a' b':E}{ta:TA}{p pos:Pos}{es:List Expr}{x1:Nat}{ps:Pos}{is:List Nat}{n:Nat}{ifs':List E}{elt':E}
theorem HI(hg:Gl X "zip")(hm:X.mg "zip"=none)(ha:PA X [a,b] ta)(hs:starEach [a,b] X.env=[(false,eval a X.env),(false,eval b X.env)]:=by rfl)(hs2:starEach [b] X.env=[(false,eval b X.env)]:=by rfl) :
  PI X (.Tuple es x1 ps) (.Call (.Name "zip" p) [a,b] [] pos) (LC X.K ta):=by
 intro pins s σ H R I h
 refine Call_ (gC I hg hm PyProof.Rows.boot_zip (Z2 (aU (ha pos pins s σ H _ I h) λus s1 ⟨vs,H1,I1,r1,q1⟩=>?_) (by simp_all) (by rw[hs2];rfl)))
 obtain⟨p,q,t1,t2,rfl,⟨xs,s1q⟩,⟨ys,s2q⟩,q1⟩:=q1
 cases r1 with
 |cons r rr =>
  cases rr with
  |cons r' rr =>
   cases rr
   cases r
   cases r'
   obtain⟨is1,_,m1⟩:=s1q.at_ I1
   obtain⟨is2,_,m2⟩:=s2q.at_ I1
   refine y8 m1 m2 λh' z1 z2 z3 z4 z5 kk=>wpAny_pyIter_zip z1 ⟨_,Kj s1.heap.objs.size,_,_,H1,rfl,I1.kept  kk,yH t1 t2 p q s1.heap.objs.size,⟨z1,z2,⟨_,_,z3⟩,z4,z5⟩,λc hc=>?_,q1⟩
   have:s1.heap.objs.size<=c:=by grind
   exact I1.fpOk this (I1.hok.fresh this)
theorem lY{E:Value->Shared->Prop}
  (h:wpAny M A (spliced (backTo pos (starEach [e] env))) (λvs s1=>wpAny M A (evalAll ((backToKw pos (keywordEach kws env)).map (·.2))) (λks s2=>wpAny M A (call (.type T) vs (((backToKw pos (keywordEach kws env)).filterMap (·.1)).zip ks)) Q E s2) E s1) E s)
  (he:starEach [e] env=[(false,eval e env)]) (hall:(backToKw pos (keywordEach kws env)).all (·.1.isSome)=true) (hkw:(backToKw pos (keywordEach kws env)).any (·.1.isNone)=false) :
  wpAny M A (callWith pos (.type T) [] (backTo pos (starEach [e] env)) (backToKw pos (keywordEach kws env))) Q E s:=by
 have hb:backTo pos [(false,eval e env)]=[(false,eval e env)]:=rfl
 rw[he,hb]at h ⊢
 refine zd (Zu (ZA (PyProof.Rows.evalArgs_kwB  (Q:=λa s1=>wpAny M A (call (.type T) ([]++a.pos) a.kw) Q E s1) hall h) (λa s1 h1=>zd (zzF ?_)) λ_ _ x=>x))
 rw[show(([(false,eval e env)]).any (·.1)||(backToKw pos (keywordEach kws env)).any (·.1.isNone))=false by rw[hkw];rfl]
 refine zd (zH ?_)
 exact zd (ZA h1 (λr s2 hr=>zd (Zu (wpAny_point (zH hr)))) λ_ _ x=>x)
theorem tO{j:Nat}{kp kp2:Pos}(hg:Gl X "enumerate")(hm:X.mg "enumerate"=none)(ha:PA X [a] ta)(hs:starEach [a] X.env=[(false,eval a X.env)]:=by rfl):PI X (.Tuple es x1 ps) (.Call (.Name "enumerate" p) [a] [⟨some "start",.Constant (.int 1) j kp,kp2⟩] pos) (FV X.K 1 ta):=by
 intro pins s σ H R I h;refine Z6 (gC I hg hm PyProof.Rows.boot_enumerate (lY (aU (ha pos pins s σ H _ I h) λus s1 ⟨vs,H1,I1,r1,q1⟩=>?_) hs rfl rfl));obtain⟨p,t,rfl,⟨xs,s1q⟩,q1⟩:=q1;cases r1 with
 |cons r rr=>
  cases rr;cases r;refine aU (Co (X:=X) pe_int F1 pos pins s1 σ H1 (λvs H2=>vs=[.int 1]/\H2=H1) I1 ⟨rfl,rfl⟩) λks s2 zq=>?_;obtain⟨vs,H2,I2,r2,e1,e2⟩:=zq;subst e1 e2;cases r2 with
  |cons r rr=>
   obtain⟨tk,rfl⟩:=r;obtain⟨is1,_,m1⟩:=s1q.at_ I2;refine tf (tk:=tk) m1 λh' z1 z2 kk=>wpAny_pyIter_enum z1 ⟨_,[s2.heap.objs.size+1,s2.heap.objs.size],_,_,H2,rfl,I2.kept  kk,vJ t 1 p s2.heap.objs.size,⟨⟨_,z1⟩,z2⟩,λc hc=>?_,q1⟩;have:s2.heap.objs.size<=c:=by grind
   exact I2.fpOk this (I2.hok.fresh this)
theorem Jr:∀τ H Q,tI X.K EX (evE cf (.compS is n (.zipE a' b') ifs' elt')) τ H Q->LC X.K (mz X.K EX (evA cf [a',b'])) τ H λJ H1=>∀D,H1 D=none->eY D J (kE X.K is) (fC X.K FX (evTs cf ifs')) (tI X.K FX (evE cf elt')) Q (i8 is n τ) H1:=λτ H Q zq=>by
 obtain⟨ρ,σ,h,re,hr,q⟩:=zq
 rw[evE,evE]at q
 refine⟨ρ,σ,h,re,hr,?_⟩
 rw[evA]
 cases e1:evE cf a' σ h with
 |stuck=>rw[e1]at q;exact q.elim
 |exc c h1=>rw[e1]at q;exact q
 |ok x h1 =>
  rw[e1,jX]at q
  rw[jX,evA]
  cases e2:evE cf b' σ h1 with
  |stuck=>rw[e2]at q;exact q.elim
  |exc c h2=>rw[e2]at q;exact q
  |ok y h2 =>
   rw[e2,jX]at q
   rw[jX,evA,jX,jX]
   intro ρ1 H1 x1 hr1 vs rs
   cases ex:seqA [] x with
   |none=>rw[ex]at q;exact q.elim
   |some us =>
    cases ey:seqA [] y with
    |none=>rw[ex,ey]at q;exact q.elim
    |some ws =>
     rw[ex,ey]at q
     obtain⟨v1,v2,rfl,r1,r2⟩:=An rs
     obtain⟨p,t1,xs,rfl,rl1,sq1⟩:=nN ex r1
     obtain⟨p',t2,ys,rfl,rl2,sq2⟩:=nN ey r2
     refine⟨p,p',t1,t2,rfl,⟨xs,sq1 _ _ Ext.refl⟩,⟨ys,sq2 _ _ Ext.refl⟩,?_⟩
     have q0 :=q
     refine i9 (src:=none) (dH (re.ext x1)) hr1 (λk e=>by cases e) (λρ2 h3 H3 i x2 hr3 _=>?_) fL (q0.bnd ρ1 H1 x1 hr1)
     have rl1':=RelL.ext x2 _ _ rl1
     have rl2':=RelL.ext x2 _ _ rl2
     have l1:=rl1'.length
     have l2:=rl2'.length
     refine⟨λei=>⟨xs,ys,sq1 _ _ x2,sq2 _ _ x2,?_⟩,λw ew=>?_⟩
     ·grind
     ·rw[List.getElem?_zipWith]at ew
      cases eu:us[i]? with
      |none=>rw[eu]at ew;simp at ew
      |some u =>
       cases ev:ws[i]? with
       |none=>rw[eu,ev]at ew;simp at ew
       |some v =>
        rw[eu,ev]at ew
        cases ew
        obtain⟨xv,hx,rx⟩:=rl1'.get eu
        obtain⟨yv,hy,ry⟩:=rl2'.get ev
        refine⟨⟨xs,ys,xv,yv,sq1 _ _ x2,sq2 _ _ x2,hx,hy⟩,λv2 H' zq=>?_⟩
        obtain⟨pp,x',y',hp,e1,e2,f1,f2⟩:=zq
        have g1:=f1 xs (sq1 _ _ x2)
        have g2:=f2 ys (sq2 _ _ x2)
        rw[hx]at g1
        rw[hy]at g2
        cases g1
        cases g2
        subst e1 e2
        exact oE hr3 hp rx ry
theorem LK{c:Int}:∀τ H Q,tI X.K EX (evE cf (.compS is n (.enmE c a') ifs' elt')) τ H Q->FV X.K c (mz X.K EX (evA cf [a'])) τ H λJ H1=>∀D,H1 D=none->eY D J (kE X.K is) (fC X.K FX (evTs cf ifs')) (tI X.K FX (evE cf elt')) Q (i8 is n τ) H1:=λτ H Q zq=>by
 obtain⟨ρ,σ,h,re,hr,q⟩:=zq
 rw[evE,evE]at q
 refine⟨ρ,σ,h,re,hr,?_⟩
 rw[evA]
 cases e1:evE cf a' σ h with
 |stuck=>rw[e1]at q;exact q.elim
 |exc c h1=>rw[e1]at q;exact q
 |ok x h1 =>
  rw[e1,jX]at q
  rw[jX,evA,jX]
  intro ρ1 H1 x1 hr1 vs rs
  cases ex:seqA [] x with
  |none=>rw[ex]at q;exact q.elim
  |some us =>
   rw[ex]at q
   obtain⟨v1,rfl,r1⟩:=qp rs
   obtain⟨p,t1,xs,rfl,rl1,sq1⟩:=nN ex r1
   refine⟨p,t1,rfl,⟨xs,sq1 _ _ Ext.refl⟩,?_⟩
   have q0 :=q
   refine i9 (src:=none) (dH (re.ext x1)) hr1 (λk e=>by cases e) (λρ2 h3 H3 i x2 hr3 _=>?_) fL (q0.bnd ρ1 H1 x1 hr1)
   have rl1':=RelL.ext x2 _ _ rl1
   have l1:=rl1'.length
   refine⟨λei=>⟨xs,sq1 _ _ x2,?_⟩,λw ew=>?_⟩
   ·grind
   ·rw[ZL]at ew
    cases eu:us[i]? with
    |none=>rw[eu]at ew;simp at ew
    |some u =>
     rw[eu]at ew
     cases ew
     obtain⟨xv,hx,rx⟩:=rl1'.get eu
     refine⟨⟨xs,xv,sq1 _ _ x2,hx⟩,λv2 H' zq=>?_⟩
     obtain⟨pp,x',hp,e1,e2,f1⟩:=zq
     have g1:=f1 xs (sq1 _ _ x2)
     rw[hx]at g1
     cases g1
     subst e1 e2
     exact oE hr3 hp bh rx
end
section
variable {P:Program}{w:World}{A:Around}{E:Value->Shared->Prop}{s:Shared}
end
section
variable {P:Program}{w:World}{A:Around}{E:Value->Shared->Prop}{s:Shared}
end
section
variable {X:Cx}{EX:cb}{cf:CF}{a:Expr}{a':E}{te:TE}{p p2 p3 pos:Pos}
end
theorem eS:∀n i its,its.length=n->(∀(j:Nat) (v:Value),its[j]?=some v->∃t,v=.int (i+(j)) t)->Vals ((List.range n).map λ(k:Nat)=>V.int (i+(k:Int))) its
 |0,i,its,hl,_=>by rw[List.length_eq_zero_iff]at hl;subst hl;exact .nil
 |n+1,i,its,hl,h=>by
  obtain⟨v,r,rfl⟩:=Zi hl;rw[List.range_succ_eq_map,zO,zzm];have ih:=eS n (i+1) r (by simpa using hl) (λj v e=>by
   obtain⟨t,rfl⟩:=h (j+1) v (by simpa using e)
   grind)
  refine .cons (h 0 v rfl) ?_;have e:(List.range n).map ((λ(k:Nat)=>V.int (i+(k:Int))) ∘ Nat.succ)=(List.range n).map λ(k:Nat)=>V.int (i+1+(k:Int)):=zzs λk _=>by grind
  rw[e];exact ih
section
variable {X:Cx}{EX:cb}{cf:CF}{pos:Pos}{a b:Expr}{a' b':E}
theorem Bc:br X (.type "range") (λxs H Q=>∃i j:Int,xs=[.int i,.int j]/\(-(2^62)<=i/\i<2^62/\-(2^62)<=j/\j<2^62)/\∀q,H q=none->Q (.ref q) (aW H q (.rng i j))):=by
 intro pins s σ H xs us Q I r zq9;obtain⟨i,j,e0,hb,q⟩:=zq9;subst e0;cases r with
 |cons r rr=>
  cases rr with
  |cons r' rr=>cases rr;obtain⟨t,rfl⟩:=r;obtain⟨t',rfl⟩:=r';exact call_range_2 ⟨.ref s.heap.objs.size,_,I.laid (o:=.rng i j) (λb o e=>hps0 _ e) (zD _) ⟨_,_,_,zG _ rfl⟩,rfl,q _ I.fresh⟩
theorem sZ(hc:X.calm=true):br X (.type "list") (λxs H Q=>∃p,∃i j:Int,xs=[.ref p]/\H p=some (.rng i j)/\(-(2^62)<=i/\i<2^62/\-(2^62)<=j/\j<2^62)/\(j-i).toNat<=1000/\∀q,H q=none->Q (.ref q) (aW H q (.lst ((List.range (j-i).toNat).map λ(k:Nat)=>V.int (i+(k:Int)))))):=by
 intro pins s σ H xs us Q I r zq9
 obtain⟨p,i,j,e0,hp,hb,hn,q⟩:=zq9
 subst e0
 obtain⟨u,rfl,ru⟩:=r.one
 cases ru
 obtain⟨t,u,v,ho⟩:=I.hok p _ hp
 have hsz:Builtin.Range.rangeSize i j 1=(((j-i).toNat:Nat):Int):=by rw[rangeSize_one];grind
 refine call_list_range (I.ok.hd hc) ho (small_one hb.1 hb.2.1 hb.2.2.1 hb.2.2.2) hsz ZzL λh' tk acc c hk hS ha=>?_
 refine⟨.ref s.heap.objs.size,_,I.laid (o:=.lst _) hk (zD _) ⟨?_,acc.toList,c,eS _ i acc.toList (by simpa using ha.1) (λk v e=>?_),by simpa using hS⟩,rfl,q _ I.fresh⟩
 ·rw[zo,ZX,Zj];lia
 ·obtain⟨t,rfl⟩:=ha.2 k v (by simpa using e)
  grind
theorem Hf(hc:X.calm=true)(hg:Gl X "list")(hm:X.mg "list"=none)(hg2:Gl X "range")(hm2:X.mg "range"=none)(ha:PE X a (tI X.K EX (evE cf a')))(hb:PE X b (tI X.K EX (evE cf b')))(hs:au a=true)(hs2:au b=true) :
  PE X (.Call (.Name "list" p) [.Call (.Name "range" p2) [a,b] [] p3] [] pos) (tI X.K EX (evE cf (.lrng a' b'))):=by
 have h1:=bC (p:=p2) (pos:=p3) Bc hg2 hm2 (by decide +kernel) (aN ha (aN hb pa_nil (ar hs2 _ _)) (ar hs _ _)) (by decide +kernel) (by decide +kernel) (ar hs _ _) (by rw[ar hs2];rfl)
 refine(bC (sZ hc) hg hm zz9 (aN h1 pa_nil (by rfl)) (by decide +kernel) (by decide +kernel) (by rfl) (by rfl)).sub λτ H Q zq=>?_
 obtain⟨ρ,σ,h,re,hr,q⟩:=zq
 rw[evE]at q
 refine⟨ρ,σ,h,re,hr,q.bnd.mono λw h1 ρ1 H1 x1 hr1 q1 v r=>?_⟩
 refine⟨ρ1,σ,h1,re.ext x1,hr1,q1.bnd.mono λw2 h2 ρ2 H2 x2 hr2 q2 v2 r2=>?_⟩
 rw[cM]at q2
 cases w with
 |int i =>
  cases az r
  cases w2 with
  |int j =>
   cases az r2
   unfold jV at q2
   dsimp only at q2
   split at q2
   ·rename_i ks ek
    split at ek
    ·rename_i hj
     cases ek
     split at q2
     ·rename_i hl
      refine⟨i,j,rfl,hj,λp hp=>⟨p,i,j,rfl,aE,hj,by simpa using hl,λq hq=>?_⟩⟩
      have hr3:=hr2.ext_new (o:=.rng i j) hp
      refine q2 _ _ ((ext_new hr2 hp).trans (ext_new hr3 hq)) (hr3.ext_new hq) _ ?_
      refine⟨q,_,rfl,hr3.new hq,aE,?_⟩
      have:∀(l:List Nat),RelL X.K ρ2 (aW (aW H2 p (.rng i j)) q (.lst ((List.range (j-i).toNat).map λ(k:Nat)=>V.int (i+(k:Int))))) (l.map λ(k:Nat)=>W.int (i+(k:Int))) (l.map λ(k:Nat)=>V.int (i+(k:Int))):=λl=>by
       induction l with
       |nil=>exact .nil
       |cons k l ih=>exact .cons bh ih
      exact this _
     ·exact q2.elim
    ·cases ek
   ·exact q2.elim
  |_=>exact q2.elim
 |_=>exact q2.elim
theorem DL(hp:PassesOwn (model X.prog X.w) X.A X.env X.xe)(hc:X.calm=true)(hi:PI X (.Tuple es x1 ps) it (FV X.K c (mz X.K EX (evA cf [a']))))(hg:PG X (.Tuple es x1 ps) (kE X.K is))(hb:PSs X bs (dg X.K EX (aA cf fw bs')))
  (hs:cq it=true):PS X (.For (.Tuple es x1 ps) it bs [] pos) (dg X.K EX (exS cf fw (.for_ is (.seq (.enmE c a')) bs'))) :=
 (pf hp hc hi hg hb (kf hs _)).sub λD τ H zq=>by
  obtain⟨ρ,σ,h,re,hr,q⟩:=zq;rw[exS,evE]at q;refine⟨ρ,σ,h,re,hr,?_⟩;rw[evA];cases e1:evE cf a' σ h with
  |stuck=>rw[e1]at q;exact q.elim
  |exc c h1=>rw[e1]at q;exact q
  |ok x h1=>
   rw[e1,jX]at q;rw[jX,evA,jX];intro ρ1 H1 x1 hr1 vs rs;cases ex:seqA [] x with
   |none=>rw[ex]at q;exact q.elim
   |some us=>
    rw[ex]at q;obtain⟨v1,rfl,r1⟩:=qp rs;obtain⟨p,t1,xs,rfl,rl1,sq1⟩:=nN ex r1;refine⟨p,t1,rfl,⟨xs,sq1 _ _ Ext.refl⟩,?_⟩;have q0 :=q;have q1:=q0.bnd ρ1 H1 x1 hr1;generalize hws:us.mapIdx (λi u=>W.tup [.int (c+(i:Int)),u])=ws at q1;have lw:ws.length=us.length:=by rw[<- hws,ZJ]
    refine⟨λi m τ H=>m=ws.length-i/\TX X.K EX ρ1 H1 (fo is (aA cf fw bs') (ws.drop i)) (kY X.K D) τ H,⟨_,rfl,ρ1,σ,h1,.refl,re.ext x1,hr1,q1⟩,?_⟩;rintro i m τ2 H2 ⟨rfl,ρ2,σ2,h2,x2,re2,hr2,q2⟩;have rl2:=RelL.ext x2 _ _ rl1;have l1:=rl2.length;by_cases hlt:i<ws.length;obtain⟨u,eu⟩:∃u,us[i]?=some u:=⟨_,zJ ZzL⟩;obtain⟨xv,hx,rx⟩:=rl2.get eu;have ew:ws[i]?=some (.tup [.int (c+(i:Int)),u]):=by rw[<- hws,ZL,eu];rfl
    refine .inr ⟨⟨xs,xv,sq1 _ _ x2,hx⟩,λτ' H'=>(ws.length-(i+1))=ws.length-(i+1)/\TX X.K EX ρ1 H1 (fo is (aA cf fw bs') (ws.drop (i+1))) (kY X.K D) τ' H',λτ' H' z=>⟨_,ZzL,z⟩,λv2 H' zq=>?_⟩;obtain⟨pp,x',hp,e1,e2,f1⟩:=zq;have g1:=f1 xs (sq1 _ _ x2);rw[hx]at g1;cases g1;subst e1 e2;obtain⟨xe,hr3,rw3⟩:=oE (u:=.int (c+(i:Int))) (x:=.int (c+(i:Int))) hr2 hp bh rx;rw[hU ew]at q2;exact kg (re2.ext xe) hr3 rw3 (RQ.wk xe q2) λτ' H' ρ' σ' h' x re' hr' q'=>⟨rfl,ρ',σ',h',(x2.trans xe).trans x,re',hr',q'⟩;refine .inl ⟨⟨xs,sq1 _ _ x2,ZzL⟩,?_⟩;rw[zzy ZzL,fo]at q2;exact RQ.here hr2 q2 _ re2
end
section
variable {X:Cx}{EX:cb}{cf:CF}{fw:Nat}{pos:Pos}{a b c e:Expr}{a' b' c' e':E}
def Q8(K:Fg0)(EX:cb):V->Option Int->Option Int->Hp->VK->Prop:=λx lo hi H Q =>
 ∃ρ h w,HRel K ρ h H/\Rel K ρ H w x/\RQ K EX ρ H (Dg w lo hi h) λw _ ρ' H'=>∀v,Rel K ρ' H' w v->Q v H'
theorem qd{v:Value}{o:Option Int}(h:IsPart v o):∃p:Option (Int×Tok),v=partValue p/\p.map (·.1)=o:=by
 cases h with
 |none=>exact⟨none,rfl,rfl⟩
 |int i t=>exact⟨some (i,t),rfl,rfl⟩
theorem ue{K:Fg0}{ρ:List Addr}{H:Hp}{ws:List W}{xs:List V}{lo hi:Option Int}(r:RelL K ρ H ws xs):RelL K ρ H (jB ws lo hi) (wc xs lo hi):=by unfold jB wc;rw[r.length];exact(r.drop _).take _
theorem HL:Mr X (Q8 X.K EX):=by
 intro pins s σ H x v vl vu lo hi sl Q I rx hs pl pu zq17;obtain⟨ρ,h,w,hr,r,q⟩:=zq17;unfold Dg at q;split at q;rename_i z;split at q;rename_i hz;cases aB r;obtain⟨t,rfl⟩:=rx;obtain⟨p,rfl,e1⟩:=qd pl;obtain⟨p2,rfl,e2⟩:=qd pu;subst e1 e2;refine⟨"str",_,PySem.F.slot_str_getitem.lookup,PySem.typeIs_str s z t,?_⟩;obtain⟨o,h1,h2,h3⟩:=hs;refine wpAny_getItem_str_slice (l:=p) (u:=p2) (st:=none) ⟨o,h1,h2,h3⟩ rfl ?_;unfold sliceMade;refine post_val_or_str ?_;have ez:(if((Option.map (λx=>x.1) (none:Option (Int×Tok))).getD 1==1&&(slicePicked z p p2 none).length==z.length)=true then z else⟨((slicePicked z p p2 none).filterMap (z.cps[·]?)).toArray⟩)=Txt.slice z (p.map (·.1)) (p2.map (·.1)):=by unfold Txt.slice slicePicked;simp
 rw[ez];refine⟨zf (Txt.slice_le z _ _) (zf hz ZzD),λt' k=>⟨.str _,H,I.tok k,⟨t',rfl⟩,RQ.here hr q _ gB⟩⟩;exact q.elim;rename_i ws;split at q;exact q.elim;rename_i hw;have r0:=r;rw[Rel]at r;obtain⟨p,xs,rfl,hq,rs⟩:=r;exact GJ pins s σ H _ v vl vu lo hi sl Q I rx hs pl pu ⟨p,xs,rfl,hq.sq,by rw[<- rs.length];exact hw,RQ.tup hr (ue rs) q⟩;split at q;rename_i ws e;obtain⟨p,xs,rfl,hq,rs⟩:=gy hr e r;exact Dk pins s σ H _ v vl vu lo hi sl Q I rx hs pl pu ⟨p,xs,rfl,hq,RQ.lst hr (ue rs) q⟩;exact q.elim
def LJ(K:Fg0)(EX:cb)(ev:ag->aa->Res (Option Int)):L2.TO:=λτ H Q =>
 TR K EX ev (λo _ _ H'=>Q o H') τ H
theorem _root_.L2.PO.sub{X:Cx}{e:Option Expr}{t t':L2.TO}(p:PO X e t)(h:∀τ H Q,t' τ H Q->t τ H Q):PO X e t':=λpins s σ H Q I q=>p pins s σ H Q I (h _ _ _ q)
theorem GU:PO X none (LJ X.K EX (evO cf none)):=po_none.sub λτ H Q zq=>by obtain⟨ρ,σ,h,re,hr,q⟩:=zq;rw[evO]at q;exact RQ.here hr q
theorem Ha(ha:PE X a (tI X.K EX (evE cf a'))):PO X (some a) (LJ X.K EX (evO cf (some a'))):=(BN ha).sub λτ H Q zq=>by obtain⟨ρ,σ,h,re,hr,q⟩:=zq;refine⟨ρ,σ,h,re,hr,q.bnd.mono λw h1 ρ1 H1 x1 hr1 q1 v r=>?_⟩;split at q1;rename_i i;exact⟨i,az r,RQ.here hr1 q1⟩;exact q1.elim
theorem NC{lo hi:Option Expr}{lo' hi':Option E}{p2:Pos}(ha:PE X a (tI X.K EX (evE cf a')))(hl:PO X lo (LJ X.K EX (evO cf lo')))(hu:PO X hi (LJ X.K EX (evO cf hi'))) :
  PE X (.Subscript a (.Slice lo hi none p2) pos) (tI X.K EX (evE cf (.sl a' lo' hi'))):=(yK HL ha hl hu).sub λτ H Q zq=>by
 obtain⟨ρ,σ,h,re,hr,q⟩:=zq
 exact⟨ρ,σ,h,re,hr,q.bnd.mono λw h1 ρ1 H1 x1 hr1 q1 v r=>(⟨ρ1,σ,h1,re.ext x1,hr1,q1.bnd.mono λl h2 ρ2 H2 x2 hr2 q2=>(⟨ρ2,σ,h2,(re.ext x1).ext x2,hr2,q2.bnd.mono λu h3 ρ3 H3 x3 hr3 q3=>(⟨ρ3,h3,w,hr3,Rel.ext x3 _ _ (Rel.ext x2 _ _ r),q3⟩)⟩)⟩)⟩
theorem BX(t:Ty){i:Int}{k:Tok}:Answers (λs=>s.TypeIs (.int i k) "int") (.int i k) (.type (aJ t)) (decide (t=.int)):=by
 cases t with
 |int=>exact zzD zzn PySem.F.sub_int_int
 |bool=>exact zzN (by decide +kernel) zzb PySem.F.sub_int_bool
 |str=>exact zzN (by decide +kernel) zzo PySem.F.sub_int_str
 |tuple=>exact zzN (rfl) Z4 PySem.F.sub_int_tuple
 |list=>exact zzN (by decide +kernel) zzc PySem.F.sub_int_list
theorem xT(t:Ty){i:Bool}:Answers (λs=>s.TypeIs (.bool i) "bool") (.bool i) (.type (aJ t)) (decide (t=.int)||decide (t=.bool)):=by
 cases t with
 |int=>exact zzD zzn PySem.F.sub_bool_int
 |bool=>exact zzD zzb PySem.F.sub_bool_bool
 |str=>exact Answers.of_false_bool (by decide +kernel) zzo PySem.F.sub_bool_str
 |tuple=>exact Answers.of_false_bool (rfl) Z4 PySem.F.sub_bool_tuple
 |list=>exact Answers.of_false_bool (by decide +kernel) zzc PySem.F.sub_bool_list
theorem CN(t:Ty){i:Str}{k:Tok}:Answers (λs=>s.TypeIs (.str i k) "str") (.str i k) (.type (aJ t)) (decide (t=.str)):=by
 cases t with
 |int=>exact zzO (by decide +kernel) zzn PySem.F.sub_str_int
 |bool=>exact zzO (by decide +kernel) zzb PySem.F.sub_str_bool
 |str=>exact zzD zzo PySem.F.sub_str_str
 |tuple=>exact zzO (by decide +kernel) Z4 PySem.F.sub_str_tuple
 |list=>exact zzO (by decide +kernel) zzc PySem.F.sub_str_list
theorem mh(t:Ty){p:Addr}:Answers (λs=>s.TypeIs (.ref p) "list") (.ref p) (.type (aJ t)) (decide (t=.list)):=by
 cases t with
 |int=>exact zzH (rfl) zzn PySem.F.sub_list_int
 |bool=>exact zzH (rfl) zzb PySem.F.sub_list_bool
 |str=>exact zzH (rfl) zzo PySem.F.sub_list_str
 |tuple=>exact zzH (rfl) Z4 PySem.F.sub_list_tuple
 |list=>exact zzD zzc PySem.F.sub_list_list
theorem wm(t:Ty){p:Addr}:Answers (λs=>s.TypeIs (.ref p) "tuple") (.ref p) (.type (aJ t)) (decide (t=.tuple)):=by
 cases t with
 |int=>exact zzz (rfl) zzn PySem.F.sub_tuple_int
 |bool=>exact zzz (rfl) zzb PySem.F.sub_tuple_bool
 |str=>exact zzz (rfl) zzo PySem.F.sub_tuple_str
 |tuple=>exact zzD Z4 PySem.F.sub_tuple_tuple
 |list=>exact zzz (rfl) zzc PySem.F.sub_tuple_list
theorem ui{P:Shared->Prop}{x:Value}{f:Ty->Bool}(h:∀t,Answers P x (.type (aJ t)) (f t)):∀ts:List Ty,AnswersAll P x (ts.map λt=>Value.type (aJ t)) (ts.map f)
 |[]=>trivial
 |t::ts=>⟨h t,ui h ts⟩
noncomputable def tyNames:List Expr->Option (List Ty)
 |[]=>some []
 |.Name x _::es=>(tyOf' x).bind λt=>(tyNames es).map (t::·)
 |_=>none
where tyOf' (x:Str):Option Ty:=if x="int" then some .int else if x="bool" then some .bool else if x="str" then some .str else if x="tuple" then some .tuple else if x="list" then some .list else none
theorem Bm{x:Str}{t:Ty}(h:tyNames.tyOf' x=some t):x=Str.ofString (aJ t):=by
 unfold tyNames.tyOf' at h
 repeat' split at h
 all_goals first|(cases h;assumption)|grind
theorem Em(hg:∀t:Ty,Gl X (Str.ofString (aJ t))/\X.mg (Str.ofString (aJ t))=none):∀{es:List Expr}{ts:List Ty},tyNames es=some ts->PA X es (λ_ H Q=>Q (ts.map λt=>V.ty (aJ t)) H)
 |[],ts,h=>by cases h;exact pa_nil
 |e::es,ts,h=>by
  cases e with
  |Name x p=>
   have h' :=h;obtain⟨t,h1,h2⟩:=obs h';cases h3:tyNames es with
   |none=>grind
   |some us=>rw[h3]at h2;cases h2;have hx:=Bm h1;subst hx;have hty:PE X (.Name (Str.ofString (aJ t)) p) (tC (.ty (aJ t))):=uB (hg t).1 (hg t).2 (v5 t) rfl (by cases t<;>decide +kernel) (by cases t<;>decide +kernel);have ih :=Em hg h3;exact aN hty ih rfl
  |_=>cases h
theorem qR:∀{ts:List Ty}{us:List Value},Vals (ts.map λt=>V.ty (aJ t)) us->us=ts.map λt=>Value.type (aJ t)
 |[],us,h=>by cases h;rfl
 |t::ts,us,h=>by
  cases h with
  |cons r rs=>have r' :=r;rw[r',qR rs];rfl
theorem qN{h:aa}{w:W}:∀{ts:List Ty}{bs:List Bool}{f:Ty->Bool},(∀t,bq h w t=some (f t))->ts.mapM (bq h w)=some bs->bs=ts.map f
 |[],bs,f,_,e=>by grind
 |t::ts,bs,f,hf,e=>by
  rw[List.mapM_cons,hf t]at e;cases e1:ts.mapM (bq h w) with
  |none=>simp_all
  |some cs=>rw[e1]at e;cases e;rw[qN hf e1];rfl
theorem Aj{K:Fg0}{h:aa}{w:W}{ρ:List Addr}{H:Hp}{v:V}{u:Value}{pins:List (Addr×Obj)}{σ:L2.St}{s:Shared}(hK:X.K=K)(hr:HRel K ρ h H)(r:Rel K ρ H w v)(I:Inv X pins σ H s)(rv:RelV v u)(hs:∃t k,bq h w t=some k) :
  ∃f:Ty->Bool,(∀t,bq h w t=some (f t))/\∃Tx,(∀t,Answers (λs=>s.TypeIs u Tx) u (.type (aJ t)) (f t))/\s.TypeIs u Tx:=by
 subst hK
 obtain⟨t0,k0,ek⟩:=hs
 cases w with
 |int i=>cases az r;obtain⟨t,rfl⟩:=rv;exact⟨_,λ_=>rfl,"int",λt=>BX t,rfl⟩
 |bl i=>cases bP r;cases rv;exact⟨_,λ_=>rfl,"bool",λt=>xT t,rfl⟩
 |str i=>cases aB r;obtain⟨t,rfl⟩:=rv;exact⟨_,λ_=>rfl,"str",λt=>CN t,rfl⟩
 |tup ws =>
  rw[Rel]at r
  obtain⟨p,xs,rfl,hq,_⟩:=r
  cases rv
  obtain⟨its,_,ht,_⟩:=I.tuple hq.sq
  exact⟨_,λ_=>rfl,"tuple",λt=>wm t,ht.typeIs⟩
 |lst ws =>
  rw[Rel]at r
  obtain⟨p,xs,rfl,_,hq,_⟩:=r
  cases rv
  obtain⟨its,_,ht,_⟩:=I.list (X:=X) (.inl (.inl hq))
  exact⟨_,λ_=>rfl,"list",λt=>mh t,ht.isList.typeIs⟩
 |scr ws =>
  rw[Rel]at r
  obtain⟨p,xs,rfl,hq,_⟩:=r
  cases rv
  obtain⟨its,_,ht,_⟩:=I.list hq.sq
  exact⟨_,λ_=>rfl,"list",λt=>mh t,ht.isList.typeIs⟩
 |ref n =>
  have ek':(match h[n]? with|some (.lst _)=>some (decide (t0=.list))|_=>none)=some k0:=ek
  split at ek'<;>try (cases ek';done)
  rename_i us e3
  have hsq:seqL h (.ref n)=some us:=by show(match h[n]? with|some (.lst ws)=>some ws|_=>none)=some us;rw[e3]
  obtain⟨p,xs,rfl,hq,_⟩:=gy hr hsq r
  cases rv
  obtain⟨its,_,ht,_⟩:=I.list hq
  exact⟨λt=>decide (t=.list),λt=>by show(match h[n]? with|some (.lst _)=>some (decide (t=Ty.list))|_=>none)=_;rw[e3],"list",λt=>mh t,ht.isList.typeIs⟩
 |_=>cases ek
theorem Ie{ts:List Ty}{es:List Expr}{kk:Nat}{p p2:Pos}(hg:Gl X "isinstance")(hm:X.mg "isinstance"=none)(hgt:∀t:Ty,Gl X (Str.ofString (aJ t))/\X.mg (Str.ofString (aJ t))=none)
  (ha:PE X a (tI X.K EX (evE cf a'))) (hs:au a=true) (ht:tyNames es=some ts) (hne:ts≠[]) (hlen:ts.length<=100) :
  PE X (.Call (.Name "isinstance" p) [a,.Tuple es kk p2] [] pos) (tI X.K EX (evE cf (.isi a' ts))):=by
 intro pins s τ H Q I zq6
 obtain⟨ρ,σ,h,re,hr,q⟩:=zq6
 rw[evE]at q
 refine Z6 (gC I hg hm zzC ?_ (by decide +kernel) (by decide +kernel))
 refine PyProof.Rows.callWith_builtin1 ?_ (ar hs _ _) (by rfl)
 have hstar:starEach [a,.Tuple es kk p2] X.env=(false,eval a X.env)::(false,eval (.Tuple es kk p2) X.env)::[]:=by rw[ar hs];rfl
 rw[hstar]
 show wpAny _ _ (spliced ((false,eval a X.env)::backTo pos [(false,eval (.Tuple es kk p2) X.env)])) _ _ s
 refine zzZ (aU (ha pins s τ H (λx H1=>∃ρ1 h1 w1,HRel X.K ρ1 h1 H1/\Rel X.K ρ1 H1 w1 x/\RQ X.K EX ρ1 H1 (match ts.mapM (bq h1 w1) with
   |some bs=>fX (bs.any id) h1
   |none=>.stuck) λw _ ρ' H'=>∀v,Rel X.K ρ' H' w v->Q v H') I ⟨ρ,σ,h,re,hr,q.bnd.mono λw1 h1 ρ1 H1 x1 hr1 q1 v r=>⟨ρ1,h1,w1,hr1,r,q1⟩⟩) λu s1 zq=>?_)
 obtain⟨x,H1,I1,r1,ρ1,h1,w1,hr1,rw1,q1⟩:=zq
 refine aU (Q:=λus s2=>∃p,us=[Value.ref p]/\Inv X pins τ H1 s2/\s2.heap.get? p=some { cls:=.type "tuple",data:=.seq (ts.map λt=>Value.type (aJ t)).toArray }) ?_ λus s2 ⟨p,e1,I2,hp⟩=>?_
 ·show wpAny _ _ (spliced ((false,eval (.Tuple es kk p2) X.env)::[])) _ _ s1
  refine zzZ (wpAny_Tuple_spliced (aU (Em hgt ht p2 pins s1 τ H1 (λvs H'=>vs=ts.map (λt=>V.ty (aJ t))/\H'=H1) I1 ⟨rfl,rfl⟩) λus s2 zq=>?_))
  obtain⟨xs,H2,I2,r2,e1,e2⟩:=zq
  subst e1 e2
  have e3:=qR r2
  subst e3
  refine⟨zf ?_ (zD sizeLine),?_⟩
  ·rw[zo]
   exact zf hlen ZzD
  ·refine zH ⟨s2.heap.objs.size,rfl,I2.kept (t':=s2.toks) λb o e=>hps0 _ e,zG _ rfl⟩
 ·subst e1
  cases em:ts.mapM (bq h1 w1) with
  |none=>rw[em]at q1;exact q1.elim
  |some bs =>
   rw[em]at q1
   have hs0:∃t k,bq h1 w1 t=some k:=by
    cases ts with
    |nil=>exact absurd rfl hne
    |cons t ts=>
     rw[List.mapM_cons]at em;cases ek:bq h1 w1 t with
     |none=>rw[ek]at em;cases em
     |some k=>exact⟨t,k,ek⟩
   obtain⟨f,hf,Tx,hans,hty⟩:=Aj rfl hr1 rw1 I2 r1 hs0
   have eb:=qN hf em
   subst eb
   exact PySem.IsiPair.tupleOf (ui hans ts) hty hp λtk=>⟨.bl _,H1,I2.tok tk,rfl,RQ.here hr1 q1 _ bu⟩
end
section
variable {X:Cx}
variable {EX:cb}{cf:CF}{pos apos:Pos}{a e:Expr}{a' e':E}
end
inductive Gk where
 |fn (n np:Nat)|con (w:W)|cls (c:Nat)|mth (n np:Nat)|ctor (n np:Nat)|bas
structure Cc where
 N:List Str
 sc:Scope
 G:List (Str×Gk)
 mu:List Str
 top:Bool:=true
noncomputable def bltNames:List Str:=["isinstance","len","list","tuple","max","min","int","bool","str","range","sorted","dict","set","all","any","zip","enumerate","reversed","ValueError"]
noncomputable def mn(x:Str):Option Bl:=if x="len" then some .len else if x="list" then some .list else if x="tuple" then some .tuple else if x="max" then some .max else if x="min" then some .min else if x="int" then some .int else if x="sorted" then some .sorted else if x="dict" then some .dict else if x="all" then some .all else if x="any" then some .any else none
theorem A2{x:Str}{b:Bl}(h:mn x=some b):x=kh b:=by
 unfold mn at h
 repeat' split at h
 all_goals first|(cases h;assumption)|cases h
noncomputable def EW(x:Str):Option Ty:=if x="int" then some .int else if x="bool" then some .bool else if x="str" then some .str else if x="tuple" then some .tuple else if x="list" then some .list else none
theorem Eb{x:Str}{t:Ty}(h:EW x=some t):x=Str.ofString (aJ t):=by
 unfold EW at h
 repeat' split at h
 all_goals first|(cases h;assumption)|simp_all
noncomputable def KJ(N:List Str)(x:Str):Option Nat:=N.findIdx? λy=>decide (y=x)
theorem yW{N:List Str}{x:Str}{i:Nat}(h:KJ N x=some i):N[i]?=some x:=by obtain⟨h1,h2,_⟩:=List.findIdx?_eq_some_iff_getElem.mp h;simp_all
noncomputable def Cc.glo(C:Cc)(x:Str):Bool:=decide (C.sc.names.lookup x=some .globalImplicit)
noncomputable def Cc.loc(C:Cc)(x:Str):Bool:=decide (C.sc.names.lookup x=some .local)
noncomputable def Cc.vis(C:Cc)(x:Str):Bool:=decide (C.sc.names.lookup x=some .local)||decide (C.sc.names.lookup x=some .cell)
noncomputable def Cc.sto(C:Cc)(x:Str):Bool:=decide (C.sc.names.lookup x=some .local)||(C.top&&decide (C.sc.names.lookup x=some .cell))
noncomputable def bG(x:Str):Bool:=!(x==("__debug__":Str))&&!(x==("__classdict__":Str))
noncomputable def Ff(e:Expr):List Str:=match e with
 |.Name x _=>[x]
 |_=>[]
noncomputable def kW(tg:Expr):List Str:=".0"::(match tg with
 |.Name x _=>[x]
 |.Tuple es _ _=>es.flatMap Ff
 |_=>[])
noncomputable def jl(N own:List Str):List Str:=(own.drop 1).filter λx=>!N.contains x
noncomputable def Cc.blk(C:Cc)(sc:Scope)(own:List Str):Cc:=⟨C.N++jl C.N own,ig sc C.sc,C.G,[],false⟩
noncomputable def xQ(C:Cc)(sc:Scope)(own:List Str)(is:List Nat):Bool:=decide (sc.kind=.function)&&sc.names.all (λy=>decide (y.2≠.cell))&&sc.names.all (λy=>decide (y.2≠.free\/C.sc.names.lookup y.1=some .cell))
 && sc.names.all (λy=>decide (y.2≠.local\/(sc.names.lookup y.1=some .local/\y.1∈own)))&&decide (C.N++jl C.N own).Nodup&&own.all (λx=>match KJ C.N x with
  |some i=>is.contains i
  |none=>true)
noncomputable def xx(is:List Nat)(n:Nat)(src:It)(ifs':List E)(elt':E):E:=match src with
 |.seq a=>.compS is n a ifs' elt'
 |.rng es=>.compR is n es ifs' elt'
 |.rng2 _ _ _=>.dic0
noncomputable def AO(n:Str):Option (Nat×Nat):=if n="deed" then some (0,0) else if n="part_list" then some (0,1) else if n="follows" then some (0,2) else if n="dead" then some (0,3) else if n="names" then some (1,0) else if n="standings" then some (1,1) else none
theorem xO{n:Str}{p:Nat×Nat}(h:AO n=some p):(aK p.1)[p.2]?=some n:=by
 unfold AO at h
 repeat' split at h
 all_goals first|(cases h;subst_vars;rfl)|cases h
noncomputable def Cc.isCl(C:Cc)(c:Nat):Bool:=match C.G.lookup (eI c) with
 |some (.ctor _ _)=>true
 |_=>false
def HK(K:Fg0)(mg:Str->Option Value)(base:Heap)(C:Addr)(bm:List Value)(z:Str):Prop:=∃J bj,mg z=some (.ref J)/\Eo base J bj/\(Value.ref C::bm).contains (.ref J)=true/\ClsK K C bm
structure Sib (X Y:Cx):Prop where
 prog:Y.prog=X.prog
 w:Y.w=X.w
 K:Y.K=X.K
 mg:Y.mg=X.mg
 base:Y.base=X.base
 A:Y.A=X.A
structure COk (cl:Nat->Addr) (X:Cx) (EX:cb) (cf:CF) (C:Cc):Prop where
 N:X.N=C.N
 nd:C.N.Nodup
 sc:X.env.scope=C.sc
 kind:C.sc.kind=.function
 calm:X.calm=true
 room:X.A.units+64<cLine
 own:PassesOwn (model X.prog X.w) X.A X.env X.xe
 fn:C.top=true->∀x,X.fn x=true
 con:∀x w,C.G.lookup x=some (.con w)->∃u v,X.mg x=some u/\RelV v u/\∀ρ H,Rel X.K ρ H w v
 call:∀(Y:Cx) (EY:cb),Sib X Y->XL cl Y EY->∀x f np,C.G.lookup x=some (.fn f np)->Gl Y x->(x==("__debug__":Str))=false->∀(p pos:Pos) (e:Expr) (es:List Expr) (es':List E),(e::es).all au=true->(e::es).length=np->es'.length=np->PA Y (e::es) (mz Y.K EY (evA cf es')) ->
  PE Y (.Call (.Name x p) (e::es) [] pos) (tI Y.K EY (evE cf (.call f es')))/\PE Y (.Call (.Name x p) (e::es) [] pos) (tI Y.K EY (evE cf (.call (f+1000) es')))
 ctor:∀(Y:Cx) (EY:cb),Sib X Y->XL cl Y EY->∀x f np,C.G.lookup x=some (.ctor f np)->Gl Y x->(x==("__debug__":Str))=false->∀(p pos:Pos) (e:Expr) (es:List Expr) (es':List E),(e::es).all au=true->es'.length+1=np->PA Y (e::es) (mz Y.K EY (evA cf es')) ->
  PE Y (.Call (.Name x p) (e::es) [] pos) (tI Y.K EY (evE cf (.call (f+2000) es')))
 mth:∀(Y:Cx) (EY:cb),Sib X Y->XL cl Y EY->∀m f np,C.G.lookup m=some (.mth f np)->∀(x:Str) (p ap pos:Pos) (a':E) (es:List Expr) (es':List E),ap.endLine=pos.line->es.length<30->es.all au=true->es'.length+1=np->PE Y (.Name x p) (tI Y.K EY (evE cf a'))->es'.length=es.length->PA Y es (mz Y.K EY (evA cf es')) ->
  PE Y (.Call (.Attribute (.Name x p) m ap) es [] pos) (tI Y.K EY (evE cf (.mth f a' es')))
 ocl:∀c f np,C.G.lookup (eI c)=some (.ctor f np)->∃Ca,OCl X.K c Ca
 nob:∀x,x∈bltNames->C.G.lookup x=none->X.mg x=none
 xl:XL cl X EX
 cls:∀x c,C.G.lookup x=some (.cls c)->X.mg x=some (.ref (cl c))/\∃bm,Eo X.base (cl c) bm/\(∀y d,C.G.lookup y=some (.cls d)->(Value.ref (cl c)::bm).contains (.ref (cl d))=decide (c=d))/\∀z,C.G.lookup z=some .bas->HK X.K X.mg X.base (cl c) bm z
section
variable {X:Cx}{EX:cb}{cf:CF}{C:Cc}{cl:Nat->Addr}
theorem COk.gl(H:COk cl X EX cf C){x:Str}(h:C.glo x=true):Gl X x:=by unfold Gl Env.kindOf;rw[H.sc];exact Zd h
theorem COk.ndX(H:COk cl X EX cf C):X.N.Nodup:=by rw[H.N];exact H.nd
theorem COk.ix(H:COk cl X EX cf C){i:Nat}{x:Str}(h:C.N[i]?=some x):X.N[i]?=some x:=by rw[H.N];lia
noncomputable def Cc.bl(C:Cc)(x:Str):Bool:=C.glo x&&(C.G.lookup x).isNone&&decide (x∈bltNames)
theorem COk.bl(H:COk cl X EX cf C){x:Str}(h:C.bl x=true):Gl X x/\X.mg x=none:=by unfold Cc.bl at h;rw[zE,zE]at h;exact⟨H.gl h.1.1,H.nob _ (Zd h.2) (Option.isNone_iff_eq_none.mp h.1.2)⟩
theorem aO(H:COk cl X EX cf C){x:Str}(h:C.sto x=true):sJ X.env.scope x/\(X.fn x=true\/X.env.scope.names.lookup x=some .local):=by unfold Cc.sto at h;rw[zzh,zE]at h;rw[H.sc];rcases h with h|h;exact⟨.inl (Zd h),.inr (Zd h)⟩;exact⟨.inr (Zd h.2),.inl (H.fn h.1 x)⟩
theorem fB(H:COk cl X EX cf C){x:Str}(h:C.vis x=true):va X.env.scope x:=by unfold Cc.vis at h;rw[zzh]at h;rw[H.sc];rcases h with h|h;exact .inl (Zd h);exact .inr (.inl (Zd h))
theorem a8{x:Str}(h:bG x=true):(x==("__debug__"))=false/\(x==("__classdict__"))=false:=by unfold bG at h;simp_all
theorem COk.cla(H:COk cl X EX cf C){c:Nat}(h:C.isCl c=true):∃Ca,OCl X.K c Ca:=by unfold Cc.isCl at h;split at h;rename_i f np e;exact H.ocl c f np e;simp_all
theorem Im(H:COk cl X EX cf C){sc:Scope}{own:List Str}{is:List Nat}(h:xQ C sc own is=true)(cs:List (Str×Addr))(L:Addr)(fp:List Addr)(s:Shared)(H0:Hp) :
  COk cl (blk X (C.N++jl C.N own) sc cs L fp s H0) FX cf (C.blk sc own):=by
 unfold xQ at h
 simp only[zE,Zl]at h
 refine⟨rfl,h.1.2,?_,h.1.1.1.1.1,H.calm,H.room,PassesOwn.never,(λz=>by cases z),H.con,?_,λY EY S hE=>H.ctor Y EY ⟨S.prog,S.w,S.K,S.mg,S.base,S.A⟩ hE,λY EY S hE=>H.mth Y EY ⟨S.prog,S.w,S.K,S.mg,S.base,S.A⟩ hE,H.ocl,H.nob,XL.no (λc h ρ H z=>z),H.cls⟩
 ·show ig sc X.env.scope=ig sc C.sc
  rw[H.sc]
 ·intro Y EY S hE
  exact H.call Y EY ⟨S.prog,S.w,S.K,S.mg,S.base,S.A⟩ hE
theorem Hb(H:COk cl X EX cf C){sc:Scope}{own:List Str}{is:List Nat}(h0:own.head?=some ".0")(h:xQ C sc own is=true):BlkOk X.env.scope X.N (C.N++jl C.N own) sc own /\
  (C.N++jl C.N own).length=X.N.length+(jl C.N own).length/\∀(i:Nat) (x:Str),X.N[i]?=some x->x∈own->i∈is:=by
 unfold xQ at h
 simp only[zE,Zl,Z5]at h
 obtain⟨⟨⟨⟨⟨h1,h2⟩,h3⟩,h4⟩,h5⟩,h6⟩:=h
 refine⟨⟨h1,h2,λy hy hf=>?_,λy hy hl=>?_,λx hx=>?_,⟨jl C.N own,by rw[H.N]⟩,λi x hi hl=>?_⟩,by rw[H.N,zA],λi x hi hx=>?_⟩
 ·rcases h3 y hy with z|z
  ·exact absurd hf z
  ·rw[H.sc];exact z
 ·rcases h4 y hy with z|z
  ·exact absurd hl z
  ·exact z.1
 ·rcases h4 _ (bM hx) with z|z
  ·exact absurd rfl z
  ·exact z.2
 ·rw[H.N]at hl
  rw[zK hl]at hi
  have hm:=zC hi
  exact List.mem_of_mem_drop (zzd.mp hm).1
 ·have q:=h6 x hx
  rw[H.N]at hi
  cases e:KJ C.N x with
  |none =>
   unfold KJ at e
   rw[List.findIdx?_eq_none_iff]at e
   have:=e x (zC hi)
   simp at this
  |some j =>
   rw[e]at q
   have hj:=yW e
   have:j=i:=iM H.nd hj hi
   subst this
   simpa using q
theorem Bi{c':E}(σ:ag)(h:aa):evTs cf [c'] σ h=bw cf c' σ h:=by
 show bnd (iz (evE cf c' σ h)) _=iz (evE cf c' σ h);cases iz (evE cf c' σ h) with
 |ok b h1=>cases b<;>simp[bnd,evTs]
 |exc c h1=>rfl
 |stuck=>rfl
theorem Lh{c a b:Expr}{c' a' b':E}{pos:Pos}(hc:PT X c (fC X.K EX (bw cf c')))(ha:PT X a (fC X.K EX (bw cf a')))(hb:PT X b (fC X.K EX (bw cf b'))):PT X (.IfExp c a b pos) (fC X.K EX (bw cf (.ite c' a' b'))):=by
 intro pins s τ H Q I zq6;obtain⟨ρ,σ,h,re,hr,q⟩:=zq6;rw[BH]at q;refine isTrue_IfExp (aU (hc pins s τ H _ I ⟨ρ,σ,h,re,hr,q.bnd.mono λk h1 ρ1 H1 x1 hr1 q1=>(show(if k=true then fC X.K EX (bw cf a') τ H1 Q else fC X.K EX (bw cf b') τ H1 Q) from ?_)⟩) λk s1 ⟨H1,I1,q1⟩=>?_);cases k with
 |true=>exact rq ⟨ρ1,σ,h1,re.ext x1,hr1,by simp_all⟩
 |false=>exact qM ⟨ρ1,σ,h1,re.ext x1,hr1,by simpa using q1⟩
 cases k with
 |true=>exact ha pins s1 τ H1 Q I1 (by simpa using q1)
 |false=>exact hb pins s1 τ H1 Q I1 (by simpa using q1)
inductive CompP (X:Cx) (EX:cb) (cf:CF) (elt tg it:Expr) (ifs:List Expr) (sc:Scope) (ce:E):Prop
 |mk (wi:TI) (N' own:List Str) (is:List Nat) (n:Nat) (ifs':List E) (elt':E) (q1:PI X tg it wi) (q2:cq it=true) (q3:BlkOk X.env.scope X.N N' sc own) (q4:N'.length=X.N.length+n) (q5:∀(i:Nat) (x:Str),X.N[i]?=some x->x∈own->i∈is)
  (q6:Hm X cf N' sc tg is ifs ifs' elt elt') (q7:∀τ H Q,tI X.K EX (evE cf ce) τ H Q->wi τ H λJ H1=>∀D,H1 D=none->eY D J (kE X.K is) (fC X.K FX (evTs cf ifs')) (tI X.K FX (evE cf elt')) Q (i8 is n τ) H1)
end
section
variable (C:Cc)
structure Ok (e:Expr) (e':E):Prop where
 a:∀{cl X EX cf},COk cl X EX cf C->PE X e (tI X.K EX (evE cf e'))
 t:∀{cl X EX cf},COk cl X EX cf C->PT X e (fC X.K EX (bw cf e'))
 w:∀{cl X EX cf},COk cl X EX cf C->∀op vs p,e=.BoolOp op vs p->PW X e (fC X.K EX (bw cf e'))
structure OkL (es:List Expr) (es':List E):Prop where
 a:∀{cl X EX cf},COk cl X EX cf C->PA X es (mz X.K EX (evA cf es'))
 s:es.all au=true
 l:es'.length=es.length
def QY(o:Option Expr)(o':Option E):Prop:=∀{cl X EX cf},COk cl X EX cf C->PO X o (LJ X.K EX (evO cf o'))
def Ph(e:Expr)(is:List Nat):Prop:=∀{cl X EX cf},COk cl X EX cf C->PG X e (kE X.K is)
def PV(tg it:Expr)(src:It):Prop:=∀{cl X EX cf},COk cl X EX cf C->∀is n ifs' elt',∃wi,PI X tg it wi/\cq it=true/\∀τ H Q,tI X.K EX (evE cf (xx is n src ifs' elt')) τ H Q->wi τ H λJ H1=>∀D,H1 D=none->eY D J (kE X.K is) (fC X.K FX (evTs cf ifs')) (tI X.K FX (evE cf elt')) Q (i8 is n τ) H1
def P1(elt tg it:Expr)(ifs:List Expr)(sc:Scope)(ce:E):Prop:=∀{cl X EX cf},COk cl X EX cf C->CompP X EX cf elt tg it ifs sc ce
abbrev CE(e:Expr):=Option {e':E // Ok C e e'}
end
section
variable {C:Cc}
noncomputable def pl{e:Expr}(e':E)(h:∀{cl X EX cf},COk cl X EX cf C->PE X e (tI X.K EX (evE cf e')))(hp:tG e=true:=by rfl):CE C e:=some ⟨e',h,λH=>CM (h H) hp,λH op vs p z=>by subst z;cases hp⟩
noncomputable def ox{α:Type}:(o:Option α)->Option {a:α // o=some a}
 |some a=>some ⟨a,rfl⟩
 |none=>none
noncomputable def ix(N:List Str)(x:Str):Option {i:Nat // N[i]?=some x}:=(ox (KJ N x)).bind λi=>some ⟨i.1,yW i.2⟩
noncomputable def lk(x:Str):Option {k:Gk // C.G.lookup x=some k}:=ox (C.G.lookup x)
variable (f:∀e,CE C e)
noncomputable def cL:(es:List Expr)->Option {es':List E // OkL C es es'}
 |[]=>some ⟨[],λ_=>mX,rfl,rfl⟩
 |e::es=>(f e).bind λa=>(cL es).bind λas=>if h:au e then some ⟨a.1::as.1,λH=>gN (a.2.a H) (as.2.a H) h,by rw[ZB,h,as.2.s];rfl,by simp[as.2.l]⟩ else none
noncomputable def yL:(es:List Expr)->Option {is:List Nat // (∀{cl X EX cf},COk cl X EX cf C->PGs X es (LI X.K is))/\es.all aM=true/\es.length=is.length}
 |[]=>some ⟨[],λ_=>FN,rfl,rfl⟩
 |.Name x p::es=>(ix C.N x).bind λi=>(yL es).bind λis=>if h:C.sto x then some ⟨i.1::is.1,λH=>DO H.ndX (H.ix i.2) (aO H h).1 (aO H h).2 (is.2.1 H),by rw[ZB,is.2.2.1];rfl,by simp[is.2.2.2]⟩ else none
 |_::_=>none
noncomputable def Oo:(e:Expr)->Option {is:List Nat // Ph C e is}
 |.Name x p=>(ix C.N x).bind λi=>if h:C.sto x then some ⟨[i.1],λH=>EU H.ndX (H.ix i.2) (aO H h).1 (aO H h).2⟩ else none
 |.Tuple es k p=>(yL es).bind λis=>if h:is.1.length=1 then none else some ⟨is.1,λH=>JQ H.calm (is.2.1 H) is.2.2.1 is.2.2.2 h⟩
 |_=>none
noncomputable def cO:(o:Option Expr)->Option {o':Option E // QY C o o'}
 |none=>some ⟨none,λ_=>GU⟩
 |some l=>(f l).bind λl'=>some ⟨some l'.1,λH=>Ha (l'.2.a H)⟩
noncomputable def N1:(ifs:List Expr)->Option {ifs':List E // ∀{cl X EX cf},COk cl X EX cf C->Li X ifs (fC X.K EX (evTs cf ifs'))}
 |[]=>some ⟨[],λ_ pins s σ H Q I ⟨ρ,σ',h,re,hr,q⟩=>DW pins s σ H Q I (by rw[evTs]at q;exact RQ.here hr q)⟩
 |[c]=>(f c).bind λc'=>some ⟨[c'.1],λH pins s σ h Q I ⟨ρ,σ',h',re,hr,q⟩=>Dq (c'.2.t H) pins s σ h Q I ⟨ρ,σ',h',re,hr,by rw[Bi]at q;exact q⟩⟩
 |_=>none
noncomputable def NP(tg it:Expr):Option {src:It // PV C tg it src}:=match it with
 |.Call (.Name x p) [a] ks p2=>(f a).bind λa'=>if ha:au a then(match ks with
  |[]=>if h:x="range"/\C.bl "range" then some ⟨.rng [a'.1],λH is n ifs' elt'=>⟨_,by rw[h.1];exact m8 (H.bl h.2).1 (H.bl h.2).2 (gN (a'.2.a H) mX ha) (ar ha _ _),rfl,FH⟩⟩
   else(f (.Call (.Name x p) [a] [] p2)).bind λc'=>some ⟨.seq c'.1,λH is n ifs' elt'=>⟨_,Ei (c'.2.a H),rfl,El⟩⟩
  |[⟨nm,.Constant (.int i) j kp,kp2⟩]=>(match tg with
   |.Tuple es k tp=>if h:x="enumerate"/\nm=some "start"/\i=1/\C.bl "enumerate" then some ⟨.seq (.enmE 1 a'.1),λH is n ifs' elt'=>⟨_,by rw[h.1,h.2.1,h.2.2.1];exact tO (H.bl h.2.2.2).1 (H.bl h.2.2.2).2 (gN (a'.2.a H) mX ha) (ar ha _ _),rfl,LK⟩⟩ else none
   |_=>none)
  |_=>none) else none
 |.Call (.Name x p) [a,b] [] p2=>(f a).bind λa'=>(f b).bind λb'=>if hs:au a/\au b then(if h:x="range"/\C.bl "range" then some ⟨.rng [a'.1,b'.1],λH is n ifs' elt'=>⟨_,by rw[h.1];exact mP (H.bl h.2).1 (H.bl h.2).2 (gN (a'.2.a H) (gN (b'.2.a H) mX hs.2) hs.1) (by rw[ar hs.1,ar hs.2];rfl) (by rw[ar hs.2];rfl),rfl,GY⟩⟩
  else match tg with
  |.Tuple es k tp=>if h:x="zip"/\C.bl "zip" then some ⟨.seq (.zipE a'.1 b'.1),λH is n ifs' elt'=>⟨_,by rw[h.1];exact HI (H.bl h.2).1 (H.bl h.2).2 (gN (a'.2.a H) (gN (b'.2.a H) mX hs.2) hs.1) (by rw[ar hs.1,ar hs.2];rfl) (by rw[ar hs.2];rfl),rfl,Jr⟩⟩ else none
  |_=>none) else none
 |it=>(f it).bind λa'=>if h:cq it then some ⟨.seq a'.1,λH is n ifs' elt'=>⟨_,Ei (a'.2.a H),h,El⟩⟩ else none
theorem AZ(tg:Expr):(kW tg).head?=some ".0":=rfl
noncomputable def Ja(g:∀(C:Cc) (e:Expr),CE C e)(elt tg it:Expr)(ifs:List Expr)(sc:Scope):Option {ce:E // P1 C elt tg it ifs sc ce} :=
 (Oo (C:=C.blk sc (kW tg)) tg).bind λis=>(g (C.blk sc (kW tg)) elt).bind λelt'=>(N1 (g (C.blk sc (kW tg))) ifs).bind λifs'=>(NP (g C) tg it).bind λsrc =>
  if hb:xQ C sc (kW tg) is.1 then some ⟨xx is.1 (jl C.N (kW tg)).length src.1 ifs'.1 elt'.1,λH=>by
   obtain⟨wi,q1,q2,q3⟩:=src.2 H is.1 (jl C.N (kW tg)).length ifs'.1 elt'.1
   obtain⟨b1,b2,b3⟩:=Hb H (AZ tg) hb
   exact⟨wi,_,_,is.1,_,ifs'.1,elt'.1,q1,q2,b1,b2,b3,λcl L fp s H0=>have HB:=Im H hb cl L fp s H0;⟨is.2 HB,ifs'.2 HB,elt'.2.a HB⟩,q3⟩⟩ else none
noncomputable def MS(k:Const)(j:Nat)(p:Pos):CE C (.Constant k j p):=match k with
 |.int i=>pl (.con (.int i)) λ_=>wQ
 |.bool b=>pl (.con (.bl b)) λ_=>Aw
 |.str s=>pl (.con (.str s)) λ_=>wg
 |.none=>pl (.con .non) λ_=>wU
 |_=>none
noncomputable def QB(x:Str)(p:Pos):CE C (.Name x p):=if ho:bG x then(match ix C.N x with
 |some i=>if h:C.vis x then pl (.var i.1) λH=>LS (H.ix i.2) (fB H h) (a8 ho).1 (a8 ho).2 else none
 |none=>(lk x).bind λk=>match k with
  |⟨.con w,hw⟩=>if hg:C.glo x then pl (.con w) λH=>let ⟨_,_,h1,h2,h3⟩:=H.con x w hw;G7 (H.gl hg) h1 h2 h3 (a8 ho).1 else none
  |_=>none) else none
noncomputable def QZ(op:UnaryOp)(a:Expr)(p:Pos):CE C (.UnaryOp op a p):=(f a).bind λa'=>match op with
 |.Not=>some ⟨.not_ a'.1,λH=>Jc (a'.2.a H),λH=>Lv (a'.2.t H),λ_ _ _ _ z=>by cases z⟩
 |.USub=>pl (.neg a'.1) λH=>JL (a'.2.a H)
 |_=>none
noncomputable def NT(a:Expr)(ops:List CmpOp)(bs:List Expr)(p:Pos):CE C (.Compare a ops bs p):=match ops,bs with
 |[op],[b]=>(f a).bind λa'=>(f b).bind λb'=>if hp:k8 b then some ⟨.cmp op a'.1 b'.1,λH=>Kl H.room (a'.2.a H) (b'.2.a H) hp,λH=>KS H.room (a'.2.a H) (b'.2.a H) hp,λ_ _ _ _ z=>by cases z⟩ else none
 |[op,op'],[b,c]=>(f a).bind λa'=>(f b).bind λb'=>(f c).bind λc'=>if hp:lastMarks [op,op'] [b,c]=false then some ⟨.chn op op' a'.1 b'.1 c'.1,λH=>Kd H.room (a'.2.a H) (b'.2.a H) (c'.2.a H) hp,λH=>Kh H.room (a'.2.a H) (b'.2.a H) (c'.2.a H) hp,λ_ _ _ _ z=>by cases z⟩ else none
 |_,_=>none
noncomputable def KY(op:BoolOp)(vs:List Expr)(p:Pos):CE C (.BoolOp op vs p):=match vs with
 |[]=>none
 |[a]=>(f a).bind λa'=>some ⟨a'.1,λH=>ET (a'.2.a H),λH=>(ye (a'.2.t H)).pt,λH _ _ _ z=>by cases z;exact ye (a'.2.t H)⟩
 |a::b::r=>(f a).bind λa'=>(f (.BoolOp op (b::r) p)).bind λb'=>match op,b' with
  |.And,b'=>some ⟨.and_ a'.1 b'.1,λH=>KW (a'.2.a H) (b'.2.a H),λH=>(ED (a'.2.t H) (b'.2.w H _ _ _ rfl)).pt,λH _ _ _ z=>by cases z;exact ED (a'.2.t H) (b'.2.w H _ _ _ rfl)⟩
  |.Or,b'=>some ⟨.or_ a'.1 b'.1,λH=>NY (a'.2.a H) (b'.2.a H),λH=>(LV (a'.2.t H) (b'.2.w H _ _ _ rfl)).pt,λH _ _ _ z=>by cases z;exact LV (a'.2.t H) (b'.2.w H _ _ _ rfl)⟩
noncomputable def M8(a b:Expr)(p:Pos):CE C (.Subscript a b p):=(f a).bind λa'=>match b with
 |.Slice lo hi none p2=>(cO f lo).bind λlo'=>(cO f hi).bind λhi'=>pl (.sl a'.1 lo'.1 hi'.1) λH=>NC (a'.2.a H) (lo'.2 H) (hi'.2 H)
 |b=>(f b).bind λb'=>if hp:gR b then pl (.ix a'.1 b'.1) λH=>NG H.room (a'.2.a H) (b'.2.a H) hp else none
noncomputable def Na(a:Expr)(n:Str)(p:Pos):CE C (.Attribute a n p):=match hq:AO n with
 |some q=>(f a).bind λa'=>if h:C.isCl q.1/\eE a then pl (.fld q.1 q.2 a'.1) λH=>let ⟨_,O⟩:=H.cla h.1;JB O (xO hq) (a'.2.a H) h.2 else none
 |none=>none
noncomputable def NZ(a t:Expr)(p1 p:Pos):CE C (.Call (.Name "isinstance" p1) [a,t] [] p):=(f a).bind λa'=>if h:au a/\C.bl "isinstance" then(match t with
 |.Name t p2=>(match ht:EW t with
  |some ty=>if h2:C.bl t then pl (.isi a'.1 [ty]) λH=>by
   have ht:=Eb ht
   subst ht
   exact Jp (H.bl h.2).1 (H.bl h.2).2 (H.bl h2).1 (H.bl h2).2 (a'.2.a H) h.1 else none
  |none=>none)
 |.Tuple ts k p2=>(match ht:tyNames ts with
  |some tys=>if h2:tys≠[]/\tys.length<=100/\C.bl "int"/\C.bl "bool"/\C.bl "str"/\C.bl "tuple"/\C.bl "list" then pl (.isi a'.1 tys) λH=>Ie (H.bl h.2).1 (H.bl h.2).2 (λt=>by obtain⟨_,_,b1,b2,b3,b4,b5⟩:=h2;cases t<;>first|exact H.bl b1|exact H.bl b2|exact H.bl b3|exact H.bl b4|exact H.bl b5) (a'.2.a H) h.1 ht h2.1 h2.2.1 else none
  |none=>none)
 |_=>none) else none
noncomputable def vx(x:Str)(p:Pos)(e:Expr)(es:List Expr)(pos:Pos):CE C (.Call (.Name x p) (e::es) [] pos):=match hb:mn x with
 |some b=>(cL f (e::es)).bind λes'=>if h:C.bl x then pl (.blt b es'.1) λH=>by have hx:=A2 hb;subst hx;exact J6 H.calm (H.bl h).1 (H.bl h).2 (es'.2.a H) es'.2.s else none
 |none=>none
noncomputable def nM(x:Str)(p:Pos)(e:Expr)(es:List Expr)(pos:Pos):CE C (.Call (.Name x p) (e::es) [] pos):=(lk x).bind λk=>(cL f (e::es)).bind λes'=>if h:C.glo x/\bG x then(match k with
 |⟨.fn g np,hg⟩=>if hl:(e::es).length=np then pl (.call g es'.1) λH=>(H.call _ _ ⟨rfl,rfl,rfl,rfl,rfl,rfl⟩ H.xl x g np hg (H.gl h.1) (a8 h.2).1 _ _ _ _ _ es'.2.s hl (es'.2.l.trans hl) (es'.2.a H)).1 else none
 |⟨.ctor g np,hg⟩=>if hl:(e::es).length+1=np then pl (.call (g+2000) es'.1) λH=>H.ctor _ _ ⟨rfl,rfl,rfl,rfl,rfl,rfl⟩ H.xl x g np hg (H.gl h.1) (a8 h.2).1 _ _ _ _ _ es'.2.s (by rw[es'.2.l];exact hl) (es'.2.a H) else none
 |_=>none) else none
noncomputable def GD(x:Str)(p:Pos)(e:Expr)(es:List Expr)(pos:Pos):CE C (.Call (.Name x p) (e::es) [] pos):=match es,e with
 |[t],e=>if h:x="isinstance" then(NZ f e t p pos).bind λc=>some ⟨c.1,by rw[h];exact c.2⟩ else if(mn x).isSome then vx f x p e [t] pos else nM f x p e [t] pos
 |[],.Call (.Name y p1) [a] [] p2=>if x="" then none
  else if x="len"/\y="set" then(f a).bind λa'=>if h:x="len"/\y="set"/\C.bl "len"/\C.bl "set"/\au a then pl (.slen a'.1) λH=>by rw[h.1,h.2.1];exact HD H.calm (H.bl h.2.2.1).1 (H.bl h.2.2.1).2 (H.bl h.2.2.2.1).1 (H.bl h.2.2.2.1).2 (a'.2.a H) h.2.2.2.2 else none
  else if(mn x).isSome then vx f x p (.Call (.Name y p1) [a] [] p2) [] pos else nM f x p (.Call (.Name y p1) [a] [] p2) [] pos
 |[],.Call (.Name y p1) [a,b] [] p2=>if x="list"/\y="range" then(f a).bind λa'=>(f b).bind λb'=>if h:x="list"/\y="range"/\C.bl "list"/\C.bl "range"/\au a/\au b then pl (.lrng a'.1 b'.1) λH=>by rw[h.1,h.2.1];exact Hf H.calm (H.bl h.2.2.1).1 (H.bl h.2.2.1).2 (H.bl h.2.2.2.1).1 (H.bl h.2.2.2.1).2 (a'.2.a H) (b'.2.a H) h.2.2.2.2.1 h.2.2.2.2.2 else none
  else if(mn x).isSome then vx f x p (.Call (.Name y p1) [a,b] [] p2) [] pos else nM f x p (.Call (.Name y p1) [a,b] [] p2) [] pos
 |es,e=>if(mn x).isSome then vx f x p e es pos else nM f x p e es pos
noncomputable def Fc(x:Str)(p:Pos)(m:Str)(ap pos:Pos)(es:List Expr):CE C (.Call (.Attribute (.Name x p) m ap) es [] pos):=(lk m).bind λk=>match k with
 |⟨.mth g np,hg⟩=>(f (.Name x p)).bind λa'=>(cL f es).bind λes'=>if h:ap.endLine=pos.line/\es.length+1=np/\es.length<30 then pl (.mth g a'.1 es'.1) λH=>H.mth _ _ ⟨rfl,rfl,rfl,rfl,rfl,rfl⟩ H.xl m g np hg _ _ _ _ _ _ _ h.1 h.2.2 es'.2.s (by rw[es'.2.l];exact h.2.1) (a'.2.a H) es'.2.l (es'.2.a H) else none
 |_=>none
noncomputable def EA(a:Expr)(m:Str)(ap pos:Pos)(es:List Expr):CE C (.Call (.Attribute a m ap) es [] pos):=(f a).bind λa'=>if h:ap.endLine=pos.line/\eE a then(match es with
 |[b]=>(f b).bind λb'=>if hb:au b then(
   if hm:m="append" then pl (.meth .append a'.1 [b'.1]) λH=>by rw[hm];exact yQ (a'.2.a H) (b'.2.a H) hb h.2 h.1
   else if hm:m="extend" then pl (.meth .extend a'.1 [b'.1]) λH=>by rw[hm];exact xC (a'.2.a H) (b'.2.a H) hb h.2 h.1
   else if hm:m="get" then pl (.meth .get a'.1 [b'.1]) λH=>by rw[hm];exact Lq H.room (a'.2.a H) (b'.2.a H) hb h.2 h.1
   else none) else none
 |[]=>if m="" then none
  else if hm:m="pop" then pl (.meth .pop a'.1 []) λH=>by rw[hm];exact J4 (a'.2.a H) h.2 h.1
  else none
 |_=>none) else none
noncomputable def J0(g:Expr)(es:List Expr)(pos:Pos):CE C (.Call g es [] pos):=match g with
 |.Name x p=>(match es with
  |e::es=>GD f x p e es pos
  |[]=>none)
 |.Attribute (.Name x p) m ap=>if(C.G.lookup m).isSome then Fc f x p m ap pos es else EA f (.Name x p) m ap pos es
 |.Attribute a m ap=>EA f a m ap pos es
 |_=>none
end
noncomputable def cE:Nat->(C:Cc)->(e:Expr)->CE C e
 |0,_,_=>none
 |n+1,C,e=>match e with
  |.Constant k j p=>MS k j p
  |.Dict [] [] p=>pl .dic0 λ_=>G3
  |.Name x p=>QB x p
  |.BinOp a op b p=>(cE n C a).bind λa'=>(cE n C b).bind λb'=>pl (.bin op a'.1 b'.1) λH=>Jl (GL _) (a'.2.a H) (b'.2.a H)
  |.UnaryOp op a p=>QZ (cE n C) op a p
  |.Compare a ops bs p=>NT (cE n C) a ops bs p
  |.BoolOp op vs p=>KY (cE n C) op vs p
  |.IfExp c a b p=>(cE n C c).bind λc'=>(cE n C a).bind λa'=>(cE n C b).bind λb'=>some ⟨.ite c'.1 a'.1 b'.1,λH=>JV (c'.2.t H) (a'.2.a H) (b'.2.a H),λH=>Lh (c'.2.t H) (a'.2.t H) (b'.2.t H),λ_ _ _ _ z=>by cases z⟩
  |.Tuple es k p=>(cL (cE n C) es).bind λes'=>pl (.tup es'.1) λH=>Ju (es'.2.a H)
  |.List es p=>(cL (cE n C) es).bind λes'=>pl (.lst es'.1) λH=>IQ (es'.2.a H)
  |.Subscript a b p=>M8 (cE n C) a b p
  |.Attribute a x p=>Na (cE n C) a x p
  |.ListComp elt [⟨tg,it,ifs,0⟩] sc p=>(Ja (cE n) elt tg it ifs sc).bind λce=>pl ce.1 λH=>let ⟨_,_,_,_,_,_,_,q1,q2,q3,q4,q5,q6,q7⟩:=ce.2 H;y7 H.calm q1 q2 q3 q4 q5 q6 q7
  |.Call g es [] p=>J0 (cE n C) g es p
  |_=>none
def Oq(X:Cx):Prop:=X.stack=X.env::X.outer/\X.env.frame=some X.env.locals
section
variable (C:Cc)
def OC(s:Stmt)(s':S):Prop:=∀{cl X EX cf fw},COk cl X EX cf C->XM cl X EX->Oq X->PS X s (dg X.K EX (exS cf fw s'))
def LM(ss:List Stmt)(ss':List S):Prop:=∀{cl X EX cf fw},COk cl X EX cf C->XM cl X EX->Oq X->PSs X ss (dg X.K EX (aA cf fw ss'))
def P7(e:Expr)(e':E):Prop:=∀{cl X EX cf},COk cl X EX cf C->PE X e (tI X.K EX (evE cf e'))
def Pn(e:Expr)(e':E):Prop:=∀{cl X EX cf},COk cl X EX cf C->PE X e (BY X.K EX (evF cf e'))
abbrev CS(s:Stmt):=Option {s':S // OC C s s'}
end
theorem COk.loc{X:Cx}{EX:cb}{cf:CF}{C:Cc}{cl:Nat->Addr}(H:COk cl X EX cf C){x:Str}(h:C.loc x=true):X.env.scope.names.lookup x=some .local:=by rw[H.sc];exact Zd h
section
variable {C:Cc} (n:Nat)
noncomputable def cF(e:Expr):Option {e':E // Pn C e e'}:=match e with
 |.List es p=>(cL (cE n C) es).bind λes'=>some ⟨.lst es'.1,λH=>Jq (es'.2.a H)⟩
 |.BinOp a .Mult b p=>(cE n C a).bind λa'=>(cE n C b).bind λb'=>some ⟨.bin .Mult a'.1 b'.1,λH=>Js (a'.2.a H) (b'.2.a H)⟩
 |.BinOp a .Add b p=>(cE n C a).bind λa'=>(cE n C b).bind λb'=>some ⟨.bin .Add a'.1 b'.1,λH=>Kq (a'.2.a H) (b'.2.a H)⟩
 |.Call (.Name x p) [a] [] p2=>(cE n C a).bind λa'=>if h:x="list"/\C.bl "list"/\au a then some ⟨.blt .list [a'.1],λH=>by rw[h.1];exact Ip (H.bl h.2.1).1 (H.bl h.2.1).2 (a'.2.a H) h.2.2⟩ else none
 |_=>none
noncomputable def wX(e:Expr):Bool:=match e with
 |.List ..=>true
 |.BinOp ..=>true
 |.Call (.Name x _) _ _ _=>decide (x="list")
 |.Subscript _ (.Slice none none (some _) _) _=>true
 |_=>false
noncomputable def Ce(n:Nat)(e:Expr):Option {e':E // P7 C e e'}:=match e with
 |_=>none
noncomputable def oX(C:Cc)(e:Expr):Bool:=match e with
 |.BinOp _ .Add (.List _ _) _=>true
 |.Call (.Name x _) _ _ _=>(match C.G.lookup x with
  |some (.fn _ _)=>true
  |_=>false)
 |_=>false
noncomputable def L1(n:Nat)(x f:Str)(e:Expr)(p3 p4 p5 q1:Pos)(s2:Stmt):Option {d:S // ∀sts ss',LM C sts ss'->LM C (.Assign [.Name x p3] (.Call (.Name f p4) [e] [] p5) q1::s2::sts) (d::ss')}:=match s2 with
 |.Assign [.Subscript (.Name y p6) (.Name k p7) p8] (.Name vn p9) q2=>(ix C.N x).bind λi=>(ix C.N k).bind λki=>(ix C.N vn).bind λv=>(cE n C e).bind λe' =>
  if h:x=y/\f="dict"/\C.mu.contains x=false/\C.sto x/\C.vis x/\bG x/\C.vis k/\bG k/\C.vis vn/\bG vn/\C.bl "dict"/\au e then some ⟨.dupd i.1 e'.1 ki.1 v.1,λsts ss' hss cl X EX cf fw H M K=>by
   obtain⟨rfl,rfl,_,c3,c4,c5,c6,c7,c8,c9,c10,c12⟩:=h
   exact JU H.room H.ndX (H.ix i.2) (aO H c3).1 (aO H c3).2 (fB H c4) (a8 c5) (H.ix ki.2) (fB H c6) (a8 c7) (H.ix v.2) (fB H c8) (a8 c9) (H.bl c10).1 (H.bl c10).2 (e'.2.a H) c12 (hss H M K)⟩ else none
 |_=>none
noncomputable def M9(s1 s2:Stmt):Option {d:S // ∀sts ss',LM C sts ss'->LM C (s1::s2::sts) (d::ss')}:=match s1 with
 |.Assign [.Name x p3] (.Call (.Name f p4) [e] [] p5) q1=>L1 n x f e p3 p4 p5 q1 s2
 |_=>none
variable (f:∀s,CS C s)
noncomputable def cB:(ss:List Stmt)->Option {ss':List S // LM C ss ss'}
 |[]=>some ⟨[],λ_ _ _=>E9⟩
 |[s]=>(f s).bind λa=>some ⟨[a.1],λH M K=>Bj (a.2 H M K) E9⟩
 |s::s2::ss=>match M9 n (C:=C) s s2 with
  |some d=>(cB ss).bind λas=>some ⟨d.1::as.1,d.2 _ _ as.2⟩
  |none=>(f s).bind λa=>(cB (s2::ss)).bind λas=>some ⟨a.1::as.1,λH M K=>Bj (a.2 H M K) (as.2 H M K)⟩
theorem Fs{X:Cx}{EX:cb}{cf:CF}{fw:Nat}{pos:Pos}:PS X (.Return none pos) (dg X.K EX (exS cf fw (.ret (.con .non)))):=ps_retN.sub λD τ H zq=>by obtain⟨ρ,σ,h,re,hr,q⟩:=zq;exact RQ.here hr q _ lh
noncomputable def OY(e:Expr):Option {p:Fp // ∀{cl X EX cf},COk cl X EX cf C->PF X e p}:=match e with
 |.FormattedValue (.Name x p1) cv none p2=>if hv:cv=-1 then(if h:C.vis x/\bG x then(ix C.N x).bind λi=>some ⟨.var i.1,λH=>by rw[hv];exact Gh (H.ix i.2) (fB H h.1) (a8 h.2).1 (a8 h.2).2⟩
   else if h:C.glo x/\bG x then(lk (C:=C) x).bind λk=>match k with
    |⟨.con (.int n),hn⟩=>if hz:n.natAbs<10^100 then some ⟨.con,λH=>by
     obtain⟨u,v,hm,r,rr⟩:=H.con x _ hn
     cases az (rr [] nowh)
     obtain⟨t,rfl⟩:=r
     rw[hv]
     exact Fb (H.gl h.1) hm (a8 h.2).1 hz⟩ else none
    |_=>none
   else none)
  else if hv:cv=114/\C.vis x/\bG x then(ix C.N x).bind λi=>some ⟨.rep i.1,λH=>by rw[hv.1];exact Ge (H.ix i.2) (fB H hv.2.1) (a8 hv.2.2).1 (a8 hv.2.2).2⟩ else none
 |.Constant (.str z) j p=>if hl:z.length<=1000 then some ⟨.lit,λ_=>HY hl⟩ else none
 |_=>none
noncomputable def LY:(es:List Expr)->Option {ps:List Fp // ∀{cl X EX cf},COk cl X EX cf C->PFs X es ps}
 |[]=>some ⟨[],λ_=>.nil⟩
 |e::es=>(OY e).bind λp=>(LY es).bind λps=>some ⟨p.1::ps.1,λH=>.cons (p.2 H) (ps.2 H)⟩
noncomputable def Io(e:Expr):Option {s':S // ∀pos,OC C (.Raise (some e) none pos) s'}:=match e with
 |.Call (.Name x np) [a] [] cp=>(lk x).bind λk=>if h:C.glo x/\bG x/\au a then(match k,a with
  |⟨.cls c,hc⟩,.Constant (.str z) j p=>some ⟨.raise c [],λ_ _ _ _ _ _ H M _=>let ⟨hm,_,O,_⟩:=H.cls x c hc;uD H.calm (H.gl h.1) hm (a8 h.2.1).1 O M DN h.2.2⟩
  |⟨.cls c,hc⟩,.JoinedStr (e1::e2::es) p=>(LY (C:=C) (e1::e2::es)).bind λps=>if hl:(e1::e2::es).length<=20 then some ⟨.raise c ps.1,λ_ _ _ _ _ _ H M _=>let ⟨hm,_,O,_⟩:=H.cls x c hc;uD H.calm (H.gl h.1) hm (a8 h.2.1).1 O M (ya (ps.2 H) hl) h.2.2⟩ else none
  |_,_=>none) else none
 |_=>none
noncomputable def Pp(st:Stmt):Option {hd:Hd // ∀{cl X EX cf},COk cl X EX cf C->∀v E,PS (Cx.hnd X v E) st (Oz X.K hd)}:=match st with
 |.Return (some (.Constant (.str z) j p)) p2=>some ⟨.ret (.str z),λ{_ X _ _} H v E=>(sV (X:=Cx.hnd X v E) pe_str).sub λD τ H ⟨c,ρ,h,σ,re,hr,q⟩=>q _ gB⟩
 |.Assign [.Name y p] (.Constant (.str z) j p2) p3=>(ix C.N y).bind λi=>if hc:C.sto y then some ⟨.asg i.1 (.str z),λ{_ X _ _} H v E=>by
  refine(fM (X:=Cx.hnd X v E) H.ndX (H.ix i.2) (aO H hc).1 pe_str rfl (aO H hc).2).sub λD τ H' zq=>?_
  obtain⟨c,ρ,h,σ,re,hr,q⟩:=zq
  refine q _ (RelE.set (re (σ.map λ_=>none) ZzS (λk w z=>?_)) i.1 gB)
  rw[zT]at z
  cases e:σ[k]? with
  |none=>rw[e]at z;cases z
  |some o=>rw[e]at z;cases z⟩ else none
 |_=>none
noncomputable def O7:(hs:List ExceptHandler)->Option {hs':List (Nat×Hd) // (∀{cl X EX cf},COk cl X EX cf C->HdsOk X cl hs hs')/\∀d∈hs'.map (·.1),∃x,C.G.lookup x=some (.cls d)}
 |[]=>some ⟨[],λ_=>.nil,ZzS⟩
 |hb::hs=>match hb with
  |.ExceptHandler (some (.Name x np)) none [st] pp=>(Pp st).bind λhd=>(O7 hs).bind λps=>(lk x).bind λk=>(match k with
   |⟨.cls d,hk⟩=>if hc:C.glo x/\bG x then some ⟨(d,hd.1)::ps.1,λH=>.cons ⟨x,np,st,pp,rfl,H.gl hc.1,(H.cls x d hk).1,(a8 hc.2).1,hd.2 H⟩ (ps.2.1 H),λc hc'=>by
    rcases zS.mp hc' with rfl|hc'
    ·exact⟨x,hk⟩
    ·exact ps.2.2 c hc'⟩ else none
   |_=>none)
  |_=>none
theorem COk.aim{X:Cx}{EX:cb}{cf:CF}{C:Cc}{cl:Nat->Addr}(H:COk cl X EX cf C){pn:List (Addr×Obj)}{xe:Value->Shared->Prop}{EY:cb}(ho:PassesOwn (model X.prog X.w) X.A X.env xe)(hx:XL cl (Cx.aim X pn xe) EY):COk cl (Cx.aim X pn xe) EY cf C :=
 ⟨H.N,H.nd,H.sc,H.kind,H.calm,H.room,ho,H.fn,H.con,λY EY S=>H.call Y EY ⟨S.prog,S.w,S.K,S.mg,S.base,S.A⟩,λY EY S=>H.ctor Y EY ⟨S.prog,S.w,S.K,S.mg,S.base,S.A⟩,λY EY S=>H.mth Y EY ⟨S.prog,S.w,S.K,S.mg,S.base,S.A⟩,H.ocl,H.nob,hx,H.cls⟩
theorem COk.cs{X:Cx}{EX:cb}{cf:CF}{C:Cc}{cl:Nat->Addr}(H:COk cl X EX cf C){cs:List Nat}(q2:∀d∈cs,∃x,C.G.lookup x=some (.cls d)):∀c∈cs,∃bm,Eo X.base (cl c) bm/\∀d∈cs,(Value.ref (cl c)::bm).contains (.ref (cl d))=decide (c=d):=λc hc=>by obtain⟨x,hx⟩:=q2 c hc;obtain⟨_,bm,O,hb⟩:=H.cls x c hx;exact⟨bm,O,λd hd=>let ⟨y,hy⟩:=q2 d hd;hb.1 y d hy⟩
noncomputable def Kg(x:Str)(p:Pos)(e:Expr)(pos:Pos):CS C (.Assign [.Name x p] e pos):=(ix C.N x).bind λi=>if hs:C.sto x then(
 if C.mu.contains x then(match e with
  |.Dict [some a] [b] p2=>(cE n C a).bind λa'=>(cE n C b).bind λb'=>some ⟨.freshD1 i.1 a'.1 b'.1,λH _ _=>wy H.ndX (H.ix i.2) (aO H hs).1 (aO H hs).2 (a'.2.a H) (b'.2.a H)⟩
  |.Call (.Name d p4) [a] [] p5=>if d="dict" then(cE n C a).bind λa'=>if h:d="dict"/\C.bl "dict"/\au a then some ⟨.freshC i.1 a'.1,λH _ _=>by rw[h.1];exact yJ H.ndX (H.ix i.2) (aO H hs).1 (aO H hs).2 (H.bl h.2.1).1 (H.bl h.2.1).2 (a'.2.a H) h.2.2⟩ else none
   else if d="list" then(cF n (.Call (.Name d p4) [a] [] p5)).bind λe'=>some ⟨.fresh i.1 e'.1,λH _ _=>uo H.ndX (H.ix i.2) (aO H hs).1 (aO H hs).2 (e'.2 H) rfl⟩
   else(Ce n (.Call (.Name d p4) [a] [] p5)).bind λe'=>some ⟨.asg i.1 e'.1,λH _ _=>yq H.ndX (H.ix i.2) (aO H hs).1 (aO H hs).2 (e'.2 H) rfl⟩
  |e=>if h:cG e then(if wX e then(cF n e).bind λe'=>some ⟨.fresh i.1 e'.1,λH _ _=>uo H.ndX (H.ix i.2) (aO H hs).1 (aO H hs).2 (e'.2 H) h⟩
   else(cE n C e).bind λe'=>some ⟨.asg i.1 e'.1,λH _ _=>yq H.ndX (H.ix i.2) (aO H hs).1 (aO H hs).2 (e'.2.a H) h⟩) else none)
 else match e with
  |.ListComp elt [⟨tg,it,ifs,0⟩] sc p=>(Ja (cE (n-1)) elt tg it ifs sc).bind λce=>some ⟨.asg i.1 ce.1,λH _ _=>let ⟨_,_,_,_,_,_,_,q1,q2,q3,q4,q5,q6,q7⟩:=ce.2 H;F8 H.ndX (H.ix i.2) (aO H hs).1 (aO H hs).2 H.calm q1 q2 q3 q4 q5 q6 q7⟩
  |e=>if h:cG e then(cE n C e).bind λe'=>some ⟨.asg i.1 e'.1,λH _ _=>yq H.ndX (H.ix i.2) (aO H hs).1 (aO H hs).2 (e'.2.a H) h⟩ else none) else none
noncomputable def M7(tg e:Expr)(pos:Pos):CS C (.Assign [tg] e pos):=match tg,e with
 |.Name x p,e=>Kg n x p e pos
 |.Tuple [.Name x px,.Name y py] k p,.Tuple [a,b] k2 p2=>(ix C.N x).bind λi=>(ix C.N y).bind λj=>(cE n C a).bind λa'=>(cE n C b).bind λb' =>
  if h:C.loc x/\C.loc y/\i.1≠j.1/\py.line=px.line/\au a/\au b/\(foldedForSure 8 a&&foldedForSure 8 b)=false/\(constantsAlone 8 a&&constantsAlone 8 b)=false then some ⟨.par i.1 j.1 a'.1 b'.1,λH _ _=>by
   obtain⟨c1,c2,c3,c4,c5,c6,c7,c8⟩:=h
   exact KG H.calm H.ndX (H.ix i.2) (H.ix j.2) c3 (by rw[H.sc];exact H.kind) (H.loc c1) (H.loc c2) c4 c5 c6 c7 c8 (a'.2.a H) (b'.2.a H)⟩ else none
 |.Tuple es k p,e=>(Oo (.Tuple es k p)).bind λis=>(cE n C e).bind λe'=>if h:cG e/\A9 e/\is.1.length≠1 then some ⟨.unp is.1 e'.1,λH _ _=>Jy (is.2 H) h.2.2 (e'.2.a H) h.1 h.2.1⟩ else none
 |.Subscript a b p,e=>(cE n C a).bind λa'=>(cE n C b).bind λb'=>(cE n C e).bind λe'=>if h:cG e/\gR b then some ⟨.setix a'.1 b'.1 e'.1,λH _ _=>DX H.room (a'.2.a H) (b'.2.a H) (e'.2.a H) h.1 h.2⟩ else none
 |_,_=>none
noncomputable def MT(o:Option Expr)(pos:Pos):CS C (.Return o pos):=match o with
 |some e=>if C.mu.contains "return"&&oX C e then(Ce n e).bind λe'=>some ⟨.ret e'.1,λH _ _=>A7 (e'.2 H)⟩
  else(cE n C e).bind λe'=>some ⟨.ret e'.1,λH _ _=>A7 (e'.2.a H)⟩
 |none=>some ⟨.ret (.con .non),λ_ _ _=>Fs⟩
noncomputable def N5(tg a:Expr)(b:List Stmt)(pos:Pos):CS C (.For tg a b [] pos):=(Oo (C:=C) tg).bind λis=>(cB n f b).bind λb'=>match a with
 |.Call (.Name x p) [e1] ks p2=>(match ks with
  |[]=>(cE n C e1).bind λe1'=>if h:x="range"/\C.bl "range"/\au e1 then some ⟨.for_ is.1 (.rng [e1'.1]) b'.1,λH M K=>by rw[h.1];exact Hi H.own H.calm (H.bl h.2.1).1 (H.bl h.2.1).2 (e1'.2.a H) h.2.2 (is.2 H) (b'.2 H M K)⟩
   else(cE n C (.Call (.Name x p) [e1] [] p2)).bind λa'=>some ⟨.for_ is.1 (.seq a'.1) b'.1,λH M K=>yV H.own H.calm (a'.2.a H) (is.2 H) (b'.2 H M K) rfl⟩
  |[⟨nm,.Constant (.int i) j kp,kp2⟩]=>(cE n C e1).bind λe1'=>(match tg,is with
   |.Tuple es k tp,is=>if h:x="enumerate"/\nm=some "start"/\i=1/\C.bl "enumerate"/\au e1 then some ⟨.for_ is.1 (.seq (.enmE 1 e1'.1)) b'.1,λH M K=>by rw[h.1,h.2.1,h.2.2.1];exact DL H.own H.calm (tO (H.bl h.2.2.2.1).1 (H.bl h.2.2.2.1).2 (gN (e1'.2.a H) mX h.2.2.2.2) (ar h.2.2.2.2 _ _)) (is.2 H) (b'.2 H M K) rfl⟩ else none
   |_,_=>none)
  |_=>none)
 |.Call (.Name x p) [e1,e2] [] p2=>(cE n C e1).bind λe1'=>(cE n C e2).bind λe2'=>if h:x="range"/\C.bl "range"/\au e1/\au e2 then some ⟨.for_ is.1 (.rng [e1'.1,e2'.1]) b'.1,λH M K=>by rw[h.1];exact Gz H.own H.calm (H.bl h.2.1).1 (H.bl h.2.1).2 (e1'.2.a H) (e2'.2.a H) h.2.2.1 h.2.2.2 (is.2 H) (b'.2 H M K)⟩
  else(cE n C (.Call (.Name x p) [e1,e2] [] p2)).bind λa'=>some ⟨.for_ is.1 (.seq a'.1) b'.1,λH M K=>yV H.own H.calm (a'.2.a H) (is.2 H) (b'.2 H M K) rfl⟩
 |a=>(cE n C a).bind λa'=>if h:cq a then some ⟨.for_ is.1 (.seq a'.1) b'.1,λH M K=>yV H.own H.calm (a'.2.a H) (is.2 H) (b'.2 H M K) h⟩ else none
noncomputable def Cc.all(C:Cc):List Nat:=C.G.filterMap λp=>match C.G.lookup p.1 with
 |some (.cls c)=>some c
 |_=>none
theorem Cc.all_mem{C:Cc}{c:Nat}(h:c∈C.all):∃x,C.G.lookup x=some (.cls c):=by
 obtain⟨p,_,hp⟩:=zzv.mp h
 split at hp
 ·grind
 simp_all
structure Exn (C:Cc) (cl:Nat->Addr) (X:Cx) (en:Str) (ie:Nat) (pn:List (Addr×Obj)) (ea:Addr) (oe:Obj) (c:Nat) (bm:List Value):Prop where
 hp:(ea,oe)∈pn
 hc:oe.cls=.ref (cl c)
 O:Eo X.base (cl c) bm
 OK:ClsK X.K (cl c) bm
 sub:∀y d,C.G.lookup y=some (.cls d)->(Value.ref (cl c)::bm).contains (.ref (cl d))=decide (c=d)
 hg:Gl X "isinstance"/\X.mg "isinstance"=none
 hN:X.N[ie]?=some en
 hv:va X.env.scope en
 hd:(en==("__debug__":Str))=false/\(en==("__classdict__":Str))=false
noncomputable def CJ(c:Nat)(ks:List Nat):List Bool:=ks.map λk=>decide (c=k)||k==999
def JH(C:Cc)(en:Str)(es:List Expr)(ks:List Nat):Prop:=∀{cl X EX cf ie pn ea oe c bm v E},COk cl X EX cf C->Exn C cl X en ie pn ea oe c bm->PA (Cx.asx X v pn E) es (vX ie ea (CJ c ks))
noncomputable def GA(en:Str):(es:List Expr)->Option {ks:List Nat // JH C en es ks}
 |[]=>some ⟨[],λ_ _=>EV⟩
 |e::es=>(GA en es).bind λks=>match e with
  |.Call (.Name f p1) [.Name x p2,.Name d p3] [] pos=>if hf:f="isinstance"/\x=en/\C.glo d then(match hk:C.G.lookup d with
   |some (.cls k)=>if h:bG d/\k<999 then some ⟨k::ks.1,λ{cl X EX cf ie pn ea oe c bm v E} H Y=>by
    obtain⟨m1,bd,OD,_⟩:=H.cls d k hk
    have z:=IV (X:=Cx.asx X v pn E) (pos:=pos) (p1:=p1) (p2:=p2) (p3:=p3) Y.hp Y.hc Y.O Y.OK OD Y.hg.1 Y.hg.2 Y.hN Y.hv Y.hd.1 Y.hd.2 (H.gl hf.2.2) m1 (a8 h.1).1
    rw[Y.sub d k hk]at z
    unfold CJ
    rw[hf.1,hf.2.1,zO,show(k==999)=false by rw[ZZ];lia,Bool.or_false]
    exact GH z (ks.2 H Y) rfl⟩ else none
   |_=>none) else none
  |_=>none
def IU(C:Cc)(en fn:Str)(ss:List Stmt)(ks:List Nat):Prop:=∀{cl X EX cf ie iF pn ea oe c bm v E},COk cl X EX cf C->Exn C cl X en ie pn ea oe c bm->X.N[iF]?=some fn->C.sto fn=true->va X.env.scope fn->(fn==("__debug__":Str))=false/\(fn==("__classdict__":Str))=false->PSs (Cx.asx X v pn E) ss (IC X.K ie iF ea (CJ c ks))
noncomputable def OE(en fn:Str):(ss:List Stmt)->Option {ks:List Nat // IU C en fn ss ks}
 |[]=>some ⟨[],λ_ _ _ _ _ _=>EZ⟩
 |s::ss=>(OE en fn ss).bind λb=>match s with
  |.Assign [.Name x p3] (.BinOp (.Name y p4) .Add (.List es p5) p6) q=>(GA (C:=C) en es).bind λa=>if h:x=fn/\y=fn then some ⟨a.1++b.1,λ{cl X EX cf ie iF pn ea oe c bm v E} H Y hF hs hvF hdF=>by
   obtain⟨rfl,rfl⟩:=h
   unfold CJ
   rw[Zc]
   exact BM (Nz (X:=Cx.asx X v pn E) H.ndX hF (aO H hs).1 (aO H hs).2 hvF hdF.1 hdF.2 (a.2 H Y)) (b.2 H Y hF hs hvF hdF)⟩ else none
  |_=>none
abbrev JT(C:Cc)(jn en fn:Str)(ie iF:Nat)(ks:List Nat):Prop:=C.glo jn/\bG jn/\C.loc en/\bG en/\C.sto fn/\C.vis fn/\bG fn/\ie≠iF/\ks.length<=1000/\C.all≠[]/\C.bl "isinstance"
section
variable {X:Cx}{EX:cb}{cf:CF}{cl:Nat->Addr}{jn en fn:Str}{ie iF:Nat}{ka kb:List Nat}{es:List Expr}{ss:List Stmt}
theorem D6{body:List Stmt}{sx sb:ag->aa->Res Fl}{p2 p3 p4 q hpos pos:Pos}(H:COk cl X EX cf C)(stk:Oq X)(hj:C.G.lookup jn=some .bas)(h:JT C jn en fn ie iF (ka++kb))(hie:C.N[ie]?=some en)(hiF:C.N[iF]?=some fn)(a:JH C en es ka)(b:IU C en fn ss kb)
  (hx:∀σ h,sx σ h=.stuck\/sx σ h=qv (λc k=>decide (c=k)||k==999) iF (ka++kb) C.all sb σ h)
  (hb:∀pn xe EY,PassesOwn (model X.prog X.w) X.A X.env xe->XL cl (Cx.aim X pn xe) EY->PSs (Cx.aim X pn xe) body (dg X.K EY sb)) :
  PS X (.Try body [.ExceptHandler (some (.Name jn p2)) (some en) (.Assign [.Name fn p3] (.List es p4) q::ss) hpos] [] [] pos) (dg X.K EX sx):=by
 obtain⟨c1,c2,c3,c4,c5,c6,c7,c8,c9,c10,c11⟩:=h
 have hle:=H.loc c3
 obtain⟨c0,hc0⟩:=List.exists_mem_of_ne_nil _ c10
 obtain⟨x0,hx0⟩:=Cc.all_mem hc0
 obtain⟨_,bm0,O0,_,hz0⟩:=H.cls x0 c0 hx0
 obtain⟨J,bj,hmJ,OJ,_,_⟩:=hz0 jn hj
 have CT:KO X cl C.all J:=λc hc=>by obtain⟨x,hx⟩:=Cc.all_mem hc;obtain⟨_,bm,O,hsub,hz⟩:=H.cls x c hx;obtain⟨J2,bj2,hmJ2,_,hJ,OK⟩:=hz jn hj;rw[hmJ]at hmJ2;cases hmJ2;exact⟨bm,O,OK,hJ,λd hd=>let ⟨y,hy⟩:=Cc.all_mem hd;hsub y d hy⟩
 refine FP stk CT OJ (H.gl c1) hmJ (a8 c2).1 H.ndX (H.ix hie) hle (H.ix hiF) c8 c9 (λv pn E ea oe c hpn hoe hca=>?_) hx hb
 obtain⟨x,hx⟩:=Cc.all_mem hca
 obtain⟨_,bm,O,hsub,hz⟩:=H.cls x c hx
 obtain⟨_,_,_,_,_,OK⟩:=hz jn hj
 have Y:Exn C cl X en ie pn ea oe c bm:=⟨hpn,hoe,O,OK,hsub,H.bl c11,H.ix hie,.inl hle,a8 c4⟩
 rw[Zc]
 exact HQ (M4 (X:=Cx.asx X v pn E) H.ndX (H.ix hiF) (aO H c5).1 (aO H c5).2 (a H Y)) (b H Y (H.ix hiF) c5 (fB H c6) (a8 c7))
end
theorem CV{i:Nat}{cs all:List Nat}{sb:ag->aa->Res Fl}{σ:ag}{h:aa}(h9:(cs.all λk=>k<999)=true):qv (λc k=>decide (c=k)) i cs all sb σ h=qv (λc k=>decide (c=k)||k==999) i cs all sb σ h:=by
 unfold qv;cases sb σ h with
 |exc c h=>dsimp only;rw[zzs λk hk=>show W.bl (decide (c=k))=.bl (decide (c=k)||k==999) by rw[show(k==999)=false by grind,Bool.or_false]]
 |_=>rfl
noncomputable def Es(n:Nat)(sb:List Stmt)(hb:ExceptHandler)(pos:Pos):CS C (.Try sb [hb] [] [] pos):=match hb with
 |.ExceptHandler (some (.Name jn p2)) (some en) (.Assign [.Name fn p3] (.List es p4) q::ss) hpos=>(ix C.N en).bind λie=>(ix C.N fn).bind λiF=>(GA (C:=C) en es).bind λa=>(OE (C:=C) en fn ss).bind λb=>(lk (C:=C) jn).bind λk =>
  if h:JT C jn en fn ie.1 iF.1 (a.1++b.1) then(match k,sb with
   |⟨.bas,hj⟩,[.Return (some e) rp]=>if h9:(a.1++b.1).all λk=>k<999 then
    (if C.mu.contains "return"&&oX C e then Ce (C:=C) n e else(cE n C e).bind λe'=>some ⟨e'.1,e'.2.a⟩).bind λe'=>some ⟨.tryF e'.1 iF.1 (a.1++b.1) C.all,λH _ stk=>D6 H stk hj h ie.2 iF.2 a.2 b.2 (λσ h=>.inr ((HC σ h).trans (CV h9))) λpn xe EY ho hx=>tu (A7 (e'.2 (H.aim ho hx))) λD τ H q=>q⟩ else none
   |_,_=>none) else none
 |_=>none
noncomputable def Nd(n:Nat)(b:List Stmt)(hs:List ExceptHandler)(pos:Pos):CS C (.Try b hs [] [] pos):=match b,hs with
 |[.Return (some e) p],h0::hs=>match O7 (C:=C) (h0::hs) with
  |some hs'=>(if C.mu.contains "return"&&oX C e then Ce (C:=C) n e else(cE n C e).bind λe'=>some ⟨e'.1,e'.2.a⟩).bind λe'=>some ⟨.tryR e'.1 hs'.1,λH _ stk=>Hw stk (hs'.2.1 H) (H.cs hs'.2.2) λpn xe EY ho hx=>e'.2 (H.aim ho hx)⟩
  |_=>(match hs with
   |[]=>Es n [.Return (some e) p] h0 pos
   |_=>none)
 |b,[hb]=>Es n b hb pos
 |_,_=>none
noncomputable def QP(s:Stmt):CS C s:=match s with
 |.Assign [tg] e p=>M7 n tg e p
 |.Expr e p=>match e with
  |.Constant (.str z) j p2=>some ⟨.pass_,λ_ _ _=>Ku⟩
  |e=>(cE n C e).bind λe'=>if h:cG e then some ⟨.exp e'.1,λH _ _=>LN (e'.2.a H) h⟩ else none
 |.Return o p=>MT n o p
 |.If c a b p=>(cE n C c).bind λc'=>(cB n f a).bind λa'=>(cB n f b).bind λb'=>some ⟨.if_ c'.1 a'.1 b'.1,λH M K=>NW (c'.2.t H) (a'.2 H M K) (b'.2 H M K)⟩
 |.While c b [] p=>(cE n C c).bind λc'=>(cB n f b).bind λb'=>some ⟨.while_ c'.1 b'.1,λH M K=>D3 H.own (c'.2.t H) (b'.2 H M K)⟩
 |.For tg a b [] p=>N5 n f tg a b p
 |.Raise (some e) none p=>(Io e).bind λs'=>some ⟨s'.1,s'.2 p⟩
 |.Try b hs [] [] p=>Nd n b hs p
 |.Pass p=>some ⟨.pass_,λ_ _ _=>Fm⟩
 |.Break p=>some ⟨.brk,λ_ _ _=>Jw⟩
 |.Continue p=>some ⟨.cnt,λ_ _ _=>L6⟩
 |_=>none
theorem Ka{X:Cx}{EX:cb}{cf:CF}{fw:Nat}{s:Stmt}:PS X s (dg X.K EX (exS cf fw .bad)):=λpins st τ H D I zq=>by obtain⟨ρ,σ,h,re,hr,q⟩:=zq;exact q.elim
end
noncomputable def cS(C:Cc):Nat->(s:Stmt)->CS C s
 |0,_=>none
 |n+1,s=>some ((QP n (cS C n) s).getD ⟨.bad,λ_ _ _=>Ka⟩)
def LQ(C:Cc)(c d:Nat)(ss:List Stmt)(fl:List (Bool×E)):Prop:=d+fl.length=(aK c).length/\∀{cl X EX cf Ca},COk cl X EX cf C->OCl X.K c Ca->PSs X ss (wx X.K EX cf c d fl)
noncomputable def Ln(C:Cc)(c:Nat):(d:Nat)->(ss:List Stmt)->Option {fl:List (Bool×E) // LQ C c d ss fl}
 |d,[]=>if hd:d=(aK c).length then some ⟨[],hd,λ_ _=>by rw[hd];exact Ck⟩ else none
 |d,s::ss=>(Ln C c (d+1) ss).bind λfl=>match s with
  |.Assign [.Attribute (.Name s p4) f p] e pp=>if h:(aK c)[d]?=some f/\C.N[0]?=some s/\C.vis s/\bG s/\cG e then(
   if C.mu.contains f then(cF 60 e).bind λe'=>some ⟨(true,e'.1)::fl.1,by have:=fl.2.1;rw[z0];lia,λH O=>rD (bb:=true) O h.1 (H.ix h.2.1) (fB H h.2.2.1) (a8 h.2.2.2.1).1 (a8 h.2.2.2.1).2 (e'.2 H) h.2.2.2.2 (fl.2.2 H O)⟩
   else(cE 60 C e).bind λe'=>some ⟨(false,e'.1)::fl.1,by have:=fl.2.1;rw[z0];lia,λH O=>rD (bb:=false) O h.1 (H.ix h.2.1) (fB H h.2.2.1) (a8 h.2.2.2.1).1 (a8 h.2.2.2.1).2 (e'.2.a H) h.2.2.2.2 (fl.2.2 H O)⟩) else none
  |_=>none
structure Df where
 x:Str
 st:Stmt
 N:List Str
 ps:List Str
 mu:List Str
 q:Str
 k:Nat
noncomputable def Df.cc(d:Df)(G:List (Str×Gk)):Cc:=⟨d.N,aw d.st,G,d.mu,true⟩
noncomputable def Df.fn(d:Df)(G:List (Str×Gk)):Option Fn:=if d.k<=1 then(cB 60 (cS (d.cc G) 60) (aT d.st)).bind λb=>some ⟨d.ps.length,d.N.length,b.1,none⟩
 else(Ln (d.cc G) (d.k-2) 0 (aT d.st)).bind λfl=>if d.N=d.ps then some ⟨d.ps.length,d.N.length,[],some (d.k-2,fl.1)⟩ else none
structure Made (ds:List Df) (G:List (Str×Gk)) (tb:List Fn):Prop where
 fn:∀(i:Nat) (d:Df),ds[i]?=some d->∃g,tb[i]?=some g/\d.fn G=some g
 len:tb.length=ds.length/\tb.length<=1000
 gk:∀x f np,G.lookup x=some (.fn f np)->∃d,ds[f]?=some d/\d.k=0/\d.x=x/\d.ps.length=np
 gm:∀x f np,G.lookup x=some (.mth f np)->∃d,ds[f]?=some d/\d.k=1/\d.x=x/\d.ps.length=np
 gc:∀x f np,G.lookup x=some (.ctor f np)->∃d,ds[f]?=some d/\2<=d.k/\eI (d.k-2)=x/\d.ps.length=np
 sc:∀(i:Nat) (d:Df),ds[i]?=some d->FnScope d.N d.ps (aw d.st)
def GK(K:Fg0)(mg:Str->Option Value)(d:Df)(f:Addr):Prop :=
 (d.k=0->mg d.x=some (.ref f))/\(d.k=1->∃C,OCl K 1 C/\Meth K C d.x f/\d.x∉aK 1)/\(2<=d.k->∃C,OCl K (d.k-2) C/\Mk K C f/\mg (eI (d.k-2))=some (.ref C))
def kT(K:Fg0)(mg:Str->Option Value)(d:Df):Prop:=∃f fd,Fun K d.x d.q d.st f fd/\GK K mg d f/\∀us:List Value,us.length=d.ps.length->bindArgs fd ⟨us,[]⟩=pure (d.ps.zip us)
structure Laid (K:Fg0) (mg:Str->Option Value) (cl:Nat->Addr) (ds:List Df) (G:List (Str×Gk)):Prop where
 df:∀(i:Nat) (d:Df),ds[i]?=some d->kT K mg d
 con:∀x w,G.lookup x=some (.con w)->∃u v,mg x=some u/\RelV v u/\∀ρ H,Rel K ρ H w v
 nob:∀x,x∈bltNames->G.lookup x=none->mg x=none
 cls:∀x c,G.lookup x=some (.cls c)->mg x=some (.ref (cl c))/\∃bm,(∀h:Heap,K.In h->Eo h (cl c) bm)/\(∀y d,G.lookup y=some (.cls d)->(Value.ref (cl c)::bm).contains (.ref (cl d))=decide (c=d))/\∀z,G.lookup z=some .bas->∀h:Heap,K.In h->HK K mg h (cl c) bm z
theorem sW{a b:Nat}(h:eI a=eI b):aK a=aK b:=by
 cases a with
 |zero=>cases b with
  |zero=>rfl
  |succ b=>exact absurd h (by show ¬ ("Standing":Str)=("Register");decide +kernel)
 |succ a=>cases b with
  |zero=>exact absurd h (by show ¬ ("Register":Str)=("Standing");decide +kernel)
  |succ b=>rfl
theorem OCl.re{K:Fg0}{a b:Nat}{C:Addr}(O:OCl K a C)(h:eI a=eI b):OCl K b C:=⟨h▸O.ns,O.cls,sW h▸O.no⟩
def Kn(P:Program)(w:World)(K:Fg0)(mg:Str->Option Value)(base:Heap)(ds:List Df)(tb:List Fn)(fw:Nat)(cl:Nat->Addr)(k:Nat):Prop :=
 ∀(i o:Nat) (d:Df) (f:Addr) (fd:FuncData),(o=i\/o=i+1000)->ds[i]?=some d->d.k<=1->Fun K d.x d.q d.st f fd->Binds K fd d.ps []->FnOk P w K mg base (mx P w) (2*k) f fd d.ps (Eh K cl (ae fw tb k) o d.ps.length)
def K7(P:Program)(w:World)(K:Fg0)(mg:Str->Option Value)(base:Heap)(ds:List Df)(tb:List Fn)(fw:Nat)(cl:Nat->Addr)(k:Nat):Prop :=
 ∀(i:Nat) (d:Df) (f C:Addr) (fd:FuncData),ds[i]?=some d->2<=d.k->Fun K d.x d.q d.st f fd->OCl K (d.k-2) C->Binds K fd d.ps []->FnOk P w K mg base (mx P w) (2*k) f fd d.ps (Np K cl (ae fw tb k) (i+2000) d.ps.length (d.k-2))
section
variable {P:Program}{w:World}{K:Fg0}{mg:Str->Option Value}{base:Heap}{ds:List Df}{G:List (Str×Gk)}{tb:List Fn}{fw:Nat}{cl:Nat->Addr}
theorem B2(M:Made ds G tb)(L:Laid K mg cl ds G)(kb:K.In base){k:Nat}(hD:Kn P w K mg base ds tb fw cl k)(hI:K7 P w K mg base ds tb fw cl k){i:Nat}{d:Df}(hi:ds[i]?=some d)(X:Cx)(EX:cb)
  (e1:X.prog=P) (e2:X.w=w) (e3:X.K=K) (e4:X.mg=mg) (e5:X.base=base) (e6:X.N=d.N) (e7:X.env.scope=aw d.st) (e8:X.calm=true) (e9:X.fn=λ_=>true) (e10:PassesOwn (model X.prog X.w) X.A X.env X.xe) (hX:XL cl X EX) (hr:Room (2*k+1) X.A) :
  COk cl X EX (ae fw tb k) (d.cc G):=by
 subst e1 e2 e3 e4 e5
 have hr0:Room (2*k) X.A:=hr.mono (ZK _)
 refine⟨e6,(M.sc i d hi).nd,e7,(M.sc i d hi).kind,e8,hr.units,e10,λ_ x=>by rw[e9],L.con,?_,?_,?_,?_,L.nob,hX,λx c hx=>?_⟩
 ·rintro Y EY ⟨z1,z2,z3,z4,z5,z6⟩ hE x fn np hx hgl hdb p pos e es es' hs hl hl' ha
  obtain⟨P',w',K',mg',base',A',N',s0',H0',env',outer',stack',ex',fn',calm',pn',xe'⟩:=Y
  dsimp only at z1 z2 z3 z4 z5 z6
  subst z1 z2 z3 z4 z5 z6
  obtain⟨d2,hd2,hk,rfl,rfl⟩:=M.gk x fn np hx
  obtain⟨f2,fd2,F2,hm2,hb2⟩:=L.df fn d2 hd2
  have hk1:d2.k<=1:=by simp_all
  exact⟨yw (hD fn fn d2 f2 fd2 (.inl rfl) hd2 hk1 F2 (.all hb2)) hr0 hgl (hm2.1 hk) F2.kp (.all hb2) hE hdb hs hl hl' ha λσ h ws h' e=>by rw[fE e,hl'],
   yw (hD fn (fn+1000) d2 f2 fd2 (.inr rfl) hd2 hk1 F2 (.all hb2)) hr0 hgl (hm2.1 hk) F2.kp (.all hb2) hE hdb hs hl hl' ha λσ h ws h' e=>by rw[fE e,hl']⟩
 ·rintro Y EY ⟨z1,z2,z3,z4,z5,z6⟩ hE x fn np hx hgl hdb p pos e es es' hs hl' ha
  obtain⟨P',w',K',mg',base',A',N',s0',H0',env',outer',stack',ex',fn',calm',pn',xe'⟩:=Y
  dsimp only at z1 z2 z3 z4 z5 z6
  subst z1 z2 z3 z4 z5 z6
  obtain⟨d2,hd2,hk,rfl,rfl⟩:=M.gc x fn np hx
  obtain⟨f2,fd2,F2,hm2,hb2⟩:=L.df fn d2 hd2
  obtain⟨C2,O2,M2,g2⟩:=hm2.2.2 hk
  exact JN M2 O2.ns (hI fn d2 f2 C2 fd2 hd2 hk F2 O2 (.all hb2)) hr hgl g2 (.all hb2) hE hdb hs hl' ha
 ·rintro Y EY ⟨z1,z2,z3,z4,z5,z6⟩ hE m fn np hx x p ap pos a' es es' hln hn hs hl' ho hl ha
  obtain⟨P',w',K',mg',base',A',N',s0',H0',env',outer',stack',ex',fn',calm',pn',xe'⟩:=Y
  dsimp only at z1 z2 z3 z4 z5 z6
  subst z1 z2 z3 z4 z5 z6
  obtain⟨d2,hd2,hk,rfl,rfl⟩:=M.gm m fn np hx
  obtain⟨f2,fd2,F2,hm2,hb2⟩:=L.df fn d2 hd2
  obtain⟨C2,O2,M2,g2⟩:=hm2.2.1 hk
  have hk1:d2.k<=1:=ZzL
  cases es with
  |nil =>
   have e0:es'=[]:=List.eq_nil_of_length_eq_zero hl
   subst e0
   exact HG O2 g2 hl' hln ho M2 (hD fn fn d2 f2 fd2 (.inl rfl) hd2 hk1 F2 (.all hb2)) hr0 (.all hb2) hE
  |cons e es=>exact JI O2 g2 hl' hln hn ho M2 (hD fn fn d2 f2 fd2 (.inl rfl) hd2 hk1 F2 (.all hb2)) hr0 (.all hb2) hE ha hs
 ·intro c f np hx
  obtain⟨d2,hd2,hk,hc,_⟩:=M.gc _ f np hx
  obtain⟨f2,fd2,F2,hm2,hb2⟩:=L.df f d2 hd2
  obtain⟨C2,O2,M2,g2⟩:=hm2.2.2 hk
  exact⟨C2,O2.re hc⟩
 ·obtain⟨h1,bm,h2,h3,h4⟩:=L.cls x c hx
  exact⟨h1,bm,h2 _ kb,h3,λz hz=>h4 z hz _ kb⟩
theorem Ea(M:Made ds G tb)(L:Laid K mg cl ds G)(kb:K.In base):∀k:Nat,Kn P w K mg base ds tb fw cl k/\K7 P w K mg base ds tb fw cl k:=by
 intro k;induction k with
 |zero=>refine⟨λi o d f fd ho hi hk F hb=>?_,λi d f C fd hi hk F O hb=>?_⟩;refine⟨λvs H Q E h=>h.1,λA outer s H args us vs Q E hr e0 hbi hv zq=>?_⟩;obtain⟨_,ρ,h,ws,_,_,q⟩:=zq;exact(show False from q).elim;refine⟨λvs H Q E h=>h.1,λA outer s H args us vs Q E hr e0 hbi hv zq=>?_⟩;obtain⟨_,x,us,dx,C,H1,ρ,h,ws,_,_,_,_,_,_,_,_,q⟩:=zq;exact(show False from q).elim
 |succ k ih=>
  refine⟨λi o d f fd ho hi hk F hb=>?_,λi d f C fd hi hk F O hb=>?_⟩;obtain⟨g,hg,hd⟩:=M.fn i d hi;unfold Df.fn at hd;rw[zF hk]at hd;obtain⟨bd,hbd,hd⟩:=obs hd;cases hd;have run:∀(X:Cx) (EX:cb),X.prog=P->X.w=w->X.K=K->X.mg=mg->X.base=base->X.N=d.N->X.env.scope=aw d.st->X.calm=true->(X.fn=λ_=>true)->PassesOwn (model X.prog X.w) X.A X.env X.xe->(X.stack=X.env::X.outer/\X.env.frame=some X.env.locals)->XL cl X EX->XM cl X EX->Room (2*k+1) X.A->PSs X (aT d.st) (dg K EX (aA (ae fw tb k) fw bd.1)):=by intro X EX e1 e2 e3 e4 e5 e6 e7 e8 e9 e10 e11 hX hM hr;have H:=B2 M L kb ih.1 ih.2 hi X EX e1 e2 e3 e4 e5 e6 e7 e8 e9 e10 hX hr;subst e3;exact bd.2 H hM e11
  rcases ho with rfl|rfl;exact K6 F (M.sc _ d hi) hg rfl rfl run;exact Gp F (M.sc i d hi) hg rfl rfl M.len.2 run;obtain⟨g,hg,hd⟩:=M.fn i d hi;unfold Df.fn at hd;rw[zM (Nat.not_le.mpr ‹_›)]at hd;obtain⟨fl,hfl,hd⟩:=obs hd;split at hd;rename_i hN;cases hd;have S:=M.sc i d hi;rw[hN]at S;refine F7 (d:=k) F S hg rfl rfl M.len.2 (by have:=fl.2.1;simp_all) λX EX e1 e2 e3 e4 e5 e6 e7 e8 e9 e10 e11 hX hM hr=>?_;have H:=B2 M L kb ih.1 ih.2 hi X EX e1 e2 e3 e4 e5 (e6.trans hN.symm) e7 e8 e9 e10 hX hr;subst e3;exact fl.2.2 H O;cases hd
end
def Ep(K:Fg0):Sp:=λvs H Q _=>∃(a:Addr) (ns:List Int),vs=[.ref a]/\iI K H a (ns.map V.int)/\ns.length<=63/\∀H',Q (.bl true) H'
theorem lX{K:Fg0}{ρ:List Addr}{H:Hp}:∀ns:List Int,RelL K ρ H (ns.map W.int) (ns.map V.int)
 |[]=>.nil
 |n::ns=>.cons bh (lX ns)
theorem Hs{P:Program}{w:World}{K:Fg0}{mg:Str->Option Value}{base:Heap}{tb:List Fn}{fw k k2 i:Nat}{f:Addr}{fd:FuncData}{ps:List Str}{cl:Nat->Addr}
  (F:FnOk P w K mg base (mx P w) k2 f fd ps (Eh K cl (ae fw tb k) i 1)) (run:∀ns:List Int,ns.length<=63->ae fw tb k i [.scr (ns.map W.int)] []=.ok (.bl true) []):FnOk P w K mg base (mx P w) k2 f fd ps (Ep K):=by
 refine F.imp λvs H Q E zq=>?_
 obtain⟨a,ns,e,hq,hl,q⟩:=zq
 subst e
 refine⟨rfl,[],[],[.scr (ns.map W.int)],⟨rfl,List.nodup_nil,λn a o e=>by simp at e⟩,.cons ?_ .nil,?_⟩
 ·refine⟨a,ns.map V.int,rfl,?_,lX ns⟩
  rcases hq with hq|hq
  ·exact .inl ⟨ZzS,hq⟩
  ·exact .inr (.inr hq)
 ·rw[run ns hl]
  intro ρ' H' x hr v r
  cases bP r
  exact q H'
theorem walk{l:PySem.W.OpenLaw}{q:Program}{loose:List Str}{XP:(Str->Option Value)->Heap->Prop}{YP:World->Heap->Prop}{d:DefRec}{K:Params->Fg0}{ds:List Df}{G:List (Str×Gk)}{tb:List Fn}{fw i:Nat}{df:Df}{x:Str}
  (hn:l.most=some 63) (hdf:d.params.defaults=[]) (hY:∀(w:World) (h:Heap),YP w h->(K w.params).In h)
  (M:Made ds G tb) (hi:ds[i]?=some df) (hx:df.x=d.name) (hk:df.k=0) (hp:df.ps=[x])
  (L:∀(w:World) (mg:Str->Option Value) (fa:Addr) (h:Heap),(K w.params).In h->h.Ns mainGlobals mg->mg d.name=some (.ref fa)->∃cl,Laid (K w.params) mg cl ds G)
  (run:∀ns:List Int,ns.length<=63->ae fw tb 40 i [.scr (ns.map W.int)] []=.ok (.bl true) []) :
  PySem.W.WalkO q loose XP YP l.row.toRowW d [] (λf vs=>PySem.call f vs) :=
 L2.walk_of (n:=63) (k:=80) (x:=x)  (sp:=λw=>Ep (K w.params)) hn ZzD hdf ⟨rfl,ZzD,ZzD⟩ hY
  (λw mg fa h KX G hm=>by
   obtain⟨cl,LL⟩:=L w mg fa h KX G hm
   obtain⟨f,fd,F,hm3,hb⟩:=LL.df i df hi
   have hm2:=hm3.1 hk
   rw[hx,hm]at hm2
   cases hm2
   refine⟨fd,λs u=>?_,λbase kb nb=>?_⟩
   ·have z:=hb [u] (by rw[hp];rfl)
    rw[hp]at z
    exact .of_eq z
   ·have:=(Ea (P:=l.prog) (w:=w) (base:=base) (fw:=fw) M LL kb 40).1 i i df fa fd (.inl rfl) hi (by simp_all) F (.all hb)
    rw[hp]at this
    exact Hs this run)
  (λ_ _ a ns hl _ hS=>⟨a,ns,rfl,hS,hl,λ_=>rfl⟩) λ_ _ _ _ _ z=>by obtain⟨_,_,_,_,_,_,_,_,_,_,z⟩:=z;exact z
theorem JE{α:Type}{us:List α}(h:us.length=1):∃a0,us=[a0]:=List.length_eq_one_iff.mp h
theorem Lp{α:Type}{us:List α}(h:us.length=2):∃a0 a1,us=[a0,a1]:=by
 obtain⟨a0,r,rfl⟩:=Zi h
 obtain⟨a1,rfl⟩:=JE  (by simpa using h)
 grind
theorem L4{α:Type}{us:List α}(h:us.length=3):∃a0 a1 a2,us=[a0,a1,a2]:=by
 obtain⟨a0,r,rfl⟩:=Zi h
 obtain⟨a1,a2,rfl⟩:=Lp  (by simpa using h)
 grind
theorem L8{α:Type}{us:List α}(h:us.length=4):∃a0 a1 a2 a3,us=[a0,a1,a2,a3]:=by
 obtain⟨a0,r,rfl⟩:=Zi h
 obtain⟨a1,a2,a3,rfl⟩:=L4  (by simpa using h)
 grind
theorem KZ{α:Type}{us:List α}(h:us.length=5):∃a0 a1 a2 a3 a4,us=[a0,a1,a2,a3,a4]:=by
 obtain⟨a0,r,rfl⟩:=Zi h
 obtain⟨a1,a2,a3,a4,rfl⟩:=L8  (by simpa using h)
 grind
theorem ML{α:Type}{us:List α}(h:us.length=6):∃a0 a1 a2 a3 a4 a5,us=[a0,a1,a2,a3,a4,a5]:=by
 obtain⟨a0,r,rfl⟩:=Zi h
 obtain⟨a1,a2,a3,a4,a5,rfl⟩:=KZ  (by simpa using h)
 grind
noncomputable def F5(d:Df):Bool:=decide ((aw d.st).kind=.function)&&!(aw d.st).isCoroutine&&!(aw d.st).isGenerator&&decide d.N.Nodup&&decide (d.N.take d.ps.length=d.ps)
 && d.ps.all (λx=>decide ((aw d.st).names.lookup x=some .local\/(aw d.st).names.lookup x=some .cell))&&(aw d.st).names.all λy=>decide (y.2≠.free)
theorem Dz{d:Df}(h:F5 d=true):FnScope d.N d.ps (aw d.st):=by unfold F5 at h;simp only[zE,Zl,Bool.not_eq_true',Z5]at h;obtain⟨⟨⟨⟨⟨⟨h1,h2⟩,h3⟩,h4⟩,h5⟩,h6⟩,h7⟩:=h;exact⟨h1,h2,h3,h4,h5,λx hx=>h6 x hx,h7⟩
noncomputable def wt(ds:List Df)(G:List (Str×Gk)):List Fn:=ds.map λd=>(d.fn G).getD ⟨0,0,[],none⟩
noncomputable def BL(ds:List Df)(p:Str×Gk):Bool:=match p.2 with
 |.fn f np=>match ds[f]? with
  |some d=>decide (d.k=0)&&decide (d.x=p.1)&&decide (d.ps.length=np)
  |none=>false
 |.mth f np=>match ds[f]? with
  |some d=>decide (d.k=1)&&decide (d.x=p.1)&&decide (d.ps.length=np)
  |none=>false
 |.ctor f np=>match ds[f]? with
  |some d=>decide (2<=d.k)&&decide (eI (d.k-2)=p.1)&&decide (d.ps.length=np)
  |none=>false
 |.con _=>true
 |.cls _=>true
 |.bas=>true
noncomputable def rP(ds:List Df)(G:List (Str×Gk)):Bool:=ds.all (λd=>(d.fn G).isSome&&F5 d)&&G.all (BL ds)&&decide (ds.length<=1000)
theorem bH{β:Type}{x:Str}{b:β}:∀{l:List (Str×β)},l.lookup x=some b->(x,b)∈l
 |[],h=>by simp_all
 |(y,c)::l,h=>by rw[Zv]at h;split at h;simp_all;exact zB _ (bH h)
theorem made_ok{ds:List Df}{G:List (Str×Gk)}(h:rP ds G=true):Made ds G (wt ds G):=by unfold rP at h;simp only[zE,Z5,Zl]at h;obtain⟨h,hz⟩:=h;refine⟨λi d hi=>?_,⟨by simp[wt],by simpa [wt] using hz⟩,λx f np hx=>?_,λx f np hx=>?_,λx f np hx=>?_,λi d hi=>Dz (h.1 d (zC hi)).2⟩;obtain⟨g,hg⟩:=ZG.mp (h.1 d (zC hi)).1;exact⟨g,by unfold wt;rw[zT,hi];simp[hg],hg⟩;have q:=h.2 _ (bH hx);unfold BL at q;dsimp only at q;split at q;simp_all;cases q;have q:=h.2 _ (bH hx);unfold BL at q;dsimp only at q;split at q;rename_i d hd;simp only[zE,Zl]at q;exact⟨d,hd,q.1.1,q.1.2,q.2⟩;cases q;have q:=h.2 _ (bH hx);unfold BL at q;dsimp only at q;split at q;simp_all;cases q
section
variable {K:Fg0}{mg:Str->Option Value}{h:Heap}{d:Df}{f C:Addr}{oc:Value}{od an:Option Addr}{sl:Array (Option Value)}{kV doc pm cd ct:Value}
def fQ(d:Df):Prop:=∀(kV doc pm:Value) (an:Option Addr) (cdv ct:Value) (us:List Value),us.length=d.ps.length->bindArgs (PySem.W.fnOf d.x d.q (bN d.st) (aT d.st) (aw d.st) .none kV doc pm an cdv ct) ⟨us,[]⟩=pure (d.ps.zip us)
theorem bo1(hp:d.ps.length=1)(h:∀(kV doc pm:Value) (an:Option Addr) (cdv ct a0:Value),bindArgs (PySem.W.fnOf d.x d.q (bN d.st) (aT d.st) (aw d.st) .none kV doc pm an cdv ct) ⟨[a0],[]⟩=pure (d.ps.zip [a0])):fQ d:=λ_ _ _ _ _ _ us hl=>by obtain⟨a0,rfl⟩:=JE (hl.trans hp);simp_all
theorem bo2(hp:d.ps.length=2)(h:∀(kV doc pm:Value) (an:Option Addr) (cdv ct a0 a1:Value),bindArgs (PySem.W.fnOf d.x d.q (bN d.st) (aT d.st) (aw d.st) .none kV doc pm an cdv ct) ⟨[a0,a1],[]⟩=pure (d.ps.zip [a0,a1])):fQ d:=λ_ _ _ _ _ _ us hl=>by obtain⟨a0,a1,rfl⟩:=Lp (hl.trans hp);simp_all
theorem bo3(hp:d.ps.length=3)(h:∀(kV doc pm:Value) (an:Option Addr) (cdv ct a0 a1 a2:Value),bindArgs (PySem.W.fnOf d.x d.q (bN d.st) (aT d.st) (aw d.st) .none kV doc pm an cdv ct) ⟨[a0,a1,a2],[]⟩=pure (d.ps.zip [a0,a1,a2])):fQ d:=λ_ _ _ _ _ _ us hl=>by obtain⟨a0,a1,a2,rfl⟩:=L4 (hl.trans hp);simp_all
theorem bo4(hp:d.ps.length=4)(h:∀(kV doc pm:Value) (an:Option Addr) (cdv ct a0 a1 a2 a3:Value),bindArgs (PySem.W.fnOf d.x d.q (bN d.st) (aT d.st) (aw d.st) .none kV doc pm an cdv ct) ⟨[a0,a1,a2,a3],[]⟩=pure (d.ps.zip [a0,a1,a2,a3])):fQ d:=λ_ _ _ _ _ _ us hl=>by obtain⟨a0,a1,a2,a3,rfl⟩:=L8 (hl.trans hp);simp_all
theorem bo5(hp:d.ps.length=5)(h:∀(kV doc pm:Value) (an:Option Addr) (cdv ct a0 a1 a2 a3 a4:Value),bindArgs (PySem.W.fnOf d.x d.q (bN d.st) (aT d.st) (aw d.st) .none kV doc pm an cdv ct) ⟨[a0,a1,a2,a3,a4],[]⟩=pure (d.ps.zip [a0,a1,a2,a3,a4])):fQ d:=λ_ _ _ _ _ _ us hl=>by obtain⟨a0,a1,a2,a3,a4,rfl⟩:=KZ (hl.trans hp);simp_all
theorem bo6(hp:d.ps.length=6)(h:∀(kV doc pm:Value) (an:Option Addr) (cdv ct a0 a1 a2 a3 a4 a5:Value),bindArgs (PySem.W.fnOf d.x d.q (bN d.st) (aT d.st) (aw d.st) .none kV doc pm an cdv ct) ⟨[a0,a1,a2,a3,a4,a5],[]⟩=pure (d.ps.zip [a0,a1,a2,a3,a4,a5])):fQ d:=λ_ _ _ _ _ _ us hl=>by obtain⟨a0,a1,a2,a3,a4,a5,rfl⟩:=ML (hl.trans hp);simp_all
theorem laid_mk(X:K.In h)(G:h.Ns mainGlobals mg)(hk:d.k=0)(hb:fQ d)
  (a:PySem.W.nsIn K mainGlobals d.x=some (some (.ref f))) (l:K.lookup f=some ⟨oc,od,.func (PySem.W.fnOf d.x d.q (bN d.st) (aT d.st) (aw d.st) .none kV doc pm an cd ct),sl⟩)
  (c:PySem.W.codeIn K cd d.q=true) (k:PySem.W.keepIn K (.ref f)=true):kT K mg d :=
 ⟨f,_,sY l c k,⟨λ_=>zzq X G a,λz=>by simp_all,λz=>by simp_all⟩,λus hl=>hb _ _ _ _ _ _ us hl⟩
theorem laid_mth(O:OCl K 1 C)(hk:d.k=1)(hn:d.x∉aK 1)(hb:fQ d)
  (a:PySem.W.findIn K (.ref C) d.x=some (some (.ref f))) (l:K.lookup f=some ⟨oc,od,.func (PySem.W.fnOf d.x d.q (bN d.st) (aT d.st) (aw d.st) .none kV doc pm an cd ct),sl⟩)
  (c:PySem.W.codeIn K cd d.q=true) (k:PySem.W.keepIn K (.ref f)=true) (t:PySem.W.isFn K (.ref f)=true):kT K mg d :=
 ⟨f,_,sY l c k,⟨λz=>by simp_all,λ_=>⟨C,O,⟨a,t,k⟩,hn⟩,λz=>by simp_all⟩,λus hl=>hb _ _ _ _ _ _ us hl⟩
theorem laid_ini(X:K.In h)(G:h.Ns mainGlobals mg)(O:OCl K (d.k-2) C)(hk:2<=d.k)(mk:PySem.W.makesIn K C=true)(kc:PySem.W.keepIn K (.ref C)=true)(hb:fQ d)
  (a:PySem.W.findIn K (.ref C) "__init__"=some (some (.ref f))) (l:K.lookup f=some ⟨oc,od,.func (PySem.W.fnOf d.x d.q (bN d.st) (aT d.st) (aw d.st) .none kV doc pm an cd ct),sl⟩)
  (c:PySem.W.codeIn K cd d.q=true) (k:PySem.W.keepIn K (.ref f)=true) (t:PySem.W.isFn K (.ref f)=true):kT K mg d :=
 ⟨f,_,sY l c k,⟨λz=>by simp_all,λz=>by simp_all,λ_=>⟨C,O,⟨mk,a,t,kc⟩,zzq X G O.ns⟩⟩,λus hl=>hb _ _ _ _ _ _ us hl⟩
theorem ocl0(o:PySem.W.nsIn K mainGlobals "Standing"=some (some (.ref C)))(g:PySem.W.plainGet K C Str.empty=true)(hd:PySem.W.hasDictIn K C=true)(po:PySem.W.plainOver K C=true)(sa:PySem.W.findIn K (.ref C) "__setattr__"=some (some (.builtin "object.__setattr__")))
  (n0:PySem.W.findIn K (.ref C) "deed"=some none) (n1:PySem.W.findIn K (.ref C) "part_list"=some none) (n2:PySem.W.findIn K (.ref C) "follows"=some none) (n3:PySem.W.findIn K (.ref C) "dead"=some none):OCl K 0 C :=
 ⟨o,⟨g,hd,po,sa⟩,λf hf=>by
  simp only[aK,zS,Zr,zzM]at hf
  rcases hf with rfl|rfl|rfl|rfl<;>assumption⟩
theorem ocl1(o:PySem.W.nsIn K mainGlobals "Register"=some (some (.ref C)))(g:PySem.W.plainGet K C Str.empty=true)(hd:PySem.W.hasDictIn K C=true)(po:PySem.W.plainOver K C=true)(sa:PySem.W.findIn K (.ref C) "__setattr__"=some (some (.builtin "object.__setattr__")))
  (n0:PySem.W.findIn K (.ref C) "names"=some none) (n1:PySem.W.findIn K (.ref C) "standings"=some none):OCl K 1 C :=
 ⟨o,⟨g,hd,po,sa⟩,λf hf=>by
  simp only[aK,zS,Zr,zzM]at hf
  rcases hf with rfl|rfl<;>assumption⟩
end
theorem con_int{K:Fg0}{mg:Str->Option Value}{x:Str}{i:Int}{t:Tok}(h:mg x=some (.int i t)):∃u v,mg x=some u/\RelV v u/\∀ρ H,Rel K ρ H (.int i) v:=⟨_,.int i,h,⟨t,rfl⟩,λ_ _=>bh⟩
theorem con_str{K:Fg0}{mg:Str->Option Value}{x i:Str}{t:Tok}(h:mg x=some (.str i t)):∃u v,mg x=some u/\RelV v u/\∀ρ H,Rel K ρ H (.str i) v:=⟨_,.str i,h,⟨t,rfl⟩,λ_ _=>gB⟩
theorem con_tup{K:Fg0}{mg:Str->Option Value}{x:Str}{a:Addr}{od:Option Addr}{us:Array Value}{n:Nat}{sl:Array (Option Value)}{is:List Int}(h:mg x=some (.ref a))(l:K.lookup a=some ⟨.type "tuple",od,.seq us n,sl⟩)(hv:Vals (is.map V.int) us.toList)(hz:us.size<=1000:=by rfl) :
  ∃u v,mg x=some u/\RelV v u/\∀ρ H,Rel K ρ H (.tup (is.map W.int)) v :=
 ⟨_,.ref a,h,rfl,λρ H=>⟨a,is.map V.int,rfl,.inr (.inr ⟨_,us,n,l,rfl,rfl,zf hz ZzD,hv⟩),lX is⟩⟩
theorem all_mem{α:Type}{P:α->Prop}{l:List α}(h:∀d∈l,P d)(i:Nat)(d:α)(e:l[i]?=some d):P d:=h d (zC e)
theorem Ez{K:Fg0}{h:Heap}{C:Addr}{bm:List Value}{oc:Value}{od:Option Addr}{cd:ClassData}{sl:Array (Option Value)}(X:K.In h)(q:PySem.W.excIn K C xp newV=true)(l:K.lookup C=some ⟨oc,od,.cls cd,sl⟩)(m:cd.mro=.ref C::bm):Eo h C bm:=by unfold PySem.W.excIn at q;split at q;rename_i d2 cd2 sl2 ho;have l2:=ho.symm.trans l;cases l2;split at q;rename_i C2 bm2 u0 u1 u2 u3 n u5 hm hs;rw[m]at hm;cases hm;simp only[zE,beq_iff_eq,Bool.not_eq_true']at q;obtain⟨⟨⟨⟨⟨_,rfl⟩,g1⟩,g2⟩,g3⟩,g4⟩:=q;obtain⟨nm,bs,mro,nsA,qn,hd,sn,sub,ab,col,del⟩:=cd;subst m g1;obtain⟨ll⟩:=sl;have hs' :=hs;subst hs';exact⟨nsA,nm,qn,bs,hd,sn,sub,ab,col,od,u0,u1,u2,u3,u5,_,X _ _ ho,Heap.Ns.of_isNs (PySem.W.isNs_of_in X g3),PySem.W.nsMap_none_of_in X g3 g4,PySem.W.tail_of_in X g2⟩;simp_all;simp_all
theorem GI{a J:Addr}{C d:Addr}(h1:C≠d)(h2:J≠d):(Value.ref C::.ref J::xp).contains (.ref d)=false:=by grind
theorem qP{C:Addr}{bm:List Value}:(Value.ref C::bm).contains (.ref C)=true:=ZzS
def FE(K:Fg0)(C:Addr)(x:Str)(o:Option Value):Prop:=PySem.W.findIn K (.ref C) x=some o
structure ErrAt (K:Fg0) (mg:Str->Option Value) (x:Str) (C J:Addr):Prop where
 m:mg x=some (.ref C)
 e:∀h:Heap,K.In h->Eo h C (.ref J::xp)
structure BasAt (K:Fg0) (mg:Str->Option Value) (x:Str) (J:Addr):Prop where
 m:mg x=some (.ref J)
 e:∀h:Heap,K.In h->Eo h J xp
section
variable {K:Fg0}{mg:Str->Option Value}{h:Heap}{x:Str}{C J:Addr}{ec:Value}{ed:Option Addr}{ek:ClassData}{es:Array (Option Value)}
theorem err_mk(X:K.In h)(G:h.Ns mainGlobals mg)(n:PySem.W.nsIn K mainGlobals x=some (some (.ref C)))(y:K.lookup C=some ⟨ec,ed,.cls ek,es⟩)(v:PySem.W.excIn K C xp newV=true)(w:ek.mro=.ref C::.ref J::xp):ErrAt K mg x C J:=⟨zzq X G n,λ_ z=>Ez z v y w⟩
theorem bas_mk(X:K.In h)(G:h.Ns mainGlobals mg)(n:PySem.W.nsIn K mainGlobals x=some (some (.ref J)))(y:K.lookup J=some ⟨ec,ed,.cls ek,es⟩)(v:PySem.W.excIn K J xp newV=true)(w:ek.mro=.ref J::xp):BasAt K mg x J:=⟨zzq X G n,λ_ z=>Ez z v y w⟩
end
abbrev Oy(K:Fg0)(C:Addr):Prop:=FE K C "__getattribute__" (some (.builtin "BaseException.__getattribute__"))/\FE K C "__getattr__" none/\FE K C "__class__" (some (.builtin "object.__class__"))
theorem Cf{K:Fg0}{mg:Str->Option Value}{G:List (Str×Gk)}{Cs:List Addr}{J:Addr}(hn:(J::Cs).Nodup)
  (hx:∀x c,G.lookup x=some (.cls c)->c<Cs.length/\mg x=some (.ref (Cs.getD c 0))/\∀h:Heap,K.In h->Eo h (Cs.getD c 0) (.ref J::xp))
  (hb:∀z,G.lookup z=some .bas->mg z=some (.ref J)/\(∀h:Heap,K.In h->Eo h J xp)/\∀x c,G.lookup x=some (.cls c)->Oy K (Cs.getD c 0)) :
  ∀x c,G.lookup x=some (.cls c)->mg x=some (.ref (Cs.getD c 0))/\∃bm,(∀h:Heap,K.In h->Eo h (Cs.getD c 0) bm)/\(∀y d,G.lookup y=some (.cls d)->(Value.ref (Cs.getD c 0)::bm).contains (.ref (Cs.getD d 0))=decide (c=d))/\∀z,G.lookup z=some .bas->∀h:Heap,K.In h->HK K mg h (Cs.getD c 0) bm z:=by
 intro x c h
 obtain⟨h0,h1,h2⟩:=hx x c h
 refine⟨h1,_,h2,λy d hy=>?_,λz hz h' hi=>?_⟩
 ·obtain⟨g0,_,_⟩:=hx y d hy
  rw[ZR]at hn
  have hc:Cs.getD c 0=Cs[c]:=by simp[List.getD,zJ h0]
  have hd:Cs.getD d 0=Cs[d]:=by simp[List.getD,zJ g0]
  by_cases e:c=d
  ·subst e
   rw[qP,zX rfl]
  ·rw[zV e]
   refine GI (a:=0) (λz=>?_) λz=>?_
   ·rw[hc,hd]at z
    exact e ((List.getElem_inj hn.2).mp z)
   simp_all
 ·obtain⟨b1,b2,b3⟩:=hb z hz
  obtain⟨e1,e2,e3⟩:=b3 x c h
  refine⟨J,xp,b1,b2 h' hi,?_,?_,e1,e2,e3⟩
  ·rw[List.contains_cons,qP,Bool.or_true]
  rfl
def GlAt(K:Fg0)(mg:Str->Option Value)(Cs:List Addr)(J:Addr)(p:Str×Gk):Prop:=match p.2 with
 |.con w=>∃u v,mg p.1=some u/\RelV v u/\∀ρ H,Rel K ρ H w v
 |.cls c=>c<Cs.length/\ErrAt K mg p.1 (Cs.getD c 0) J/\Oy K (Cs.getD c 0)
 |.bas=>BasAt K mg p.1 J
 |_=>True
def AllP{α:Type}(P:α->Prop):List α->Prop
 |[]=>True
 |a::l=>P a/\AllP P l
theorem AllP.mem{α:Type}{P:α->Prop}:∀{l:List α},AllP P l->∀x∈l,P x
 |_::_,h,_,m=>by rcases zS.mp m with rfl|m;exact h.1;exact AllP.mem h.2 _ m
theorem laid_all{K:Fg0}{mg:Str->Option Value}{h:Heap}{G:List (Str×Gk)}{Cs:List Addr}{J:Addr}(X:K.In h)(N:h.Ns mainGlobals mg)(D:AllP (kT K mg) ds)(Z:AllP (λx=>PySem.W.nsIn K mainGlobals x=some none) bltNames)(g:AllP (GlAt K mg Cs J) G)(u:(J::Cs).Nodup):∃cl,Laid K mg cl ds G :=
 ⟨λc=>Cs.getD c 0,all_mem  D.mem,λx w e=>g.mem (x,.con w) (bH e),λx hx _=>PySem.W.mg_none_of X N (Z.mem x hx),Cf u (λx c e=>have q:=g.mem (x,.cls c) (bH e);⟨q.1,q.2.1.m,q.2.1.e⟩) λz hz=>have q:=g.mem (z,.bas) (bH hz);⟨q.m,q.e,λx c e=>(g.mem (x,.cls c) (bH e)).2.2⟩⟩
theorem with_ocl{K:Fg0}{h:Heap}{Q:Prop}{c:Nat}{C:Addr}(_:K.In h)(o:OCl K c C)(q:OCl K c C->Q):Q:=q o
theorem af{fw:Nat}{tb:List Fn}{d f:Nat}{g:Fn}{ws:List W}{h:aa}(hg:tb[f]?=some g)(hl:ws.length=g.np) :
  ae fw tb (d+1) f ws h=fin h.length (aA (ae fw tb d) fw g.body (ws.map some++List.replicate (g.ns-g.np) none) h):=by
 show(match tb[f]? with|some g=>_|none=>_)=_
 simp_all
@[simp] theorem bnd_ok {α β:Type} (a:α) (h:aa) (f:α->aa->Res β):bnd (.ok a h) f=f a h:=rfl
@[simp] theorem bnd_stuck {α β:Type} (f:α->aa->Res β):bnd (.stuck) f=.stuck:=rfl
@[simp] theorem bnd_exc {α β:Type} (c:Nat) (h:aa) (f:α->aa->Res β):bnd (.exc c h) f=.exc c h:=rfl
theorem Ab{x y:Int}{m n:Nat}(hx:x.natAbs<2^m)(hy:y.natAbs<2^n)(h:m+n<=134217728):eR x y=true:=by
 rw[gP];unfold sU
 rw[zzh]
 refine .inr (zX ?_)
 have a:=PySem.intBits_le_iff.mpr hx
 have b:=PySem.intBits_le_iff.mpr hy
 lia
theorem Br(h:-(2^64)<y/\y<2^64):eR x y=true:=by rw[gP];unfold sU;simp_all
theorem ko(xs:List α)(k:Nat):atI xs (k)=xs[k]?:=by unfold atI ixN;by_cases h:(k)<xs.length;simp_all;simp_all
theorem oo(h)(m:eR i j=true):ip .Mult (.int i) (.int j) h=.ok (.int (i*j)) h:=by unfold ip lT je;simp_all
theorem tm(i j)(h):ip .Add (.int i) (.int j) h=.ok (.int (i+j)) h:=rfl
theorem Bq(i j)(h):ip .Sub (.int i) (.int j) h=.ok (.int (i-j)) h:=rfl
theorem eL(h)(m:j≠0):ip .Mod (.int i) (.int j) h=.ok (.int (i.fmod j)) h:=by unfold ip lT je;simp_all
theorem oN(h)(m:j≠0)(l:j.natAbs.log2<9000):ip .FloorDiv (.int i) (.int j) h=.ok (.int (i.fdiv j)) h:=by unfold ip lT je;simp_all
theorem o8(i j)(h):bI .Lt (.int i) (.int j) h=.ok (.bl (decide (i<j))) h:=rfl
theorem Ee(i j)(h):bI .LtE (.int i) (.int j) h=.ok (.bl (decide (i<=j))) h:=rfl
theorem rO(i j)(h):bI .Gt (.int i) (.int j) h=.ok (.bl (decide (j<i))) h:=rfl
theorem Ct(i j)(h):bI .GtE (.int i) (.int j) h=.ok (.bl (decide (j<=i))) h:=rfl
theorem Ag(i j)(h):bI .Eq (.int i) (.int j) h=.ok (.bl (decide (i=j))) h:=rfl
theorem xX(i j)(h):bI .NotEq (.int i) (.int j) h=.ok (.bl (!decide (i=j))) h:=rfl
theorem cw(ea:evE cf a σ h=.ok x h1)(eb:evE cf b σ h1=.ok y h2)(o:ip op x y h2=r):evE cf (.bin op a b) σ h=r:=by rw[evE,ea,bnd_ok,eb,bnd_ok,o]
theorem bU(ea:evE cf a σ h=.ok x h1)(eb:evE cf b σ h1=.ok y h2)(o:bI op x y h2=r):evE cf (.cmp op a b) σ h=r:=by rw[evE,ea,bnd_ok,eb,bnd_ok,o]
theorem av{cf:CF}{w:W}{σ:ag}{h:aa}:evE cf (.con w) σ h=.ok w h:=rfl
theorem ao{cf:CF}{i:Nat}{w:W}{σ:ag}{h:aa}(e:σ[i]?=some (some w)):evE cf (.var i) σ h=.ok w h:=by rw[evE,e]
theorem U0{σ:ag}(e:σ[0]?=some (some w)):evE c (.var 0) σ h=.ok w h:=ao e
theorem U1{σ:ag}(e:σ[1]?=some (some w)):evE c (.var 1) σ h=.ok w h:=ao e
theorem U2{σ:ag}(e:σ[2]?=some (some w)):evE c (.var 2) σ h=.ok w h:=ao e
theorem U3{σ:ag}(e:σ[3]?=some (some w)):evE c (.var 3) σ h=.ok w h:=ao e
theorem U4{σ:ag}(e:σ[4]?=some (some w)):evE c (.var 4) σ h=.ok w h:=ao e
theorem U5{σ:ag}(e:σ[5]?=some (some w)):evE c (.var 5) σ h=.ok w h:=ao e
theorem U7{σ:ag}(e:σ[7]?=some (some w)):evE c (.var 7) σ h=.ok w h:=ao e
theorem U9{σ:ag}(e:σ[9]?=some (some w)):evE c (.var 9) σ h=.ok w h:=ao e
theorem ai{cf:CF}{fw:Nat}{s:S}{ss:List S}{σ σ':ag}{h h':aa}(e:exS cf fw s σ h=.ok (.nx σ') h'):aA cf fw (s::ss) σ h=aA cf fw ss σ' h':=by rw[aA,e,bnd_ok]
theorem a7(e:exS cf fw s σ h=.ok (.ret w) h'):aA cf fw (s::ss) σ h=.ok (.ret w) h':=by rw[aA,e,bnd_ok]
theorem fV(e:bw cf c σ h=.ok false h1):exS cf fw (.if_ c a []) σ h=.ok (.nx σ) h1:=by show bnd (bw cf c σ h) _=_;rw[e,bnd_ok,zM ZzS,aA]
theorem MM(e:bw cf c σ h=.ok false h1):exS cf fw (.if_ c a b) σ h=aA cf fw b σ h1:=by rw[exS];simp_all
theorem lz(e:bw cf c σ h=.ok true h1):exS cf fw (.if_ c a b) σ h=aA cf fw a σ h1:=by rw[exS];simp_all
theorem bD{cf:CF}{c:E}{σ:ag}{h h1:aa}{b:Bool}(e:evE cf c σ h=.ok (.bl b) h1):bw cf c σ h=.ok b h1:=by show iz (evE cf c σ h)=_;rw[e];rfl
theorem yT{cf:CF}{a b:E}{σ:ag}{h h1:aa}{r:Res Bool}(e:bw cf a σ h=.ok false h1)(e2:bw cf b σ h1=r):bw cf (.or_ a b) σ h=r:=by rw[tF,e,bnd_ok,zM ZzS,e2]
theorem Bh(e:bw cf a σ h=.ok true h1):bw cf (.or_ a b) σ h=.ok true h1:=by rw[tF,e,bnd_ok,zF rfl]
theorem nk(e:bw cf a σ h=.ok true h1)(e2:bw cf b σ h1=r):bw cf (.and_ a b) σ h=r:=by rw[o6,e,bnd_ok,zF rfl,e2]
theorem vV(e:bw cf a σ h=.ok false h1):bw cf (.and_ a b) σ h=.ok false h1:=by rw[o6,e,bnd_ok,zM ZzS]
theorem B3{cf:CF}{a:E}{σ:ag}{h h1:aa}{b:Bool}(e:bw cf a σ h=.ok b h1):bw cf (.not_ a) σ h=.ok (!b) h1:=by show iz (bnd (bw cf a σ h) _)=_;rw[e];rfl
theorem k9{test:ag->aa->Res Bool}{body:ag->aa->Res Fl}{n:Nat}{σ σ':ag}{h h1 h2:aa}(ht:test σ h=.ok true h1)(hb:body σ h1=.ok (.nx σ') h2):wh test body (n+1) σ h=wh test body n σ' h2:=by rw[wh,ht,bnd_ok,zF rfl,hb,bnd_ok]
theorem jb{test:ag->aa->Res Bool}{body:ag->aa->Res Fl}{n:Nat}{σ:ag}{h h1:aa}(ht:test σ h=.ok false h1):wh test body (n+1) σ h=.ok (.nx σ) h1:=by rw[wh,ht,bnd_ok,zM ZzS]
theorem cJ{is:List Nat}{body:ag->aa->Res Fl}{w:W}{ws:List W}{σ σ1 σ':ag}{h h2:aa}(hb:aV is w σ=some σ1)(e:body σ1 h=.ok (.nx σ') h2):fo is body (w::ws) σ h=fo is body ws σ' h2:=by rw[fo];simp_all
mutual
theorem bK:∀w,ak w=true->i5 h n0 w=some w
 |.non,_=>by simp[i5]
 |.bl _,_=>by simp[i5]
 |.int _,_=>by simp[i5]
 |.str _,_=>by simp[i5]
 |.tup ws,q=>by rw[ak]at q;rw[i5,dA ws q];rfl
 |.lst ws,q=>by rw[ak]at q;rw[i5,dA ws q];rfl
 |.scr ws,q=>by rw[ak]at q;rw[i5,dA ws q];rfl
 |.ins c ws,q=>by rw[ak]at q;rw[i5,dA ws q];rfl
 |.dic ks ws,q=>by rw[ak]at q;rw[i5,dA ws q];rfl
 |.ref n,q=>by rw[ak]at q;cases q
theorem dA:∀ws,ah ws=true->gj h n0 ws=some ws
 |[],_=>by rw[gj]
 |w::ws,q=>by rw[ah,zE]at q;rw[gj,bK w q.1,dA ws q.2]
end
theorem uM(e:seqA h x=some us):Dp h x=some us:=by
 cases x with
 |str z=>cases e
 |_=>exact e
noncomputable def cell(ns:List Int)(k:Nat):Int:=ns.getD k 0
theorem x8(ns:List Int)(k)(h:k<ns.length):atI (ns.map W.int) (k)=some (.int (cell ns k)):=by rw[ko,zT];unfold cell;simp_all
theorem Bb(h:¬ (k<ns.length)):cell ns k=0:=by unfold cell;simp_all
noncomputable abbrev Mu:List S:=[.if_ (.cmp .Lt V1 (.blt .len [V0])) [.ret (.ix V0 V1)] [],.ret (.con (.int 0))]
theorem FQ{fw:Nat}{tb:List Fn}{f:Nat}(hg:tb[f]?=some ⟨2,2,Mu,none⟩)(d:Nat)(ns:List Int)(k:Nat)(h:aa) :
  ae fw tb (d+1) f [.scr (ns.map W.int),.int (k)] h=.ok (.int (cell ns k)) h:=by
 rw[af hg rfl]
 by_cases hk:k<ns.length
 ·have hk' :=ZzO
  simp[Mu,aA,exS,evE,evA,bA,oR,L9,hZ,uq,o9,vA,Ho,uC,seqA,eK,seqL,je,bI,fX,iz,qO,hk',dC,x8 ns k hk,fin,i5,gj,ak]
 ·have hk' :=ZzO
  simp[Mu,aA,exS,evE,evA,bA,oR,L9,hZ,uq,o9,vA,Ho,uC,seqA,eK,seqL,je,bI,fX,iz,qO,hk',dC,fin,i5,gj,ak,Bb hk]
noncomputable abbrev aq(m:Nat):W:=.int (m:Int)
noncomputable abbrev sh(p q:Nat):W:=.tup [aq p,aq q]
theorem iO(m n:Nat):Int.fmod (m) (n)=((m%n:Nat)):=by grind
theorem qu(m n:Nat):Int.fdiv (m) (n)=((m/n:Nat)):=by rw[Int.fdiv_eq_ediv_of_nonneg _ (Int.natCast_nonneg n)];rfl
theorem CY(m n:Nat):(m)*(n)=((m*n:Nat):Int):=(Int.natCast_mul m n).symm
theorem DF(m n:Nat):(m)+(n)=((m+n:Nat):Int):=(Int.natCast_add m n).symm
theorem vy(h:n<2^k)(hk:0<k):n.log2<k:=by by_cases z:n=0;simp_all;exact(Nat.log2_lt z).mpr h
theorem mG{m n:Nat}(hm:m<2^100000)(hn:n<2^100000):eR (m) (n:Int)=true :=
 Ab   (by simpa using hm) (by simpa using hn) ZzD
noncomputable abbrev oa:List S:=[.while_ (.cmp .Gt V1 (.con (.int 0))) [.asg 2 (.bin .Mod V0 V1),.asg 0 V1,.asg 1 V2],.ret V0]
noncomputable abbrev NL(cf:CF):ag->aa->Res Bool:=λσ h=>iz (evE cf (.cmp .Gt V1 (.con (.int 0))) σ h)
noncomputable abbrev ve:List S:=[.asg 2 (.bin .Mod V0 V1),.asg 0 V1,.asg 1 V2]
theorem qi(cf:CF)(fw)(h):∀n a b r,b<n ->
  ∃r',wh (NL cf) (aA cf fw ve) n [some (aq a),some (aq b),r] h=.ok (.nx [some (aq (Nat.gcd a b)),some (aq 0),r']) h
 |0,a,b,r,hb=>absurd hb (Nat.not_lt_zero b)
 |n+1,a,b,r,hb=>by
  by_cases z:b=0;subst z;rw[jb  (rfl)];simp;obtain⟨r',e⟩:=qi cf fw h n b (a%b) (some (aq (a%b))) (zj (ZU a (zzA z)) (Nat.le_of_lt_succ hb));refine⟨r',?_⟩;have g:Nat.gcd a b=Nat.gcd b (a%b):=by rw[Nat.gcd_comm a b,Nat.gcd_rec b a,Nat.gcd_comm]
  rw[k9 (h1:=h) (h2:=h) (σ':=[some (aq b),some (aq (a%b)),some (aq (a%b))]) (by simp[NL,evE,bI,fX,iz,qO,zzA z]) (by simp[ve,aA,exS,evE,ip,lT,z,je,iO]),e,g]
theorem C9{fw:Nat}{tb:List Fn}{f:Nat}(hg:tb[f]?=some ⟨2,3,oa,none⟩)(d a b:Nat)(h:aa)(hb:b<fw):ae fw tb (d+1) f [aq a,aq b] h=.ok (aq (Nat.gcd a b)) h:=by
 rw[af hg rfl];obtain⟨r',e⟩:=qi (ae fw tb d) fw h fw a b none hb;have e':aA (ae fw tb d) fw oa ([aq a,aq b].map some++List.replicate (3-2) none) h=.ok (.ret (aq (Nat.gcd a b))) h:=by show aA (ae fw tb d) fw oa [some (aq a),some (aq b),none] h=_;rw[aA,exS,e];rfl
 rw[e'];simp[fin,i5,gj,ak]
noncomputable abbrev wA(g:Nat):List S:=[.asg 2 (.call g [V0,V1]),.ret (.tup [(.bin .FloorDiv V0 V2),(.bin .FloorDiv V1 V2)])]
noncomputable def jS(a b:Nat):Nat×Nat:=(a/Nat.gcd a b,b/Nat.gcd a b)
noncomputable abbrev m6(s:Nat×Nat):W:=sh s.1 s.2
theorem C5{fw:Nat}{tb:List Fn}{f g:Nat}(hf:tb[f]?=some ⟨2,3,wA g,none⟩)(hg:tb[g]?=some ⟨2,3,oa,none⟩)(d a b:Nat)(h:aa)(hb:b<fw)(h0:0<b)(hz:b<2^9000) :
  ae fw tb (d+2) f [aq a,aq b] h=.ok (m6 (jS a b)) h:=by
 rw[af  hf rfl]
 have e:=C9 hg d a b h hb
 have gp :=zzX a h0
 have gl :=Nat.gcd_le_right a h0
 have hl :=vy (zQ gl hz) ZzD
 clear hz
 have hne:¬ (Nat.gcd a b:Int)=0:=ZzL
 have hc:((Nat.gcd a b:Int)≠0/\((Nat.gcd a b:Int)).natAbs.log2<9000):=⟨hne,by simpa using hl⟩
 simp only[zO,Zy,List.replicate,List.cons_append,zzf,aA,exS,evE,evA,bnd_ok,List.getElem?_cons_zero,List.getElem?_cons_succ,e,List.set_cons_succ,List.set_cons_zero,ip,lT,zF hc,je,qu,bnd_ok]
 simp[sizeLine,fin,i5,gj,ak,ah,jS]
@[irreducible] def FW:Nat:=2^9000
theorem BS(x B:Int)(h0:0<B):∃m:Nat,x.fmod B=(m)/\(m)<B:=by have a:=Int.fmod_nonneg_of_pos x h0;have b:=Int.fmod_lt_of_pos x h0;exact⟨(x.fmod B).toNat,ZzL,ZzL⟩
theorem lW(ea:evE cf a σ h=.ok x h1)(o:cf f [x] h1=r):evE cf (.call f [a]) σ h=r:=by rw[evE,dj,ea,bnd_ok,bnd_ok,o]
theorem cW{cf:CF}{f:Nat}{a b:E}{σ:ag}{h h1 h2:aa}{x y:W}{r:Res W}(ea:evE cf a σ h=.ok x h1)(eb:evE cf b σ h1=.ok y h2)(o:cf f [x,y] h2=r):evE cf (.call f [a,b]) σ h=r:=by rw[evE,uj,ea,bnd_ok,eb,bnd_ok,bnd_ok,o]
theorem aj(ea:evE cf a σ h=.ok x h1)(eb:evA cf as σ h1=.ok xs h2):evA cf (a::as) σ h=.ok (x::xs) h2:=by rw[evA,ea,bnd_ok,eb,bnd_ok]
theorem ay:evA cf [] σ h=.ok [] h:=rfl
theorem hW(ea:evA cf as σ h=.ok xs h1)(o:cf f xs h1=r):evE cf (.call f as) σ h=r:=by rw[evE,ea,bnd_ok,o]
theorem bz{cf:CF}{fw i:Nat}{e:E}{σ:ag}{h h1:aa}{w:W}(ee:evE cf e σ h=.ok w h1):exS cf fw (.asg i e) σ h=.ok (.nx (σ.set i (some w))) h1:=by rw[exS,ee,bnd_ok]
theorem aQ(ee:evE cf e σ h=.ok w h1):exS cf fw (.ret e) σ h=.ok (.ret w) h1:=by rw[exS,ee,bnd_ok]
theorem vc{cf:CF}{at_:Nat}{ns:List Int}{h:aa}{σ:ag}{i:Nat}(hc:∀(k:Nat) (h:aa),cf at_ [.scr (ns.map W.int),.int (k)] h=.ok (.int (cell ns k)) h)(hs:σ[i]?=some (some (.scr (ns.map W.int))))(k:Nat) :
 evE cf (.call at_ [.var i,.con (.int (k))]) σ h=.ok (.int (cell ns k)) h:=cW (ao hs) av (hc k h)
theorem i0(a b:W):L2.atI [a,b] 0=some a:=rfl
theorem i1(a b:W):L2.atI [a,b] 1=some b:=rfl
theorem JY{ws:List W}{i:Int}{w:W}{h:aa}(e:L2.atI ws i=some w):dC (.tup ws) (.int i) h=.ok w h:=by unfold dC seqA eK;simp only[Option.or,e]
theorem rT(e:L2.atI ws i=some w):dC (.lst ws) (.int i) h=.ok w h:=by unfold dC seqA eK seqL;simp_all
theorem bO{cf:CF}{a b:E}{σ:ag}{h h1 h2:aa}{x y:W}{r:Res W}(ea:evE cf a σ h=.ok x h1)(eb:evE cf b σ h1=.ok y h2)(o:dC x y h2=r):evE cf (.ix a b) σ h=r:=by rw[evE,ea,bnd_ok,eb,bnd_ok,o]
theorem Hl{cf:CF}{i:Nat}{p q:Nat}{σ:ag}{h:aa}(e:σ[i]?=some (some (sh p q))):evE cf (.ix (.var i) (.con (.int 0))) σ h=.ok (aq p) h:=bO (ao e) av (JY (i0 _ _))
theorem Gv{cf:CF}{i:Nat}{p q:Nat}{σ:ag}{h:aa}(e:σ[i]?=some (some (sh p q))):evE cf (.ix (.var i) (.con (.int 1))) σ h=.ok (aq q) h:=bO (ao e) av (JY (i1 _ _))
theorem oY{cf:CF}{a b:E}{m n:Nat}{σ:ag}{h:aa}(ea:evE cf a σ h=.ok (aq m) h)(eb:evE cf b σ h=.ok (aq n) h)(hm:eR (m) (n)=true):evE cf (.bin .Mult a b) σ h=.ok (aq (m*n)) h :=
 (cw ea eb (oo _ hm)).trans (rfl)
theorem f7{cf:CF}{a b:E}{m n:Nat}{σ:ag}{h:aa}(ea:evE cf a σ h=.ok (aq m) h)(eb:evE cf b σ h=.ok (aq n) h):evE cf (.bin .Add a b) σ h=.ok (aq (m+n)) h :=
 (cw ea eb (tm _ _ _)).trans (rfl)
theorem fF{cf:CF}{a b:E}{m n:Nat}{σ:ag}{h:aa}(ea:evE cf a σ h=.ok (aq m) h)(eb:evE cf b σ h=.ok (aq n) h)(h0:0<n)(hz:n<2^9000):evE cf (.bin .FloorDiv a b) σ h=.ok (aq (m/n)) h :=
 (cw ea eb (oN _ (Int.natCast_ne_zero.mpr (ZO h0)) (by simpa using vy hz ZzS))).trans (by rw[qu])
theorem cK{cf:CF}{a b:E}{m n:Nat}{σ:ag}{h:aa}(ea:evE cf a σ h=.ok (aq m) h)(eb:evE cf b σ h=.ok (aq n) h)(h0:0<n):evE cf (.bin .Mod a b) σ h=.ok (aq (m%n)) h :=
 (cw ea eb (eL _ (Int.natCast_ne_zero.mpr (ZO h0)))).trans (by rw[iO])
theorem i7(ea:evA cf as σ h=.ok xs h1)(hl:xs.length<=1000):evE cf (.tup as) σ h=.ok (.tup xs) h1:=by rw[evE,ea,bnd_ok,zF (zf hl ZzD)]
theorem cj{cf:CF}{as:List E}{σ:ag}{h h1:aa}{xs:List W}(ea:evA cf as σ h=.ok xs h1)(hl:xs.length<=1000):evE cf (.lst as) σ h=.ok (.lst xs) h1:=by rw[evE,ea,bnd_ok,zF (zf hl ZzD)]
theorem eU{cf:CF}{a b:E}{σ:ag}{h:aa}{x y:W}(ea:evE cf a σ h=.ok x h)(eb:evE cf b σ h=.ok y h):evA cf [a,b] σ h=.ok [x,y] h:=aj ea (aj eb ay)
theorem dU(hp:ak w=true)(hw:∀n,w≠.ref n)(hl:h.length=n0):J.fin n0 (.ok (.ret w) h)=.ok w h:=by
 unfold J.fin
 dsimp only
 rw[bK w hp]
 grind
theorem fP{ws:List W}{h:aa}(hp:ah ws=true):J.fin h.length (.ok (.ret (.tup ws)) h)=.ok (.tup ws) h:=dU (hp) (λn z=>nomatch z) rfl
theorem gY:J.fin h.length (.ok (.ret (.int i)) h)=.ok (.int i) h:=dU rfl (λn z=>nomatch z) rfl
theorem aC{b:Bool}{h:aa}:J.fin h.length (.ok (.ret (.bl b)) h)=.ok (.bl b) h:=dU rfl (λn z=>nomatch z) rfl
theorem uA(p q):ah [aq p,aq q]=true:=rfl
noncomputable abbrev j6(l:Nat):List S:=[.ret (.call l [(.bin .Mult (.ix V0 (.con (.int 0))) V1),(.bin .Mult (.ix V0 (.con (.int 1))) V2)])]
theorem ng{fw:Nat}{tb:List Fn}{f l g:Nat}(hf:tb[f]?=some ⟨3,3,j6 l,none⟩)(hl:tb[l]?=some ⟨2,3,wA g,none⟩)(hg:tb[g]?=some ⟨2,3,oa,none⟩)(d p q m o:Nat)(h:aa)
  (m1:eR (p:Int) (m:Int)=true) (m2:eR (q:Int) (o:Int)=true) (q0:0<q) (o0:0<o) (hz:q*o<2^9000) (hw:q*o<fw) :
  ae fw tb (d+3) f [sh p q,aq m,aq o] h=.ok (m6 (jS (p*m) (q*o))) h:=by
 rw[af (d:=d+2) hf rfl]
 have e:=C5 hl hg d (p*m) (q*o) h hw (Nat.mul_pos q0 o0) hz
 generalize ae fw tb (d+2)=cf at *
 show J.fin h.length (aA cf fw (j6 l) [some (sh p q),some (aq m),some (aq o)] h)=_
 rw[a7 (aQ (cW (oY (Hl (i:=0) rfl) (U1 rfl) m1) (oY (Gv (i:=0) rfl) (U2 rfl) m2) e))]
 exact fP (uA _ _)
theorem bQ(x:Int){C:Nat}(h0:0<C):∃m:Nat,x.fmod (C)=(m)/\m<C:=by obtain⟨m,e,h⟩:=BS x (C) ZzL;exact⟨m,e,ZzL⟩
theorem dY{cf:CF}{a b:E}{x:Int}{C m:Nat}{σ:ag}{h:aa}(ea:evE cf a σ h=.ok (.int x) h)(eb:evE cf b σ h=.ok (aq C) h)(h0:0<C)(e:x.fmod (C)=(m)):evE cf (.bin .Mod a b) σ h=.ok (aq m) h :=
 (cw ea eb (eL _ (Int.natCast_ne_zero.mpr (ZO h0)))).trans (by rw[e])
theorem aD{cf:CF}{n:Nat}{σ:ag}{h:aa}:evE cf (.con (aq n)) σ h=.ok (aq n) h:=av
theorem Fq{cf:CF}{fw i:Nat}{e:E}{σ:ag}{h:aa}{w:W}(ee:evE cf e σ h=.ok w h):aA cf fw [.asg i e] σ h=.ok (.nx (σ.set i (some w))) h:=by rw[ai (bz ee),aA]
theorem sr(h:-(2^64)<x/\x<2^64):eR x y=true:=by rw[gP];unfold sU;simp_all
theorem jt{cf:CF}{i n:Nat}{e:E}{σ:ag}{h:aa}{us:List W}{w:W}(hs:σ[i]?=some (some (.ref n)))(hn:h[n]?=some (.lst us))(ee:evE cf e σ h=.ok w h)(hp:ak w=true)(hz:us.length<=1000000) :
  evE cf (.meth .append (.var i) [e]) σ h=.ok .non (h.set n (.lst (us++[w]))):=by
 have z:seqM h (.ref n)=some us:=by show(match h[n]? with|some (.lst ws)=>some ws|_=>none)=some us;rw[hn]
 rw[evE,ao hs,bnd_ok,zF (show bR .append h (.ref n)=true by show(seqM h (.ref n)).isSome=true;rw[z];rfl),dj,ee]
 show(match h[n]? with|some (.lst us)=>if ak w=true/\us.length<sizeLine then Res.ok W.non (h.set n (.lst (us++[w]))) else .stuck|_=>.stuck)=_
 rw[hn]
 dsimp only
 rw[zF ⟨hp,zQ hz ZzD⟩]
theorem oU{cf:CF}{fw:Nat}{e:E}{σ:ag}{h h1:aa}{w:W}(ee:evE cf e σ h=.ok w h1):exS cf fw (.exp e) σ h=.ok (.nx σ) h1:=by rw[exS,ee,bnd_ok]
theorem mf{cf:CF}{fw:Nat}{is:List Nat}{e:E}{b:List S}{σ:ag}{h:aa}{n:Nat}(ee:evE cf e σ h=.ok (aq n) h)(hz:n<2^62):exS cf fw (.for_ is (.rng [e]) b) σ h=fo is (aA cf fw b) ((List.range n).map λ(k:Nat)=>W.int (0+(k:Int))) σ h:=by
 rw[exS,dj,ee,bnd_ok,bnd_ok];have c:-(2^62)<=(n:Int)/\(n:Int)<2^62:=ZzL;have z:lQ [aq n]=some ((List.range n).map λ(k:Nat)=>W.int (0+(k:Int))):=by rw[cM];unfold jV;dsimp only;rw[zF c,Zt]
 rw[z]
theorem dB(i)(w)(σ):aV [i] w σ=some (σ.set i (some w)):=rfl
mutual
noncomputable def pA:W->Bool
 |.int _=>true
 |.str _=>true
 |.tup ws=>dR ws&&decide (ws.length<=100000)
 |.lst ws=>dR ws&&decide (ws.length<=100000)
 |_=>false
noncomputable def dR:List W->Bool
 |[]=>true
 |w::ws=>pA w&&dR ws
end
mutual
noncomputable def oZ:W->Nat
 |.tup ws=>dS ws+1
 |.lst ws=>dS ws+1
 |_=>0
noncomputable def dS:List W->Nat
 |[]=>0
 |w::ws=>Nat.max (oZ w) (dS ws)
end
theorem rE:∀{ws:List W}{w:W},dR ws=true->w∈ws->pA w=true
 |[],_,_,h=>nomatch h
 |u::ws,w,h,m=>by rw[dR,zE]at h;rcases zS.mp m with e|m;simp_all;exact rE h.2 m
theorem pM:∀{ws:List W}{w:W},w∈ws->oZ w<=dS ws
 |[],_,h=>nomatch h
 |u::ws,w,m=>by rw[dS];rcases zS.mp m with e|m;subst e;exact Nat.le_max_left _ _;exact zf (pM m) (Nat.le_max_right _ _)
noncomputable abbrev EM(f:Nat):List S:=[.if_ (.not_ (.call f [(.ix V0 V3),(.ix V1 V3)])) [.ret (.con (.bl false))] []]
noncomputable abbrev xF(f : Nat) : List S := [.if_ (.isi V1 [.list, .tuple]) [.asg 2 (.ite (.isi V1 [.list]) (.isi V0 [.list]) (.isi V0 [.tuple])),
 .if_ (.or_ (.not_ V2) (.cmp .NotEq (.blt .len [V0]) (.blt .len [V1]))) [.ret (.con (.bl false))] [],
 .for_ [3] (.rng [(.blt .len [V1])]) (EM f),
 .ret (.con (.bl true))] [],
 .if_ (.isi V1 [.str]) [.ret (.and_ (.isi V0 [.str]) (.cmp .Eq V0 V1))] [],
 .ret (.and_ (.isi V0 [.int]) (.and_ (.not_ (.isi V0 [.bool])) (.cmp .Eq V0 V1)))]
theorem HR{cf:CF}{a:E}{ts:List Ty}{σ:ag}{h h1:aa}{x:W}{bs:List Bool}(ea:evE cf a σ h=.ok x h1)(e:ts.mapM (bq h1 x)=some bs):evE cf (.isi a ts) σ h=.ok (.bl (bs.any id)) h1:=by rw[evE,ea,bnd_ok,e];rfl
theorem fR{cf:CF}{a:E}{σ:ag}{h h1:aa}{x:W}{us:List W}(ea:evE cf a σ h=.ok x h1)(e:seqA h1 x=some us):evE cf (.blt .len [a]) σ h=.ok (aq us.length) h1:=by rw[evE,aj ea ay];show hZ x h1=_;unfold hZ;rw[e];rfl
theorem mQ{cf:CF}{fw f:Nat}{x:W}{ws:List W}{h:aa}(hx:∀k:Nat,k<ws.length->∃w,dC x (aq k) h=.ok w h/\cf f [w,w] h=.ok (.bl true) h):∀(ks:List Nat) (r:Option W),(∀k∈ks,k<ws.length) ->
  ∃r',fo [3] (aA cf fw (EM f)) (ks.map λ(k:Nat)=>W.int (0+(k))) [some x,some x,some (.bl true),r] h=.ok (.nx [some x,some x,some (.bl true),r']) h
 |[],r,_=>⟨r,rfl⟩
 |k::ks,r,hk=>by obtain⟨r',e⟩:=mQ   hx ks (some (aq k)) λj hj=>hk j (zB _ hj);obtain⟨w,e1,e2⟩:=hx k (hk k zN);refine⟨r',?_⟩;rw[zO,Int.zero_add _];refine(cJ (dB _ _ _)   ((ai (fV (B3  (bD (cW (bO (ao  rfl) (ao  rfl) e1) (bO (ao  rfl) (ao  rfl) e1) e2))))).trans ?_)).trans e;rfl
noncomputable abbrev abc:Str:="abcdefghijklmnopqrstuvwxyz"
noncomputable def qj(n:Nat):Str:=⟨#[abc.cps.toList.getD n 0]⟩
theorem oi(h:n<26)(c):dC (.str abc) (aq n) c=.ok (.str (qj n)) c:=by show Mj abc ((n)) c=_;unfold Mj;have hl:abc.cps.toList.length=26:=rfl;rw[zF ZzD,ko];unfold qj;simp_all
theorem bF(n):(qj n).length=1:=rfl
noncomputable def dh(how shift:Nat):Str:=Txt.mul (qj (shift/26%26)) ((how/3%11:Nat):Int)
noncomputable def aH(how shift k:Nat):Str:=if how%3<2 then
  Txt.slice (dh how shift) none (some ((how/33%11:Nat):Int))++qj ((5*k+shift)%26)++qj ((k/26+shift)%26)++Txt.slice (dh how shift) (some ((how/33%11:Nat):Int)) none
 else Txt.mul (qj ((k/12+shift)%26)) ((1+k%12:Nat):Int)
theorem oG{x:Str}{n m:Nat}(hx:x.length=1)(hn:n<=m):(Txt.mul x (n)).length<=m:=by have:=len_mul_leN (x:=x) (n:=(n)) (L:=1) (N:=m) (by simp_all) (by simp_all);simp_all
theorem qV(how shift):(dh how shift).length<=11:=oG (bF _) ZzL
theorem bf(a b:Str):(a++b).length=a.length+b.length:=by show(a.cps++b.cps).size=_;rw[Array.size_append];rfl
theorem yN(how shift k:Nat):(aH how shift k).length<=24:=by
 unfold aH
 split
 ·rw[bf,bf,bf,bF,bF]
  have h1:=Txt.slice_le (dh how shift) none (some ((how/33%11:Nat)))
  have h2:=Txt.slice_le (dh how shift) (some ((how/33%11:Nat):Int)) none
  have h3:=qV how shift
  lia
 ·exact zf (oG (m:=12) (bF _) ZzL) ZzD
theorem uZ{x:Str}{n:Nat}(h:aa)(hx:x.length<=1000)(hn:n<=1000):ip .Mult (.str x) (aq n) h=.ok (.str (Txt.mul x (n))) h:=by
 show(if x.length<=1000/\-1000<=((n):Int)/\((n):Int)<=1000 then Res.ok (W.str (Txt.mul x n)) h else .stuck)=_
 grind
theorem ou(h)(hx:x.length<=1000)(hy:y.length<=1000):ip .Add (.str x) (.str y) h=.ok (.str (x++y)) h:=by show(if x.length+y.length<=sizeLine then Res.ok (W.str (x++y)) h else .stuck)=_;rw[zF (by rw[Zj];lia)]
theorem Ar{lo hi:Option E}(ea:evE cf a σ h=.ok (.str x) h)(el:evO cf lo σ h=.ok l h)(eu:evO cf hi σ h=.ok u h)(hx:x.length<=1000):evE cf (.sl a lo hi) σ h=.ok (.str (Txt.slice x l u)) h:=by rw[evE,ea,bnd_ok,el,bnd_ok,eu];show(if x.length<=1000 then Res.ok (W.str (Txt.slice x l u)) h else .stuck)=_;simp_all
theorem yj:evO cf none σ h=.ok none h:=rfl
theorem xJ{cf:CF}{a:E}{i:Int}{σ:ag}{h:aa}(ea:evE cf a σ h=.ok (.int i) h):evO cf (some a) σ h=.ok (some i) h:=by rw[evO,ea,bnd_ok]
noncomputable abbrev uH : List S := [.asg 8 (.ix V3 (.bin .Mod (.bin .Add (.bin .Mult (.con (.int 5)) V7) V2) IG)),
 .asg 9 (.ix V3 (.bin .Mod (.bin .Add (.bin .FloorDiv V7 IG) V2) IG)),
 .if_ (.cmp .Lt (.bin .Mod V1 (.con (.int 3))) (.con (.int 2))) [.exp (.meth .append V6 [(.bin .Add (.bin .Add (.bin .Add (.sl V4 none (some V5)) V8) V9) (.sl V4 (some V5) none))])] [.exp (.meth .append V6 [(.bin .Mult (.ix V3 (.bin .Mod (.bin .Add (.bin .FloorDiv V7 Md) V2) IG)) (.bin .Add (.con (.int 1)) (.bin .Mod V7 Md)))])]]
noncomputable abbrev kx : List S := [.asg 3 (.con (.str "abcdefghijklmnopqrstuvwxyz")),
 .asg 4 (.bin .Mult (.ix V3 (.bin .Mod (.bin .FloorDiv V2 IG) IG)) (.bin .Mod (.bin .FloorDiv V1 (.con (.int 3))) Me)),
 .asg 5 (.bin .Mod (.bin .FloorDiv V1 (.con (.int 33))) Me),
 .fresh 6 (.lst []),
 .for_ [7] (.rng [V0]) uH,
 .ret V6]
theorem sS{cf:CF}{a b:E}{m n:Nat}{σ:ag}{h:aa}(ea:evE cf a σ h=.ok (aq m) h)(eb:evE cf b σ h=.ok (aq n) h):bw cf (.cmp .Lt a b) σ h=.ok (decide (m<n)) h:=by refine bD ((bU ea eb (o8 _ _ _)).trans ?_);simp_all
theorem J7(h:n<2^10):n<2^9000:=zj h (z9 ZzS ZzS)
theorem jL(cf:CF)(fw)(m how shift)(h:aa):∀(ks:List Nat) (us:List Str) (r8 r9 r7:Option W),us.length+ks.length<=100000->(∀k∈ks,k<100000)->shift<100000->∃r7' r8' r9',
  fo [7] (aA cf fw uH) (ks.map λ(k:Nat)=>W.int (0+(k:Int))) [some (aq m),some (aq how),some (aq shift),some (.str abc),some (.str (dh how shift)),some (aq (how/33%11)),some (.ref h.length),r7,r8,r9] (h++[.lst (us.map W.str)])
   = .ok (.nx [some (aq m),some (aq how),some (aq shift),some (.str abc),some (.str (dh how shift)),some (aq (how/33%11)),some (.ref h.length),r7',r8',r9']) (h++[.lst ((us++ks.map (aH how shift)).map W.str)])
 |[],us,r8,r9,r7,_,_,_=>⟨r7,r8,r9,by rw[Zy,fo];simp⟩
 |k::ks,us,r8,r9,r7,hn,hk,hs=>by
  rw[z0]at hn;obtain⟨r7',r8',r9',e⟩:=jL cf fw m how shift h ks (us++[aH how shift k]) (some (.str (qj ((5*k+shift)%26)))) (some (.str (qj ((k/26+shift)%26)))) (some (aq k)) (by rw[zA,Zm];lia) (λj hj=>hk j (zB _ hj)) hs;refine⟨r7',r8',r9',?_⟩;have hkk:=hk k zN;rw[zO,show(0+(k:Int))=(k:Int) from Int.zero_add _];have el:us++List.map (aH how shift) (k::ks)=(us++[aH how shift k])++List.map (aH how shift) ks:=ZzS;rw[el];refine(cJ (dB _ _ _)  (h2:=h++[.lst ((us++[aH how shift k]).map W.str)]) ?_).trans e;have hcell:(h++[Ob.lst (us.map W.str)])[h.length]?=some (.lst (us.map W.str)):=by rw[zK (zD _),zzP];rfl
  have hset:(h++[Ob.lst (us.map W.str)]).set h.length (.lst (us.map W.str++[W.str (aH how shift k)]))=h++[.lst ((us++[aH how shift k]).map W.str)]:=ZzS;refine(ai (bz (bO (U3 rfl) (cK (n:=26) (f7 (oY (m:=5) aD (U7 rfl) (sr ZzD)) (U2 rfl)) aD ZzD) (oi (ZU _ ZzD) _)))).trans ?_;refine(ai (bz (bO (U3 rfl) (cK (n:=26) (f7 (fF (n:=26) (U7 rfl) aD ZzD (J7 ZzD)) (U2 rfl)) aD ZzD) (oi (ZU _ ZzD) _)))).trans ?_;have hul:(us.map W.str).length<=1000000:=by rw[zo];lia
  by_cases hw:how%3<2;have en:aH how shift k=Txt.slice (dh how shift) none (some ((how/33%11:Nat):Int))++qj ((5*k+shift)%26)++qj ((k/26+shift)%26)++Txt.slice (dh how shift) (some ((how/33%11:Nat):Int)) none:=by unfold aH;rw[zF hw]
  have h3:=qV how shift;have h1:=Txt.slice_le (dh how shift) none (some ((how/33%11:Nat):Int));have h2:=Txt.slice_le (dh how shift) (some ((how/33%11:Nat):Int)) none;refine(ai ((lz ((sS (m:=how%3) (n:=2) (cK (n:=3) (U1 rfl) aD ZzD) aD).trans (by rw[zX hw]))).trans ((ai (oU (jt (i:=6) (n:=h.length) (us:=us.map W.str) (w:=.str (aH how shift k)) rfl hcell ?_ rfl hul))).trans (by rw[aA])))).trans ?_;rw[en]
  exact cw (cw (cw (Ar (U4 rfl) yj (xJ (U5 rfl)) ZzL) (ao (i:=8) rfl) (ou _ ZzL (by rw[bF];decide))) (U9 rfl) (ou _ (by rw[bf,bF];lia) (by rw[bF];decide)))
   (Ar (U4 rfl) (xJ (U5 rfl)) yj ZzL) (ou _ (by rw[bf,bf,bF,bF];lia) ZzL)
  rw[aA,hset];rfl;have en:aH how shift k=Txt.mul (qj ((k/12+shift)%26)) ((1+k%12:Nat):Int):=by unfold aH;rw[zM hw]
  refine(ai ((MM ((sS (m:=how%3) (n:=2) (cK (n:=3) (U1 rfl) aD ZzD) aD).trans (by rw[zV hw]))).trans ((ai (oU (jt (i:=6) (n:=h.length) (us:=us.map W.str) (w:=.str (aH how shift k)) rfl hcell ?_ rfl hul))).trans (by rw[aA])))).trans ?_;rw[en]
  exact cw (bO (U3 rfl) (cK (n:=26) (f7 (fF (n:=12) (U7 rfl) aD ZzD (J7 ZzD)) (U2 rfl)) aD ZzD) (oi (ZU _ ZzD) _))
   (f7 (m:=1) aD (cK (n:=12) (U7 rfl) aD ZzD)) (uZ _ (by rw[bF];decide) ZzL)
  rw[aA,hset];rfl
theorem ax:∀ss:List Str,ah (ss.map W.str)=true
 |[]=>rfl
 |s::ss=>by rw[zO,ah,ax ss];rfl
theorem qJ(m how shift)(h)(hm:m<=1000)(hs:shift<100000):aA cf fw kx [some (aq m),some (aq how),some (aq shift),none,none,none,none,none,none,none] h=.ok (.ret (.ref h.length)) (h++[.lst (((List.range m).map (aH how shift)).map W.str)]):=by obtain⟨r7,r8,r9,lp⟩:=jL cf fw m how shift h (List.range m) [] none none none (by simp;lia) (λk hk=>by have:=ZF.mp hk;lia) hs;refine(ai (bz (cw (bO (U3 rfl) (cK (n:=26) (fF (n:=26) (U2 rfl) aD ZzD (J7 ZzD)) aD ZzD) (oi (ZU _ ZzD) _)) (cK (n:=11) (fF (n:=3) (U1 rfl) aD ZzD (J7 ZzD)) aD ZzD) (uZ _ (by rw[bF];decide) ZzL)))).trans ?_;refine(ai (bz (cK (n:=11) (fF (n:=33) (U1 rfl) aD ZzD (J7 ZzD)) aD ZzD))).trans ?_;refine(ai (σ':=[some (aq m),some (aq how),some (aq shift),some (.str abc),some (.str (dh how shift)),some (aq (how/33%11)),some (.ref h.length),none,none,none]) (h':=h++[.lst []]) ?_).trans ?_;rfl;refine(ai ((mf (U0 rfl) ZzL).trans lp)).trans ?_;exact a7 (aQ (ao (i:=6) rfl))
theorem sG{fw:Nat}{tb:List Fn}{f:Nat}(hg:tb[f]?=some ⟨3,10,kx,none⟩)(d m how shift:Nat)(h:aa)(hm:m<=1000)(hs:shift<100000):ae fw tb (d+1) f [aq m,aq how,aq shift] h=.ok (.lst (((List.range m).map (aH how shift)).map W.str)) h:=by rw[af hg rfl];show J.fin h.length (aA (ae fw tb d) fw kx [some (aq m),some (aq how),some (aq shift),none,none,none,none,none,none,none] h)=_;rw[qJ m how shift h hm hs];unfold J.fin;dsimp only;rw[i5];simp_all
theorem oK{n:Nat}{src:Option Nat}{f:W->aa->Res (Option W)}{F:W->W}{h:aa}(hn:h.length=n)(hs:∀k,src=some k->k<n):∀(ws us:List W),(∀w∈ws,∀us,f w (h++[.lst us])=.ok (some (F w)) (h++[.lst us])/\ak (F w)=true)->us.length+ws.length<=100000 ->
  lc n src f ws (h++[.lst us])=.ok () (h++[.lst (us++ws.map F)])
 |[],us,_,_=>by rw[lc];simp
 |w::ws,us,hf,hl=>by
  rw[z0]at hl;obtain⟨e,hp⟩:=hf w zN us;rw[lc,e,bnd_ok,zF (λk _=>rfl)];dsimp only;have hcell:(h++[Ob.lst us])[n]?=some (.lst us):=by simp_all
  rw[hcell];dsimp only;rw[zF ⟨hp,by rw[Zj];lia⟩];have hset:(h++[Ob.lst us]).set n (.lst (us++[F w]))=h++[.lst (us++[F w])]:=by simp_all
  rw[hset,oK hn hs ws (us++[F w]) (λw' hw'=>hf w' (zB _ hw')) (by rw[zA,Zm];lia)];simp
theorem gw(hn:h.length=n):jG n (.ok () (h++[.lst us]))=.ok (.lst us) h:=by unfold jG;simp_all
theorem dE:∀ss,cu (ss.map W.str)=some ss
 |[]=>rfl
 |s::ss=>by show(cu (ss.map W.str)).map (s::·)=_;rw[dE ss];rfl
theorem pY{cf:CF}{a:E}{σ:ag}{h:aa}{x:W}{ss:List Str}(ea:evE cf a σ h=.ok x h)(hx:seqA h x=some (ss.map W.str))(hl:ss.length<64):evE cf (.blt .sorted [a]) σ h=.ok (.lst ((nV i6 ss).map W.str)) h:=by rw[evE,aj ea ay];show mF x h=_;unfold mF;rw[hx];show(match cu (ss.map W.str) with|some ss=>if ss.length<64 then Res.ok (W.lst ((nV i6 ss).map W.str)) h else .stuck|none=>.stuck)=_;rw[dE];simp_all
theorem gU{cf:CF}{a:E}{σ:ag}{h:aa}{us:List W}(ea:evE cf a σ h=.ok (.lst us) h):evE cf (.blt .tuple [a]) σ h=.ok (.tup us) h:=by rw[evE,aj ea ay];rfl
theorem qq{cf:CF}{is:List Nat}{n m:Nat}{a elt:E}{σ:ag}{h:aa}{F:Nat->W}(ea:evE cf a σ h=.ok (aq m) h)(hm:m<=1000)
  (hF:∀k,k<m->ak (F k)=true/\∀hh,cA (aV is (aq k) (kA is σ++List.replicate n none)) (evTs cf []) (evE cf elt) hh=.ok (some (F k)) hh):evE cf (.compR is n [a] [] elt) σ h=.ok (.lst ((List.range m).map F)) h:=by
 rw[evE,aj ea ay,bnd_ok]
 have hr:lQ [aq m]=some ((List.range m).map λ(k:Nat)=>W.int (0+(k:Int))):=by have cc:-(2^62)<=((m:Nat):Int)/\((m:Nat):Int)<2^62:=ZzL;rw[cM];unfold jV;dsimp only;rw[zF cc,Zt]
 rw[hr]
 dsimp only
 rw[oK (F:=λw=>match w with|.int i=>F i.toNat|_=>.non) rfl (λk e=>by cases e) _ [] ?_ (by simp;lia),gw rfl]
 ·simp
 simp_all
theorem lj{cf:CF}{bd:Option ag}{σ:ag}{elt:E}{h:aa}{w:W}(e:bd=some σ)(ee:evE cf elt σ h=.ok w h):cA bd (evTs cf []) (evE cf elt) h=.ok (some w) h:=by subst e;unfold cA;dsimp only;rw[evTs,bnd_ok,zF rfl,ee,bnd_ok]
theorem fq:∀ss:List Str,dR (ss.map W.str)=true
 |[]=>rfl
 |s::ss=>by rw[zO,dR,fq ss];rfl
theorem eZ:∀ss:List Str,dS (ss.map W.str)=0
 |[]=>rfl
 |s::ss=>by rw[zO,dS,eZ ss];rfl
theorem oy{is:List Nat}{body:ag->aa->Res Fl}{Iv:Nat->ag->aa->Prop}:∀(ws:List W) (i:Nat) (σ:ag) (h:aa),
  (∀j w σ h,ws[j]?=some w->Iv (i+j) σ h->∃σ1 σ2 h2,aV is w σ=some σ1/\body σ1 h=.ok (.nx σ2) h2/\Iv (i+j+1) σ2 h2)->Iv i σ h->∃σ2 h2,fo is body ws σ h=.ok (.nx σ2) h2/\Iv (i+ws.length) σ2 h2
 |[],i,σ,h,_,q=>⟨σ,h,by rw[fo],q⟩
 |w::ws,i,σ,h,st,q=>by
  obtain⟨σ1,σ2,h2,e1,e2,q2⟩:=st 0 w σ h rfl q;obtain⟨σ3,h3,e3,q3⟩:=oy ws (i+1) σ2 h2 (λj w σ h e q=>by
   have:=st (j+1) w σ h (by simpa using e) (by grind)
   rw[show i+(j+1)+1=i+1+j+1 by lia]at this
   exact this) q2
  exact⟨σ3,h3,(cJ e1 e2).trans e3,by grind⟩
theorem rM{i n:Nat}{body:ag->aa->Res Fl}{Iv:Nat->ag->aa->Prop}{σ:ag}{h:aa}(st:∀k σ h,k<n->Iv k σ h->∃σ2 h2,body (σ.set i (some (aq k))) h=.ok (.nx σ2) h2/\Iv (k+1) σ2 h2)(q:Iv 0 σ h) :
  ∃σ2 h2,fo [i] body ((List.range n).map λ(k:Nat)=>W.int (0+(k:Int))) σ h=.ok (.nx σ2) h2/\Iv n σ2 h2:=by
 have:=oy (is:=[i]) (body:=body) (Iv:=Iv) ((List.range n).map λ(k:Nat)=>W.int (0+(k:Int))) 0 σ h (λj w σ h e q=>by
  have hj:j<n:=by
   have:=(ze.mp e).1
   simpa using this
  have ew:w=aq j:=by simp_all
  subst ew
  rw[ZV]at q ⊢
  obtain⟨σ2,h2,e2,q2⟩:=st j σ h hj q
  exact⟨_,σ2,h2,rfl,e2,q2⟩) q
 simpa using this
theorem pG{i:Nat}{body:ag->aa->Res Fl}{σ:ag}{h:aa}:∀(ws:List W) (r:Option W),(∀w∈ws,body (σ.set i (some w)) h=.ok (.nx (σ.set i (some w))) h)->∃r',fo [i] body ws (σ.set i r) h=.ok (.nx (σ.set i r')) h
 |[],r,_=>⟨r,rfl⟩
 |w::ws,r,st=>by obtain⟨r',e⟩:=pG ws (some w) (λw' h'=>st w' (zB _ h'));refine⟨r',(cJ  ?_ (st w zN)).trans e⟩;show some ((σ.set i r).set i (some w))=_;simp_all
noncomputable def mv:List Str->List Str->Str->Option Str
 |k::ks,v::vs,x=>if k=x then some v else mv ks vs x
 |_,_,_=>none
theorem gM:∀ks vs x,dF ks (vs.map W.str) x=(mv ks vs x).map W.str
 |[],_,_=>rfl
 |_::_,[],_=>rfl
 |k::ks,v::vs,x=>by rw[zO];unfold dF mv;by_cases h:k=x;simp_all;rw[zM h,zM h];exact gM ks vs x
theorem jY:∀{ks vs:List Str}{x y:Str},mv ks vs x=some y->y∈vs
 |[],_,_,_,h=>by cases h
 |_::_,[],_,_,h=>by cases h
 |k::ks,v::vs,x,y,h=>by unfold mv at h;split at h;simp_all;exact zB _ (jY h)
theorem l6:∀{ks:List Str}{ws:List W}{x:Str},ks.length=ws.length->((dF ks ws x).isSome=true↔x∈ks)
 |[],_,_,_=>by unfold dF;simp
 |_::_,[],_,h=>by cases h
 |k::ks,w::ws,x,h=>by
  unfold dF
  by_cases e:k=x
  ·simp_all
  ·rw[zM e,l6 (by simp_all)]
   grind
theorem pV:∀(ks vs:List Str) (x v:Str),∃us:List Str,oV ks (vs.map W.str) x (.str v)=us.map W.str/\us.length=vs.length/\∀u∈us,u=v\/u∈vs
 |[],vs,_,_=>⟨vs,rfl,rfl,λu h=>.inr h⟩
 |_::_,[],_,_=>⟨[],rfl,rfl,λu h=>.inr h⟩
 |k::ks,w::vs,x,v=>by
  obtain⟨us,e1,e2,e3⟩:=pV ks vs x v
  refine⟨(if k=x then v else w)::us,?_,by simp_all,λu hu=>?_⟩
  ·rw[zO]
   unfold oV
   grind
  grind
theorem AJ(ks vs:List Str)(x v)(hl:ks.length=vs.length):∃ks' us:List Str,dO ks (vs.map W.str) x (.str v)=(ks',us.map W.str)/\ks'.length=us.length/\ks'.length<=ks.length+1/\(∀u∈us,u=v\/u∈vs)/\(∀k∈ks',k=x\/k∈ks):=by
 unfold dO
 split
 ·obtain⟨us,e1,e2,e3⟩:=pV ks vs x v
  grind
 ·refine⟨ks++[x],vs++[v],by rw[Zc];rfl,by simp[hl],ZzS,λu hu=>?_,λk hk=>?_⟩
  ·grind
  grind
theorem A1{cf:CF}{a b:E}{σ:ag}{h:aa}{x:Str}{y:W}{ks:List Str}{ws:List W}(ea:evE cf a σ h=.ok (.str x) h)(eb:evE cf b σ h=.ok y h)(ed:aY h y=some (ks,ws)):bw cf (.cmp .In a b) σ h=.ok (dF ks ws x).isSome h:=by refine bD (bU ea eb ?_);show rJ false (.str x) y h=_;unfold rJ;rw[ed];rfl
theorem Ib{cf:CF}{a b:E}{σ:ag}{h:aa}{x:Str}{y:W}{ks:List Str}{ws:List W}(ea:evE cf a σ h=.ok (.str x) h)(eb:evE cf b σ h=.ok y h)(ed:aY h y=some (ks,ws)):bw cf (.cmp .NotIn a b) σ h=.ok (!(dF ks ws x).isSome) h:=by refine bD (bU ea eb ?_);show rJ true (.str x) y h=_;unfold rJ;rw[ed];rfl
noncomputable def a9(x:Str)(ss:List Str):Bool:=IJ (sQ (.str x)) ((ss.map W.str).map sQ)
theorem cH:∀ss:List Str,(ss.map W.str).all dN=true
 |[]=>rfl
 |s::ss=>by rw[zO,ZB,cH ss];rfl
theorem gG{cf:CF}{a b:E}{σ:ag}{h:aa}{x:Str}{y:W}{ss:List Str}(ea:evE cf a σ h=.ok (.str x) h)(eb:evE cf b σ h=.ok y h)(ed:aY h y=none)(el:seqA h y=some (ss.map W.str)):bw cf (.cmp .NotIn a b) σ h=.ok (!a9 x ss) h:=by refine bD (bU ea eb ?_);show rJ true (.str x) y h=_;unfold rJ;rw[ed,el];dsimp only;rw[zF (by rw[cH];rfl)];rfl
theorem Iy{cf:CF}{a b:E}{σ:ag}{h:aa}{x:Str}{y:W}{ss:List Str}(ea:evE cf a σ h=.ok (.str x) h)(eb:evE cf b σ h=.ok y h)(ed:aY h y=none)(el:seqA h y=some (ss.map W.str)):bw cf (.cmp .In a b) σ h=.ok (a9 x ss) h:=by refine bD (bU ea eb ?_);show rJ false (.str x) y h=_;unfold rJ;rw[ed,el];dsimp only;rw[zF (by rw[cH];rfl)];rfl
theorem AY{cf:CF}{a b:E}{σ:ag}{h:aa}{x:Str}{y w:W}{ks:List Str}{ws:List W}(ea:evE cf a σ h=.ok y h)(eb:evE cf b σ h=.ok (.str x) h)(ed:aY h y=some (ks,ws))(eg:dF ks ws x=some w):evE cf (.ix a b) σ h=.ok w h:=by refine bO ea eb ?_;unfold dC;simp_all
theorem Ah{cf:CF}{a b:E}{σ:ag}{h:aa}{x y:Str}(ea:evE cf a σ h=.ok (.str x) h)(eb:evE cf b σ h=.ok (.str y) h):bw cf (.cmp .NotEq a b) σ h=.ok (!decide (x=y)) h:=bD (bU ea eb rfl)
theorem A6{cf:CF}{a b:E}{σ:ag}{h:aa}{x y:Str}(ea:evE cf a σ h=.ok (.str x) h)(eb:evE cf b σ h=.ok (.str y) h):evE cf (.cmp .Eq a b) σ h=.ok (.bl (decide (x=y))) h:=bU ea eb rfl
theorem HE{cf:CF}{a b:E}{m n:Nat}{σ:ag}{h:aa}(ea:evE cf a σ h=.ok (aq m) h)(eb:evE cf b σ h=.ok (aq n) h):bw cf (.cmp .NotEq a b) σ h=.ok (!decide (m=n)) h:=by
 refine bD ((bU ea eb (xX _ _ _)).trans ?_)
 congr 3
 grind
theorem CD{cf:CF}{fw i n:Nat}{k e:E}{σ:ag}{h:aa}{ks:List Str}{ws:List W}{x:Str}{w:W}(hs:σ[i]?=some (some (.ref n)))(hn:h[n]?=some (.dic ks ws))(ek:evE cf k σ h=.ok (.str x) h)(ee:evE cf e σ h=.ok w h)(hp:ak w=true)(hz:ks.length<=1000000) :
  exS cf fw (.setix (.var i) k e) σ h=.ok (.nx σ) (h.set n (.dic (dO ks ws x w).1 (dO ks ws x w).2)):=by
 rw[exS,ee,bnd_ok,ao hs,bnd_ok,ek,bnd_ok]
 dsimp only
 rw[hn]
 dsimp only
 rw[zF ⟨hp,zQ hz ZzD⟩]
theorem aR{h:aa}{o:Ob}:(h++[o])[h.length]?=some o:=ZzS
theorem eQ{h:aa}{o o':Ob}:(h++[o]).set h.length o'=h++[o']:=ZzS
theorem vo:J.fin h.length (.ok (.ret (.ref h.length)) (h++[.lst ws]))=.ok (.lst ws) h:=by unfold J.fin;dsimp only;rw[i5,aR];simp
theorem nY{h:aa}{o:aa}{s:Str}:J.fin h.length (.ok (.ret (.str s)) (h++o))=.ok (.str s) h:=by unfold J.fin;dsimp only;rw[bK (.str s) rfl];simp
noncomputable abbrev dM:Str:="CROWN"
noncomputable def kN(nx:Str->Option Str)(dead:Str->Bool):Nat->List Str->Str->Str
 |0,_,_=>dM
 |n+1,qs,x=>match nx x with
  |none=>dM
  |some y=>if y∈qs then dM else if dead y=false then y else kN nx dead n (qs++[y]) y
noncomputable def da(nx:Str->Option Str)(dead:Str->Bool)(name:Str):Nat->Str->Str
 |0,_=>dM
 |n+1,x=>match nx x with
  |none=>dM
  |some y=>if y≠name/\dead y=false then y else da nx dead name n y
theorem lE{nx:Str->Option Str}{dead:Str->Bool}{name:Str}{qs:List Str}(hn:∀q∈qs,∃y,nx q=some y/\y∈qs)(hd:∀q∈qs,q=name\/dead q=true):∀(n:Nat) (x:Str),x∈qs->da nx dead name n x=dM
 |0,_,_=>rfl
 |n+1,x,hx=>by
  obtain⟨y,e,hy⟩:=hn x hx
  unfold da
  rw[e]
  dsimp only
  rw[zM]
  ·exact lE hn hd n y hy
  grind
theorem dI:∀{qs P:List Str},qs.Nodup->(∀q∈qs,q∈P)->qs.length<=P.length
 |[],_,_,_=>ZQ _
 |q::qs,P,nd,hs=>by
  rw[ZR]at nd
  have h2:=dI (P:=P.erase q) nd.2 (λr hr=>(List.mem_erase_of_ne (by grind)).mpr (hs r (zB _ hr)))
  grind
theorem uS{nx:Str->Option Str}{dead:Str->Bool}{name:Str}{P:List Str}{m:Nat}(hP:P.length<=m)(hv:∀x y,nx x=some y->y∈P):∀(n k:Nat) (qs:List Str) (x:Str),qs.Nodup->(∀q∈qs,q∈P)->x∈qs->name∈qs->(∀q∈qs,q=name\/dead q=true)->(∀q∈qs,q≠x->∃y,nx q=some y/\y∈qs)->m+1<=n+qs.length->m+1<=k+qs.length->kN nx dead n qs x=da nx dead name k x
 |0,k,qs,x,nd,hs,hx,hnm,hd,hc,hn,hk=>by
  have:=dI nd hs
  lia
 |n+1,0,qs,x,nd,hs,hx,hnm,hd,hc,hn,hk=>by
  have:=dI nd hs
  lia
 |n+1,k+1,qs,x,nd,hs,hx,hnm,hd,hc,hn,hk=>by
  unfold kN
  cases e:nx x with
  |none=>unfold da;rw[e]
  |some y =>
   dsimp only
   by_cases hy:y∈qs
   ·rw[zF hy]
    refine(lE (qs:=qs) (λq hq=>?_) hd (k+1) x hx).symm
    by_cases hq2:q=x
    ·subst hq2;exact⟨y,e,hy⟩
    ·exact hc q hq hq2
   ·rw[zM hy]
    unfold da
    rw[e]
    dsimp only
    have yn:y≠name:=by rintro rfl;exact hy hnm
    by_cases dy:dead y=false
    ·rw[zF dy,zF ⟨yn,dy⟩]
    ·rw[zM dy,zM (λz=>dy z.2)]
     have dy':dead y=true:=by cases h:dead y<;>simp_all
     refine uS hP hv n k (qs++[y]) y ?_ ?_ ZzS (by simp[hnm]) ?_ ?_ (by simp;lia) (by simp;lia)
     ·rw[Zw]
      exact⟨nd,ZzS,λa ha b hb=>by rw[zP.mp hb];rintro rfl;exact hy ha⟩
     ·intro q hq
      rcases Za.mp hq with hq|hq
      ·exact hs q hq
      ·rw[zP.mp hq];exact hv x y e
     ·grind
     ·intro q hq hq2
      rcases Za.mp hq with hq|hq
      ·by_cases h3:q=x
       ·subst h3;exact⟨y,e,ZzS⟩
       ·obtain⟨z,z1,z2⟩:=hc q hq h3
        exact⟨z,z1,Ze _ z2⟩
      ·exact absurd (zP.mp hq) hq2
noncomputable abbrev sF : List S := [.asg 4 (.ix V1 V4),
 .if_ (.cmp .In V4 V3) [.ret (.con (.str "CROWN"))] [],
 .if_ (.cmp .NotIn V4 V2) [.ret V4] [],
 .setix V3 V4 (.con (.bl true))]
noncomputable abbrev iy : List S := [.freshD1 3 V0 (.con (.bl true)),
 .asg 4 V0,
 .while_ (.cmp .In V4 V1) sF,
 .ret (.con (.str "CROWN"))]
noncomputable abbrev mq : List S := [.if_ (.cmp .NotIn V3 V1) [.ret (.con (.str "CROWN"))] [],
 .asg 3 (.ix V1 V3),
 .if_ (.and_ (.cmp .NotEq V3 V0) (.cmp .NotIn V3 V2)) [.ret V3] []]
noncomputable abbrev iC : List S := [.asg 3 V0,
 .for_ [4] (.rng [(.con (.int 31))]) mq,
 .ret (.con (.str "CROWN"))]
theorem sD{is:List Nat}{body:ag->aa->Res Fl}{w:W}{ws:List W}{σ σ1:ag}{h h2:aa}{u:W}(hb:aV is w σ=some σ1)(e:body σ1 h=.ok (.ret u) h2):fo is body (w::ws) σ h=.ok (.ret u) h2:=by rw[fo,hb];dsimp only;rw[e];rfl
theorem xB(ht:test σ h=.ok true h1)(hb:body σ h1=.ok (.ret u) h2):wh test body (n+1) σ h=.ok (.ret u) h2:=by rw[wh,ht,bnd_ok,hb];rfl
theorem mI{cf:CF}{fw:Nat}{name:Str}{ks vs dead:List Str}{h:aa}{yd:W}(hY:aY h yd=some (ks,vs.map W.str)):∀(js:List Nat) (x:Str) (r:Option W),∃fl,
  fo [4] (aA cf fw mq) (js.map λ(k:Nat)=>W.int (0+(k:Int))) [some (.str name),some yd,some (.lst (dead.map W.str)),some (.str x),r] h=.ok fl h
   /\ (fl=.ret (.str (da (mv ks vs) (λy=>a9 y dead) name js.length x))\/((∃σ',fl=.nx σ')/\da (mv ks vs) (λy=>a9 y dead) name js.length x=dM))
 |[],x,r=>⟨_,by rw[Zy,fo],.inr ⟨⟨_,rfl⟩,rfl⟩⟩
 |j::js,x,r=>by
  let σ1:ag:=[some (.str name),some yd,some (.lst (dead.map W.str)),some (.str x),some (.int (0+(j:Int)))];have t0:=Ib (cf:=cf) (σ:=σ1) (h:=h) (a:=.var 3) (b:=.var 1) (x:=x) (ks:=ks) (ws:=vs.map W.str) (ao rfl) (ao rfl) hY;rw[gM]at t0;rw[zO,z0];unfold da;cases e:mv ks vs x with
  |none=>rw[e]at t0;refine⟨_,sD (σ1:=σ1) rfl (a7 ((lz t0).trans (a7 (aQ av)))),.inl rfl⟩
  |some y=>
   rw[e]at t0;let σ2:ag:=[some (.str name),some yd,some (.lst (dead.map W.str)),some (.str y),some (.int (0+(j:Int)))];have d1:dF ks (vs.map W.str) x=some (.str y):=by rw[gM,e];rfl
   have s1:∀bd,aA cf fw mq σ1 h=bd↔aA cf fw [.if_ (.and_ (.cmp .NotEq V3 V0) (.cmp .NotIn V3 V2)) [.ret V3] []] σ2 h=bd:=λbd=>by rw[show aA cf fw mq σ1 h=aA cf fw [.if_ (.and_ (.cmp .NotEq V3 V0) (.cmp .NotIn V3 V2)) [.ret V3] []] σ2 h from(ai (fV t0)).trans (ai (bz (AY (U1 rfl) (U3 rfl) hY d1)))]
   have t1:=Ah (cf:=cf) (σ:=σ2) (h:=h) (a:=.var 3) (b:=.var 0) (x:=y) (y:=name) (ao rfl) (ao rfl);have t2:=gG (cf:=cf) (σ:=σ2) (h:=h) (a:=.var 3) (b:=.var 2) (x:=y) (ss:=dead) (ao rfl) (ao rfl) rfl rfl;dsimp only;by_cases hy:y≠name/\a9 y dead=false;rw[zF hy];rw[zV hy.1]at t1;rw[hy.2]at t2;exact⟨_,sD (σ1:=σ1) rfl ((s1 _).mpr (a7 ((lz (nk t1 t2)).trans (a7 (aQ (U3 rfl)))))),.inl rfl⟩;rw[zM hy];obtain⟨fl,e3,q3⟩:=mI (cf:=cf) (fw:=fw) (name:=name) (ks:=ks) (vs:=vs) (dead:=dead) (h:=h) hY js y (some (.int (0+(j:Int))));refine⟨fl,(cJ (σ1:=σ1) rfl ((s1 _).mpr ?_)).trans e3,q3⟩;refine(ai (fV ?_)).trans (by rw[aA]);by_cases hn:y=name;rw[zX hn]at t1;exact vV t1;rw[zV hn]at t1;have:a9 y dead=true:=by simp_all
   rw[this]at t2;exact nk t1 t2
theorem wB{fw:Nat}{tb:List Fn}{f:Nat}(hg:tb[f]?=some ⟨3,5,iC,none⟩)(d:Nat)(name:Str)(ks vs dead:List Str)(h:aa)(yd:W)(hY:aY h yd=some (ks,vs.map W.str)) :
  ae fw tb (d+1) f [.str name,yd,.lst (dead.map W.str)] h=.ok (.str (da (mv ks vs) (λy=>a9 y dead) name 31 name)) h:=by
 rw[af hg rfl]
 obtain⟨fl,e,q⟩:=mI (cf:=ae fw tb d) (fw:=fw) (name:=name) (ks:=ks) (vs:=vs) (dead:=dead) (h:=h) hY (List.range 31) name none
 show J.fin h.length (aA (ae fw tb d) fw iC [some (.str name),some yd,some (.lst (dead.map W.str)),none,none] h)=_
 have s1:aA (ae fw tb d) fw iC [some (.str name),some yd,some (.lst (dead.map W.str)),none,none] h=.ok (.ret (.str (da (mv ks vs) (λy=>a9 y dead) name 31 name))) h:=by refine(ai (bz (U0 rfl))).trans ?_;have lp:=(mf (cf:=ae fw tb d) (fw:=fw) (is:=[4]) (e:=.con (.int 31)) (b:=mq)  (h:=h) (n:=31) av ZzD).trans e;rcases q with rfl|⟨⟨σ',rfl⟩,q⟩;exact a7 lp;refine(ai lp).trans (a7 (aQ ?_));rw[ZX]at q;rw[q];exact av
 rw[s1]
 exact nY (o:=[]) |> λz=>by rw[Zf]at z;exact z
theorem AK{fw:Nat}{tb:List Fn}{f:Nat}(hg:tb[f]?=some ⟨3,5,iC,none⟩)(d:Nat)(name:Str)(ks vs dead:List Str)(h:aa) :
 ae fw tb (d+1) f [.str name,.dic ks (vs.map W.str),.lst (dead.map W.str)] h=.ok (.str (da (mv ks vs) (λy=>a9 y dead) name 31 name)) h:=wB hg d name ks vs dead h _ rfl
theorem Be:∀{qs:List Str}{ws:List W}{x:Str}{w:W},x∉qs->dO qs ws x w=(qs++[x],ws++[w]):=by unfold dO;simp_all
theorem pL{dW:W}{cf:CF}{fw:Nat}{name:Str}{ks vs dead P:List Str}{m:Nat}{h:aa}(II:∀o,aY (h++[o]) dW=none/\seqA (h++[o]) dW=some (dead.map W.str))(hP:P.length<=m)(hv:∀y∈vs,y∈P)(hl:ks.length=vs.length):∀(n:Nat) (qs:List Str) (bs:List W) (x:Str),qs.Nodup->(∀q∈qs,q∈P)->qs.length=bs.length->m+1<=n+qs.length->qs.length<=1000->m<=1000->∃fl c,
  wh (bw cf (.cmp .In V4 V1)) (aA cf fw sF) n [some (.str name),some (.dic ks (vs.map W.str)),some dW,some (.ref h.length),some (.str x)] (h++[.dic qs bs])=.ok fl (h++[c])
   /\ (fl=.ret (.str (kN (mv ks vs) (λy=>a9 y dead) n qs x))\/((∃σ',fl=.nx σ')/\kN (mv ks vs) (λy=>a9 y dead) n qs x=dM))
 |0,qs,bs,x,nd,hs,hb,hn,hz,hm=>by
  have:=dI nd hs
  lia
 |n+1,qs,bs,x,nd,hs,hb,hn,hz,hm=>by
  let σ1:ag:=[some (.str name),some (.dic ks (vs.map W.str)),some dW,some (.ref h.length),some (.str x)];let h1:aa:=h++[.dic qs bs];have t0:=A1 (cf:=cf) (σ:=σ1) (h:=h1) (a:=.var 4) (b:=.var 1) (x:=x) (ks:=ks) (ws:=vs.map W.str) (ao rfl) (ao rfl) rfl;rw[gM]at t0;unfold kN;cases e:mv ks vs x with
  |none=>rw[e]at t0;exact⟨_,_,jb t0,.inr ⟨⟨_,rfl⟩,rfl⟩⟩
  |some y=>
   rw[e]at t0;have yP:y∈P:=hv y (jY e);let σ2:ag:=[some (.str name),some (.dic ks (vs.map W.str)),some dW,some (.ref h.length),some (.str y)];have d1:dF ks (vs.map W.str) x=some (.str y):=by rw[gM,e];rfl
   have dc:aY h1 (.ref h.length)=some (qs,bs):=by show(match h1[h.length]? with|some (.dic ks ws)=>some (ks,ws)|_=>none)=_;rw[show h1[h.length]?=some (.dic qs bs) from aR]
   have a0:exS cf fw (.asg 4 (.ix V1 V4)) σ1 h1=.ok (.nx σ2) h1:=bz (AY (U1 rfl) (U4 rfl) rfl d1);have t1:=A1 (cf:=cf) (σ:=σ2) (h:=h1) (a:=.var 4) (b:=.var 3) (x:=y) (ao rfl) (ao rfl) dc;have t2:=gG (cf:=cf) (σ:=σ2) (h:=h1) (a:=.var 4) (b:=.var 2) (x:=y) (ss:=dead) (ao rfl) (ao rfl) (II _).1 (II _).2;dsimp only;by_cases hy:y∈qs;rw[zF hy];rw[(l6 hb).mpr hy]at t1;exact⟨_,_,xB t0 ((ai a0).trans (a7 ((lz t1).trans (a7 (aQ av))))),.inl rfl⟩;rw[zM hy];have d2:(dF qs bs y).isSome=false:=by cases q:(dF qs bs y).isSome;rfl;exact absurd ((l6 hb).mp q) hy
   rw[d2]at t1;by_cases dy:a9 y dead=false;rw[zF dy];rw[dy]at t2;exact⟨_,_,xB t0 ((ai a0).trans ((ai (fV t1)).trans (a7 ((lz t2).trans (a7 (aQ (U4 rfl))))))),.inl rfl⟩;rw[zM dy];have dy':a9 y dead=true:=by cases q:a9 y dead<;>simp_all
   rw[dy']at t2;have nd':(qs++[y]).Nodup:=by rw[Zw];exact⟨nd,ZzS,λa ha b hb=>by rw[zP.mp hb];rintro rfl;exact hy ha⟩
   have hs':∀q∈qs++[y],q∈P:=λq hq=>by rcases Za.mp hq with hq|hq;exact hs q hq;rw[zP.mp hq];exact yP
   have lq:=dI nd' hs';rw[zA,Zm]at lq;obtain⟨fl,c,e3,q3⟩:=pL (cf:=cf) (fw:=fw) (name:=name) (dead:=dead) (h:=h) II hP hv hl n (qs++[y]) (bs++[.bl true]) y nd' hs' (by simp[hb]) (by simp;lia) (by simp;lia) hm;refine⟨fl,c,(k9 t0 ((ai a0).trans ((ai (fV t1)).trans ((ai (fV t2)).trans ((ai (CD (i:=3) (n:=h.length) rfl aR (U4 rfl) av rfl ZzL)).trans ?_))))).trans e3,q3⟩;rw[aA,Be hy,eQ]
theorem AR{fw:Nat}{tb:List Fn}{f:Nat}(hg:tb[f]?=some ⟨3,5,iy,none⟩)(d:Nat)(name:Str)(ks vs dead P:List Str)(h:aa)(dW:W)(II:∀o,aY (h++[o]) dW=none/\seqA (h++[o]) dW=some (dead.map W.str))(hP:P.length<=30)(hn:name∈P)(hv:∀y∈vs,y∈P)(hl:ks.length=vs.length)(hw:31<=fw) :
  ae fw tb (d+1) f [.str name,.dic ks (vs.map W.str),dW] h=.ok (.str (da (mv ks vs) (λy=>a9 y dead) name 31 name)) h:=by
 rw[af hg rfl]
 have nd:([name]:List Str).Nodup:=ZzS
 obtain⟨fl,c,e,q⟩:=pL  (fw:=fw) (name:=name) (ks:=ks) (vs:=vs) (dead:=dead) (P:=P) (m:=30) (h:=h) II hP hv hl fw [name] [.bl true] name nd (by simp[hn]) rfl (by simp;lia) ZzS (Nat.le_add_left ..)
 have hq:kN (mv ks vs) (λy=>a9 y dead) fw [name] name=da (mv ks vs) (λy=>a9 y dead) name 31 name :=
  uS hP (λx y e=>hv y (jY e)) fw 31 [name] name nd (by simp[hn]) ZzS ZzS ZzS (λq hq hq2=>absurd (zP.mp hq) hq2) (by simp;lia) ZzS
 rw[hq]at q
 show J.fin h.length (aA (ae fw tb d) fw iy [some (.str name),some (.dic ks (vs.map W.str)),some dW,none,none] h)=_
 have s1:aA (ae fw tb d) fw iy [some (.str name),some (.dic ks (vs.map W.str)),some dW,none,none] h=.ok (.ret (.str (da (mv ks vs) (λy=>a9 y dead) name 31 name))) (h++[c]):=by
  refine(ai (σ':=[some (.str name),some (.dic ks (vs.map W.str)),some dW,some (.ref h.length),none]) (h':=h++[.dic [name] [.bl true]]) ?_).trans ?_;rw[exS,ao (i:=0) (w:=.str name) rfl,bnd_ok,av,bnd_ok];rw[aR];dsimp only;rw[eQ];rfl;refine(ai (bz (U0 rfl))).trans ?_;have lp:exS (ae fw tb d) fw (.while_ (.cmp .In V4 V1) sF) [some (.str name),some (.dic ks (vs.map W.str)),some dW,some (.ref h.length),some (.str name)] (h++[.dic [name] [.bl true]])=.ok fl (h++[c]):=by rw[exS];exact e
  rcases q with rfl|⟨⟨σ',rfl⟩,q⟩;exact a7 lp;refine(ai lp).trans (a7 (aQ ?_));rw[q];exact av
 rw[s1]
 exact nY
theorem CB(e:bw cf a σ h=.ok x h)(e2:bw cf b σ h=.ok y h):bw cf (.or_ a b) σ h=.ok (x||y) h:=by
 cases x with
 |true=>exact Bh e
 |false=>exact yT e e2
theorem FG{cf:CF}{a b:E}{m n:Nat}{σ:ag}{h:aa}(ea:evE cf a σ h=.ok (aq m) h)(eb:evE cf b σ h=.ok (aq n) h):bw cf (.cmp .Gt a b) σ h=.ok (decide (n<m)) h:=by refine bD ((bU ea eb (rO _ _ _)).trans ?_);simp_all
theorem o3{cf:CF}{a:E}{σ:ag}{h:aa}{us:List W}(ea:evE cf a σ h=.ok (.lst us) h):evE cf (.blt .list [a]) σ h=.ok (.lst us) h:=by rw[evE,aj ea ay];rfl
theorem Cw{cf:CF}{a b:E}{m n:Nat}{σ:ag}{h:aa}(ea:evE cf a σ h=.ok (aq m) h)(eb:evE cf b σ h=.ok (aq n) h):evE cf (.cmp .Eq a b) σ h=.ok (.bl (decide (m=n))) h:=by refine(bU ea eb (Ag _ _ _)).trans ?_;congr 2;exact decide_eq_decide.mpr ZzL
theorem jq{n:Nat}{src:Option Nat}{f:W->aa->Res (Option W)}{p:Str->Bool}{h:aa}(hn:h.length=n):∀(ss us:List Str),(∀s∈ss,∀us,f (.str s) (h++[.lst us])=.ok (if p s then some (.str s) else none) (h++[.lst us]))->us.length+ss.length<=100000 ->
  lc n src f (ss.map W.str) (h++[.lst (us.map W.str)])=.ok () (h++[.lst ((us++ss.filter p).map W.str)])
 |[],us,_,_=>by rw[Zy,lc];simp
 |s::ss,us,hf,hl=>by
  rw[z0]at hl
  have e:=hf s zN (us.map W.str)
  rw[zO,lc,e,bnd_ok,zF (λk _=>rfl)]
  cases hp:p s with
  |false =>
   rw[zM ZzD]
   dsimp only
   rw[jq hn ss us (λw' hw'=>hf w' (zB _ hw')) ZzL,List.filter_cons_of_neg (by rw[hp];decide)]
  |true =>
   rw[zF rfl]
   dsimp only
   rw[<- hn,aR]
   dsimp only
   rw[zF ⟨rfl,by rw[Zj,zo];lia⟩,eQ]
   have:=jq (src:=src) rfl ss (us++[s]) (λw' hw'=>hf w' (zB _ hw')) (by rw[zA,Zm];lia)
   grind
theorem Cu{fw:Nat}{tb:List Fn}{f:Nat}(hg:tb[f]?=some ⟨3,5,iy,none⟩)(d:Nat)(name:Str)(ks vs dead P:List Str)(h:aa)(hP:P.length<=30)(hn:name∈P)(hv:∀y∈vs,y∈P)(hl:ks.length=vs.length)(hw:31<=fw) :
  ae fw tb (d+1) f [.str name,.dic ks (vs.map W.str),.lst (dead.map W.str)] h=.ok (.str (da (mv ks vs) (λy=>a9 y dead) name 31 name)) h :=
 AR hg d name ks vs dead P h _ (λo=>⟨rfl,rfl⟩) hP hn hv hl hw
def Au(s:Str):Prop:=∀c∈s.cps.toList,c<1000
theorem oH(ha:Au a)(hb:Au b):Au (a++b):=λc hc=>by
 have e:(a++b).cps.toList=a.cps.toList++b.cps.toList:=by show(a.cps++b.cps).toList=_;simp
 rw[e]at hc;exact(Za.mp hc).elim (ha c) (hb c)
theorem nH(ha:Au a):Au (Txt.slice a l u):=λc hc=>by unfold Txt.slice at hc;split at hc;exact ha c hc;obtain⟨i,_,e⟩:=zzv.mp hc;exact ha c (zzL.mpr (Array.mem_of_getElem? e))
theorem ot(ha:Au a):Au (Txt.mul a n):=λc hc=>by
 unfold Txt.mul at hc;split at hc;cases hc;split at hc;exact ha c hc;have:∀(l:List (Array Nat)) (acc:Array Nat),(∀x∈l,x=a.cps)->(∀c∈acc.toList,c<1000)->∀c∈(l.foldl (λx1 x2=>x1++x2) acc).toList,c<1000:=by
  intro l;induction l with
  |nil=>simp
  |cons x l ih=>intro acc hx h;refine ih (acc++x) (λy hy=>hx y (zB _ hy)) λc hc=>?_;rw[Array.toList_append]at hc;rcases Za.mp hc with hc|hc;exact h c hc;rw[hx x zN]at hc;exact ha c hc
 exact this _ #[] (λx hx=>(List.mem_replicate.mp hx).2) ZzS c hc
theorem iQ(n):Au (qj n):=λc hc=>by
 have e:c=abc.cps.toList.getD n 0:=by simpa [qj] using hc
 rw[e,List.getD];cases h:abc.cps.toList[n]? with
 |none=>simp
 |some x=>have:∀y∈abc.cps.toList,y<1000:=ZzD;exact this x (zC h)
theorem B4(how shift k):Au (aH how shift k):=by unfold aH;split;exact oH (oH (oH (nH (ot (iQ _))) (iQ _)) (iQ _)) (nH (ot (iQ _)));exact ot (iQ _)
def aG(s:Str):Prop:=s.length<=100/\Au s
theorem CG(how shift k):aG (aH how shift k):=⟨zf (yN how shift k) ZzS,B4 how shift k⟩
theorem xK:aG dM:=⟨ZzD,by unfold Au;decide⟩
theorem F3{σ:ag}{i:Nat}{s:Str}(e:σ[i]?=some (some (.str s)))(h:aG s):ub σ (.rep i)=true:=by unfold ub;dsimp only;rw[e,zE];exact⟨zX (zf h.1 ZzS),Z5.mpr λc hc=>zX (h.2 c hc)⟩
theorem Gw{σ:ag}{i:Nat}{z:Int}(e:σ[i]?=some (some (.int z)))(h:z.natAbs<10^100):ub σ (.var i)=true:=by unfold ub;simp_all
theorem cy{t:W}{ws:List W}{h:aa}{k:Nat}{w:W}(hs:seqA h t=some ws)(e:ws[k]?=some w):dC t (aq k) h=.ok w h:=by
 have z:∀(t:W),seqA h t=some ws->(match seqA h t with|some ws=>(match L2.atI ws ((k)) with|some w=>Res.ok w h|none=>.stuck)|none=>.stuck)=.ok w h:=λt ht=>by rw[ht];dsimp only;rw[ko,e]
 cases t with
 |str x=>cases hs
 |_=>exact z _ hs
theorem iL(h:k<n):L2.ixN n (k)=some k:=by unfold L2.ixN;simp_all
theorem qW{cf:CF}{a:E}{n:Nat}{σ:ag}{h h1:aa}(ea:evE cf a σ h=.ok (aq n) h1)(hn:1<=n):evE cf (.bin .Sub a (.con (.int 1))) σ h=.ok (aq (n-1)) h1:=by
 refine(cw ea av (Bq _ _ _)).trans ?_
 grind
theorem cx(e:exS cf fw s σ h=.exc c h'):aA cf fw (s::ss) σ h=.exc c h':=by rw[aA,e];rfl
theorem gz(hp:ps.all (ub σ)=true):exS cf fw (.raise c ps) σ h=.exc c h:=by rw[exS,zF hp]
theorem xR(ea:evE cf a σ h=.ok (.int x) h)(eb:evE cf b σ h=.ok (.int y) h):bw cf (.cmp .Gt a b) σ h=.ok (decide (y<x)) h:=bD (bU ea eb (rO _ _ _))
theorem Gi(ea:evE cf a σ h=.ok (.int x) h)(eb:evE cf b σ h=.ok (.int y) h):bw cf (.cmp .Lt a b) σ h=.ok (decide (x<y)) h:=bD (bU ea eb (o8 _ _ _))
theorem fb{cf:CF}{i n:Nat}{a c:E}{σ:ag}{h:aa}{x:W}{ss:List Str}{p:Str->Bool}(ea:evE cf a σ h=.ok x h)(hs:seqA h x=some (ss.map W.str))(hm:ss.length<=1000)
  (hF:∀s∈ss,∀hh,bw cf c ((kA [i] σ++List.replicate n none).set i (some (.str s))) hh=.ok (p s) hh) (hi:i<σ.length+n):evE cf (.compS [i] n a [c] (.var i)) σ h=.ok (.lst ((ss.filter p).map W.str)) h:=by
 rw[evE,ea,bnd_ok,uM hs]
 dsimp only
 have:=jq  (src:=lH x) (f:=λw h=>cA (aV [i] w (kA [i] σ++List.replicate n none)) (evTs cf [c]) (evE cf (.var i)) h) (p:=p) (h:=h) rfl ss [] (λs hs us=>by
  have t:=hF s hs (h++[.lst us])
  show bnd (evTs cf [c] _ _) _=_
  rw[evTs]
  have t':iz (evE cf c ((kA [i] σ++List.replicate n none).set i (some (.str s))) (h++[.lst us]))=.ok (p s) (h++[.lst us]):=t
  rw[t',bnd_ok]
  cases hp:p s with
  |false=>rfl
  |true =>
   rw[zF rfl,evTs,bnd_ok,zF rfl,zF rfl,ao (w:=.str s),bnd_ok]
   rw[zZ]
   simp[kA]
   lia) (by simp;exact zf ‹_› ZzD)
 rw[Zy]at this
 rw[this,gw rfl,zzf]
structure Pt where
 p:Nat
 q:Nat
 hs:List Str
 tr:List W
noncomputable def gf(tr:List W)(dd nn:Nat)(s:Nat×Nat)(hs:List Str):W:=.tup [m6 s,.tup (hs.map W.str),.tup (tr++[.tup [aq dd,aq nn,m6 s,.tup (hs.map W.str)]])]
noncomputable def aI(x:Pt):W:=.tup [sh x.p x.q,.tup (x.hs.map W.str),.tup x.tr]
structure Pt.Ok (x:Pt):Prop where
 q0:0<x.q
 p1:x.p<=1000
 q1:x.q<=1000
 h0:1<=x.hs.length
 h1:x.hs.length<=6
 nm:∀s∈x.hs,aG s
 pu:ah x.tr=true
 oq:dR x.tr=true
 dp:dS x.tr<=4
 tl:x.tr.length<=100
theorem mi:∀{a b:List W},dR a=true->dR b=true->dR (a++b)=true
 |[],_,_,h=>h
 |w::a,b,h1,h2=>by rw[dR,zE]at h1;show dR (w::(a++b))=true;rw[dR,h1.1,mi h1.2 h2];rfl
theorem tN:Nat.max a b<=n↔a<=n/\b<=n:=Nat.max_le
theorem lP:∀{a b:List W}{n:Nat},dS a<=n->dS b<=n->dS (a++b)<=n
 |[],_,_,_,h=>h
 |w::a,b,n,h1,h2=>by rw[dS,tN]at h1;show dS (w::(a++b))<=n;rw[dS,tN];exact⟨h1.1,lP h1.2 h2⟩
theorem aL{tr:List W}{dd nn:Nat}{s:Nat×Nat}{hs:List Str}(h:ah tr=true):ak (gf tr dd nn s hs)=true:=by have:ah (tr++[.tup [aq dd,aq nn,m6 s,.tup (hs.map W.str)]])=true:=jd h (by simp[ak,ah,ax]);simp[gf,ak,ah,ax,this]
theorem bX:∀{ws:List W},(∀w∈ws,ak w=true)->ah ws=true
 |[],_=>rfl
 |w::ws,h=>by rw[ah,h w zN,bX λu hu=>h u (zB _ hu)];rfl
noncomputable abbrev bE:List S:=[.ret (.tup [V3,V4,(.bin .Add V0 (.tup [(.tup [V1,V2,V3,V4])]))])]
theorem aS{fw:Nat}{tb:List Fn}{f:Nat}(hg:tb[f]?=some ⟨5,5,bE,none⟩)(d dd nn:Nat)(s:Nat×Nat)(hs:List Str)(tr:List W)(ht:ah tr=true)(hl:tr.length<=1000)(h:aa) :
  ae fw tb (d+1) f [.tup tr,aq dd,aq nn,m6 s,.tup (hs.map W.str)] h=.ok (gf tr dd nn s hs) h:=by
 rw[af hg rfl]
 let σ:ag:=[some (.tup tr),some (aq dd),some (aq nn),some (m6 s),some (.tup (hs.map W.str))]
 show J.fin h.length (aA (ae fw tb d) fw bE σ h)=_
 have e:aA (ae fw tb d) fw bE σ h=.ok (.ret (gf tr dd nn s hs)) h:=by refine a7 (aQ (i7 (aj (U3 rfl) (aj (U4 rfl) (aj (cw (U0 rfl) (i7 (aj (i7 (aj (U1 rfl) (aj (U2 rfl) (aj (U3 rfl) (aj (U4 rfl) ay)))) (by show 4<=1000;decide)) ay) ZzS) ?_) ay))) ZzS));show Mq (cX (some tr) (some [_]) h)=_;unfold cX;dsimp only;rw[zF (by rw[Zj];show tr.length+1<=_;lia)];rfl
 rw[e]
 have hp:ak (gf tr dd nn s hs)=true:=aL ht
 unfold gf at hp ⊢
 rw[ak]at hp
 exact fP hp
noncomputable abbrev uV:List S:=[.par 2 3 V3 (.bin .Mod V2 V3)]
noncomputable abbrev jN:List S:=[.par 2 3 V0 V1,.while_ (.cmp .NotEq V3 (.con (.int 0))) uV,.ret (.tup [(.bin .FloorDiv V0 V2),(.bin .FloorDiv V1 V2)])]
theorem n9(cf)(fw)(h)(u v):∀n a b,b<n ->
  wh (bw cf (.cmp .NotEq V3 (.con (.int 0)))) (aA cf fw uV) n [u,v,some (aq a),some (aq b)] h=.ok (.nx [u,v,some (aq (Nat.gcd a b)),some (aq 0)]) h
 |0,a,b,hb=>absurd hb (Nat.not_lt_zero b)
 |n+1,a,b,hb=>by
  have t:=HE (cf:=cf) (σ:=[u,v,some (aq a),some (aq b)]) (h:=h) (a:=.var 3) (b:=.con (.int 0)) (m:=b) (n:=0) (ao rfl) aD;by_cases z:b=0;subst z;rw[jb t,Nat.gcd_zero_right];rw[zV z]at t;have e:=n9 cf fw h u v n b (a%b) (zj (ZU a (zzA z)) (Nat.le_of_lt_succ hb));have g:Nat.gcd a b=Nat.gcd b (a%b):=by rw[Nat.gcd_comm a b,Nat.gcd_rec b a,Nat.gcd_comm]
  rw[k9 (h2:=h)  t,e,g];refine(ai   ?_).trans (by rw[aA]);rw[exS,ao (i:=3)  rfl,bnd_ok,cK (m:=a) (n:=b) (U2 rfl) (U3 rfl) (zzA z),bnd_ok];rfl
theorem jz{fw:Nat}{tb:List Fn}{f:Nat}(hg:tb[f]?=some ⟨2,4,jN,none⟩)(d a b:Nat)(h:aa)(hb:b<fw)(h0:0<b)(hz:b<2^9000):ae fw tb (d+1) f [aq a,aq b] h=.ok (m6 (jS a b)) h:=by
 rw[af hg rfl];have gp:0<Nat.gcd a b:=zzX a h0;have gl:Nat.gcd a b<=b:=Nat.gcd_le_right a h0;have g9 :=zQ gl hz;show J.fin h.length (aA (ae fw tb d) fw jN [some (aq a),some (aq b),none,none] h)=_;have e:aA (ae fw tb d) fw jN [some (aq a),some (aq b),none,none] h=.ok (.ret (m6 (jS a b))) h:=by refine(ai (σ':=[some (aq a),some (aq b),some (aq a),some (aq b)]) (h':=h) ?_).trans ?_;rfl;refine(ai (σ':=[some (aq a),some (aq b),some (aq (Nat.gcd a b)),some (aq 0)]) (h':=h) ?_).trans ?_;rw[exS];exact n9 (ae fw tb d) fw h _ _ fw a b hb;exact a7 (aQ (i7 (eU (fF (U0 rfl) (U2 rfl) gp g9) (fF (U1 rfl) (U2 rfl) gp g9)) (by show 2<=1000;decide)))
 rw[e];exact fP (uA _ _)
end J
namespace J
open PySem
noncomputable abbrev OU(_:α->aa->Res β):Type:=Res β
noncomputable abbrev NO(f:α->aa->Res β)(r:Res α):OU f:=bnd r f
theorem KL:bnd r f=NO f r:=rfl
noncomputable def OA(op:Operator)(x y:W)(h:aa):Res W:=rH (ip op x y h)
theorem Et:OA op x y h=ip op x y h:=fA
theorem JZ:evE cf (.bin op a b) σ h=bnd (evE cf a σ h) λx h=>bnd (evE cf b σ h) λy h=>OA op x y h:=by simp only[evE,Et]
noncomputable def Ow(m:Mt)(x:W)(ws:List W)(h:aa):Res W:=rH (dG m x ws h)
theorem E7:Ow m x ws h=dG m x ws h:=fA
theorem K2:evE cf (.meth m a es) σ h=bnd (evE cf a σ h) λx h=>if bR m h x=true then bnd (evA cf es σ h) λws h=>Ow m x ws h else .stuck:=by simp only[evE,E7]
noncomputable def Ov(x y:Option (List W))(h:aa):Res (List W):=rH (cX x y h)
theorem E5:Ov x y h=cX x y h:=fA
theorem K8:evF cf (.bin .Add a b) σ h=bnd (evE cf a σ h) λx h=>bnd (evE cf b σ h) λy h=>Ov (seqM h x) (seqM h y) h:=by simp only[evF,E5]
noncomputable def xk(cf:CF)(fw:Nat)(b:List S)(r:Res Fl):Res Fl:=bnd r λfl h=>match fl with
 |.nx σ=>aA cf fw b σ h
 |fl=>.ok fl h
theorem Cy:aA cf fw [] σ h=.ok (.nx σ) h:=rfl
theorem DB:aA cf fw (s::r) σ h=xk cf fw r (exS cf fw s σ h):=rfl
theorem FC:xk cf fw b (.ok (.nx σ) h)=aA cf fw b σ h:=rfl
theorem Cj:xk cf fw b (.ok (.ret w) h)=.ok (.ret w) h:=rfl
theorem Cr:xk cf fw b (.ok (.brk w) h)=.ok (.brk w) h:=rfl
theorem DZ:xk cf fw b (.ok (.cnt w) h)=.ok (.cnt w) h:=rfl
theorem D1:xk cf fw b (.exc c h)=.exc c h:=rfl
theorem BG:xk cf fw [] r=r:=by rcases r with⟨_|_|_|_,_⟩|_|_<;>rfl
theorem DU{c:Prop} [Decidable c]:xk cf fw r (if c then a else b)=if c then xk cf fw r a else xk cf fw r b:=by split<;>rfl
noncomputable abbrev QU(c:Prop) [Decidable c](_:Nat)(_:aa)(α:Type):Type:=Res α
noncomputable def B7(c:Prop) [Decidable c](e:Nat)(h:aa)(x:Res α):QU c e h α:=if c then .exc e h else x
theorem NQ{c:Prop} [Decidable c]{x:Res α}:(if c then .exc e h else x)=B7 c e h x:=rfl
theorem JX{c:Prop} [Decidable c]:xk cf fw r (B7 c e h b)=B7 c e h (xk cf fw r b):=by unfold B7;split<;>rfl
theorem Lf{c:Prop} [Decidable c]{b:Res α}{f:α->aa->Res β}:bnd (B7 c e h b) f=B7 c e h (bnd b f):=by unfold B7;split<;>rfl
theorem L5{c:Prop} [Decidable c]{b:Res Fl}:J.fin h.length (B7 c e h b)=B7 c e h (J.fin h.length b):=by unfold B7;split<;>simp[J.fin]
theorem ME{f:α->β}:List.map f (a::l)=f a::List.map f l:=rfl
theorem N2{f:α->β}:List.map f []=[]:=rfl
theorem MC{l:List α}:(a::l).length=l.length+1:=rfl
theorem MX:([]:List α).length=0:=rfl
theorem NR{a:α}:[a].length=1:=rfl
theorem Og{a b:α}:[a,b].length=2:=rfl
theorem NI{a b c:α}:[a,b,c].length=3:=rfl
theorem Nf{a:α}:List.replicate (n+1) a=a::List.replicate n a:=rfl
theorem Oe{a:α}:List.replicate 0 a=[]:=rfl
theorem Nj{a:α}:(a::l)++r=a::(l++r):=rfl
theorem MK{r:List α}:[]++r=r:=rfl
theorem Oc{a:α}:(a::l)[0]?=some a:=rfl
theorem NU{a:α}:(a::l)[n+1]?=l[n]?:=rfl
theorem N8{a:α}:(a::l).set (n+1) b=a::l.set n b:=rfl
theorem Nk{a:α}:(a::l).set 0 b=b::l:=rfl
theorem Nb{b:α}:([]:List α).set n b=[]:=rfl
theorem ID{x:α}{a b:β}:(if [x].length<=sizeLine then a else b)=a:=rfl
theorem IA{x y:α}{a b:β}:(if [x,y].length<=sizeLine then a else b)=a:=rfl
theorem HV{x y z:α}{a b:β}:(if [x,y,z].length<=sizeLine then a else b)=a:=rfl
theorem HJ{x y z u:α}{a b:β}:(if [x,y,z,u].length<=sizeLine then a else b)=a:=rfl
theorem HX{x y z u v:α}{a b:β}:(if [x,y,z,u,v].length<=sizeLine then a else b)=a:=rfl
theorem Hc{a b:β}:(if(0:Nat)=0 then a else b)=a:=rfl
theorem FY{a b:β}:(if(1:Nat)=1 then a else b)=a:=rfl
theorem Gq{a b:β}:(if uL (.ins 1 us)=true then a else b)=a:=rfl
theorem Dj{c:Prop} [Decidable c]{a b:Res α}{f:α->aa->Res β}:bnd (if c then a else b) f=if c then bnd a f else bnd b f:=by split<;>rfl
theorem vb{a:Res α}{f:α->aa->Res β}{g:β->aa->Res γ}:bnd (bnd a f) g=bnd a λx h=>bnd (f x h) g:=by cases a<;>rfl
theorem D4{c:Prop} [Decidable c]{a b:Res Fl}:J.fin n (if c then a else b)=if c then J.fin n a else J.fin n b:=by split<;>rfl
theorem IY:J.fin h.length (.exc c h)=.exc c h:=by simp[J.fin]
theorem LP:J.fin h.length (.ok (.nx σ) h)=.ok .non h:=by simp[J.fin]
theorem pX:J.fin h.length (.ok (.ret (.bl b)) h)=.ok (.bl b) h:=aC
theorem jK(hp:ak w=true):J.fin h.length (.ok (.ret w) h)=.ok w h:=dU hp (λn z=>by subst z;cases hp) rfl
theorem Jm:qO h (.bl b)=some b:=rfl
theorem sb1{k:Nat}(h1:1<=k):(k:Int)-1=((k-1:Nat):Int):=ZzO
noncomputable def Ou(x:W)(r:Res W)(h:aa):Res W:=match x with
 |.bl true=>fX true h
 |.bl false=>r
 |_=>.stuck
noncomputable def Ky(x:W)(r:Res W)(h:aa):Res W:=match x with
 |.bl true=>r
 |.bl false=>fX false h
 |_=>.stuck
theorem Ld:evE cf (.or_ a b) σ h=bnd (evE cf a σ h) λx h=>Ou x (evE cf b σ h) h:=by rw[evE];rfl
theorem GN:evE cf (.and_ a b) σ h=bnd (evE cf a σ h) λx h=>Ky x (evE cf b σ h) h:=by rw[evE];rfl
theorem K0:Ou (.bl x) (.ok (.bl y) h) h=.ok (.bl (x||y)) h:=by cases x<;>rfl
theorem GX:Ky (.bl x) (.ok (.bl y) h) h=.ok (.bl (x&&y)) h:=by cases x<;>rfl
theorem Ko:bA .len [.lst us] h=.ok (.int us.length) h:=rfl
theorem JW:bA .len [.tup us] h=.ok (.int us.length) h:=rfl
theorem Bf(e:h[n]?=some (.lst us)):bA .len [.ref n] h=.ok (.int us.length) h:=by show hZ _ _=_;simp[hZ,seqA,eK,seqL,e,je]
theorem KA:dC (.tup (a::r)) (.int 0) h=.ok a h:=by simp[dC,seqA,eK,L2.atI,L2.ixN]
theorem J3:dC (.tup (a::b::r)) (.int 1) h=.ok b h:=cy (k:=1) (ws:=a::b::r) rfl rfl
theorem Kw:dC (.tup (a::b::c::r)) (.int 2) h=.ok c h:=cy (k:=2) (ws:=a::b::c::r) rfl rfl
theorem Ef:dC (.lst (a::r)) (.int 0) h=.ok a h:=cy (k:=0) (ws:=a::r) rfl rfl
theorem Jj:dC (.lst (a::b::r)) (.int 1) h=.ok b h:=cy (k:=1) (ws:=a::b::r) rfl rfl
theorem JM{k n:Nat}:(no_index (@OfNat.ofNat Int k instOfNat)<(n:Int))=(@OfNat.ofNat Nat k (instOfNatNat k)<n):=propext Int.ofNat_lt
theorem LX{k n:Nat}:((n:Int)<no_index (@OfNat.ofNat Int k instOfNat))=(n<@OfNat.ofNat Nat k (instOfNatNat k)):=propext Int.ofNat_lt
theorem JO{k n:Nat}:(no_index (@OfNat.ofNat Int k instOfNat)<=(n:Int))=(@OfNat.ofNat Nat k (instOfNatNat k)<=n):=propext Int.ofNat_le
theorem LU{k n:Nat}:((n:Int)<=no_index (@OfNat.ofNat Int k instOfNat))=(n<=@OfNat.ofNat Nat k (instOfNatNat k)):=propext Int.ofNat_le
theorem Ki{k n:Nat}:((n:Int)=no_index (@OfNat.ofNat Int k instOfNat))=(n=@OfNat.ofNat Nat k (instOfNatNat k)):=propext Int.ofNat_inj
theorem K9{k n:Nat}:(n:Int)+no_index (@OfNat.ofNat Int k instOfNat)=((n+@OfNat.ofNat Nat k (instOfNatNat k):Nat):Int):=rfl
theorem Jd:dC (aI x) (.int 0) h=.ok (sh x.p x.q) h:=KA
theorem Lx:dC (aI x) (.int 1) h=.ok (.tup (x.hs.map W.str)) h:=J3
theorem Kv:dC (aI x) (.int 2) h=.ok (.tup x.tr) h:=Kw
theorem Oj:bI .NotIn (.str x) (.tup (ss.map W.str)) h=.ok (.bl (!a9 x ss)) h:=by simp[bI,rJ,aY,seqA,eK,seqL,dN,cH,a9,fX,dN,sQ]
theorem NV:bI .NotIn (.str x) (.lst (ss.map W.str)) h=.ok (.bl (!a9 x ss)) h:=by simp[bI,rJ,aY,seqA,eK,seqL,dN,cH,a9,fX,dN,sQ]
theorem Nl:bI .In (.str x) (.tup (ss.map W.str)) h=.ok (.bl (a9 x ss)) h:=by simp[bI,rJ,aY,seqA,eK,seqL,dN,cH,a9,fX,dN,sQ]
theorem M6:bI .In (.str x) (.lst (ss.map W.str)) h=.ok (.bl (a9 x ss)) h:=by simp[bI,rJ,aY,seqA,eK,seqL,dN,cH,a9,fX,dN,sQ]
theorem pW(h:aG s):(s.length<=1000/\(s.cps.toList.all λc=>decide (c<1000))=true)=True:=eq_true ⟨zf h.1 ZzD,Z5.mpr λc hc=>zX (h.2 c hc)⟩
theorem fZ(hl:us.length+vs.length<=1000):ip .Add (.lst us) (.lst vs) h=.ok (.lst (us++vs)) h:=by show BJ (cX (some us) (some vs) h)=_;simp only[cX,zF (show us.length+vs.length<=sizeLine by rw[PySem.sizeLine_eq];omega)];rfl
theorem Lc(hl:us.length+vs.length<=1000):ip .Add (.tup us) (.tup vs) h=.ok (.tup (us++vs)) h:=by show Mq (cX (some us) (some vs) h)=_;simp only[cX,zF (show us.length+vs.length<=sizeLine by rw[PySem.sizeLine_eq];omega)];rfl
theorem MB:bA .int [.bl b] h=.ok (.int (if b=true then 1 else 0)) h:=rfl
theorem Jg:bA .list [.tup us] h=.ok (.lst us) h:=rfl
theorem Km:bA .list [.lst us] h=.ok (.lst us) h:=rfl
theorem Kp:bA .tuple [.lst us] h=.ok (.tup us) h:=rfl
theorem JF:bA .tuple [.tup us] h=.ok (.tup us) h:=rfl
theorem A5:dG .append (.ref h.length) [w] (h++[.lst us])=if ak w=true/\us.length<sizeLine then .ok .non (h++[.lst (us++[w])]) else .stuck:=by simp[dG,oR,vY,aR,eQ]
theorem xN:dG .extend (.ref h.length) [.lst vs] (h++[.lst us])=if ah vs=true/\us.length+vs.length<=sizeLine then .ok .non (h++[.lst (us++vs)]) else .stuck:=by simp[dG,oR,CC,seqM,aR,eQ]
theorem DV:bR .append (h++[.lst us]) (.ref h.length)=true:=by simp[bR,seqM,aR]
theorem BU:bR .extend (h++[.lst us]) (.ref h.length)=true:=by simp[bR,seqM,aR]
theorem A4:bA .len [.ref h.length] (h++[.lst us])=.ok (.int us.length) (h++[.lst us]):=Bf aR
theorem AA:seqA (h++[.lst us]) (.ref h.length)=some us:=by simp[seqA,eK,seqL,aR]
theorem FO{h:aa}:J.fin h.length (.exc c (h++o))=.exc c h:=by simp[J.fin]
theorem J9:Dg (.lst (a::r)) (some 1) none h=.ok (.lst r) h:=by show Res.ok (W.lst (jB (a::r) (some ((1:Nat):Int)) none)) h=_;unfold jB;rw[HT.sIx_none,HT.sIx_nat,Nat.min_eq_left ZzS];simp
theorem Du{cf:CF}{a b:E}{σ:ag}{h:aa}{m n:Nat}(ea:evE cf a σ h=.ok (aq m) h)(eb:evE cf b σ h=.ok (aq n) h)(hm:m<=1000000)(hn:n<=1000000)(hl:n-m<=1000):evE cf (.lrng a b) σ h=.ok (.lst ((List.range (n-m)).map λi=>aq (m+i))) h:=by
 rw[evE,ea,bnd_ok,eb,bnd_ok];have hr:lQ [aq m,aq n]=some ((List.range (n-m)).map λi=>aq (m+i)):=by rw[cM];unfold jV;dsimp only;rw[zF ZzO];have e:((n:Int)-(m:Int)).toNat=n-m:=ZzO;rw[e];refine congrArg some (zzs λk _=>?_);show W.int ((m:Int)+(k:Int))=W.int ((m+k:Nat):Int);rw[Int.natCast_add]
 rw[hr];dsimp only;rw[zF (by rw[zo,ZX];exact hl)]
noncomputable def Mf(x y:W)(h:aa):Res W:=rH (evE (λ_ _ _=>.stuck) (.lrng (.con x) (.con y)) [] h)
theorem Kc:evE cf (.lrng a b) σ h=bnd (evE cf a σ h) λx h=>bnd (evE cf b σ h) λy h=>Mf x y h:=by simp only[Mf,fA,evE,bnd_ok]
theorem Jb{m n:Nat}(hm:m<=1000000)(hn:n<=1000000)(hl:n-m<=1000):Mf (.int (m:Int)) (.int (n:Int)) h=.ok (.lst ((List.range (n-m)).map λi=>aq (m+i))) h:=by unfold Mf;rw[fA];exact Du av av hm hn hl
noncomputable def Mh(is:List Nat)(b:List S)(cf:CF)(fw:Nat)(w:W)(σ:ag)(h:aa):Res Fl:=rH (exS cf fw (.for_ is (.rng [.con w]) b) σ h)
theorem Lm:exS cf fw (.for_ is (.rng [e]) b) σ h=bnd (evE cf e σ h) λw h=>Mh is b cf fw w σ h:=by simp only[Mh,fA,exS,evA,evE,bnd_ok,vb]
theorem xf{n:Nat}(hz:n<2^62):Mh is b cf fw (.int (n:Int)) σ h=fo is (aA cf fw b) ((List.range n).map λ(k:Nat)=>W.int (0+(k:Int))) σ h:=by unfold Mh;rw[fA];exact mf av hz
theorem CL:bI .Eq (.str a) (.str b) h=.ok (.bl (decide (a=b))) h:=rfl
theorem jo:¬ ("grant":Str)="sever"/\¬ ("grant":Str)="hand"/\¬ ("grant":Str)="follow"/\¬ ("sever":Str)="grant"/\¬ ("hand":Str)="grant"/\¬ ("hand":Str)="sever"/\¬ ("hand":Str)="follow"/\¬ ("follow":Str)="grant"/\¬ ("follow":Str)="sever"/\¬ ("follow":Str)="hand"/\¬ ("die":Str)="grant"/\¬ ("die":Str)="sever"/\¬ ("die":Str)="hand"/\¬ ("die":Str)="follow"/\¬ ("sever":Str)="follow"/\¬ ("sever":Str)="die"/\¬ ("hand":Str)="die"/\¬ ("sever":Str)="hand"/\¬ ("grant":Str)="die"/\¬ ("follow":Str)="die":=by decide +kernel
theorem M3:dC (.lst (a::b::c::r)) (.int 2) h=.ok c h:=cy (k:=2) (ws:=a::b::c::r) rfl rfl
theorem Ng:dC (.lst (a::b::c::d::r)) (.int 3) h=.ok d h:=cy (k:=3) (ws:=a::b::c::d::r) rfl rfl
theorem MZ:dC (.lst (a::b::c::d::e::r)) (.int 4) h=.ok e h:=cy (k:=4) (ws:=a::b::c::d::e::r) rfl rfl
end J
set_option hygiene false
local macro_rules | `(tactic| simp_arith $c:optConfig [$ls,*])=>do
  let ns <- ("↓J.KL ↓J.ID ↓J.IA ↓J.HV ↓J.HJ ↓J.HX ↓J.Hc ↓J.FY ↓J.Gq ↓J.NR ↓J.Og ↓J.NI J.NQ J.JX J.Lf J.L5 J.ME J.N2 J.MC J.MX J.Nf J.Oe J.Nj J.MK J.Oc J.NU J.N8 J.Nk J.Nb J.Cy J.DB J.FC J.Cj J.Cr J.DZ J.D1 J.BG J.DU J.exS.eq_1 J.exS.eq_2 J.exS.eq_3 J.exS.eq_4 J.exS.eq_5 J.exS.eq_6 J.exS.eq_7 J.exS.eq_8 J.exS.eq_9 J.exS.eq_10 J.exS.eq_11 J.exS.eq_12 J.exS.eq_13 J.exS.eq_14 J.exS.eq_15 J.exS.eq_16 J.exS.eq_17 J.exS.eq_18 J.exS.eq_20 J.exS.eq_22 J.exS.eq_23 J.exS.eq_24 J.exS.eq_25 J.exS.eq_26 J.evE.eq_1 J.evE.eq_2 J.evE.eq_3 J.evE.eq_4 J.JZ J.Et J.evE.eq_6 J.evE.eq_7 J.evE.eq_10 J.evE.eq_11 J.evE.eq_12 J.evE.eq_13 J.evE.eq_14 J.evE.eq_15 J.evE.eq_16 J.evE.eq_17 J.evE.eq_18 J.evE.eq_19 J.evE.eq_20 J.evE.eq_21 J.evE.eq_22 J.evE.eq_24 J.evE.eq_25 J.evE.eq_26 J.evE.eq_27 J.K2 J.E7 J.evA.eq_1 J.evA.eq_2 J.evTs.eq_1 J.evTs.eq_2 J.bnd_ok J.bnd_exc J.Dj J.vb J.D4 J.IY J.LP J.pX J.iz J.Jm J.je J.fX J.kA J.DF List.length_range PySem.sizeLine_eq Nat.reduceLeDiff Nat.zero_le Nat.reduceAdd Bool.false_eq_true ↓reduceIte Nat.zero_add Nat.reduceSub List.length_append List.length_map List.length_set Nat.reduceEqDiff J.tm J.Bq J.sb1 and_self true_or or_true false_or or_false true_and and_true or_self if_true if_false ite_self J.o8 J.Ee J.rO J.Ct J.Ag J.xX J.Kc J.Lm J.Ld J.GN J.Oj J.NV J.Nl J.M6 Int.natAbs_natCast J.K0 J.GX decide_eq_true_eq Bool.or_eq_true Bool.and_eq_true J.Ko J.JW J.A5 J.xN J.DV J.BU J.A4 J.AA J.FO J.aR J.eQ J.J9 J.evO.eq_1 J.evO.eq_2 J.evF.eq_1 J.evF.eq_2 J.K8 J.E5 J.evF.eq_4 J.evF.eq_5 Nat.le_add_left Nat.add_sub_cancel J.Bf J.MB J.Jg J.Km J.Kp J.JF ne_eq not_false_eq_true not_true_eq_false Bool.true_eq_false J.KA J.J3 J.Kw J.Jd J.Lx J.Kv J.Ef J.Jj J.M3 J.Ng J.MZ J.CL J.cY J.JM J.LX J.JO J.LU J.Ki J.K9 Int.ofNat_lt Int.ofNat_le Int.ofNat_inj J.ub List.all_cons List.all_nil Bool.and_true Bool.true_and Bool.not_eq_true' decide_eq_false_iff_not".splitOn " ").toArray.mapM fun s=>do
    if s.startsWith "↓" then `(Lean.Parser.Tactic.simpLemma| ↓$(Lean.mkIdent (s.drop 1).toString.toName):ident) else `(Lean.Parser.Tactic.simpLemma| $(Lean.mkIdent s.toName):ident)
  let a:Lean.Syntax.TSepArray [`Lean.Parser.Tactic.simpStar,`Lean.Parser.Tactic.simpErase,`Lean.Parser.Tactic.simpLemma] ",":=.ofElems (ns.map fun x=>⟨x.raw⟩)
  let b:=Lean.Syntax.TSepArray.ofElems (sep:=",") (a.getElems++ls.getElems)
  `(tactic| set_option backward.defeqAttrib.useBackward true in simp $c:optConfig only [$b,*])
local macro_rules | `(tactic| simp! [$ls,*])=>`(tactic| simp_arith -dsimp [$ls,*])
local macro_rules | `(tactic| dsimp! [$ls,*])=>`(tactic| simp_arith -dsimp -implicitDefEqProofs [$ls,*])
local macro_rules | `(tactic| simp_arith $l:location)=>`(tactic| simp only [J.aq,zO,Zy,Int.natCast_one,Int.cast_ofNat_Int,List.set_cons_zero,List.set_cons_succ,zA,z0,List.length_nil,ZV] $l)
set_option hygiene true
namespace J
open PySem PySem.Spec PyProof.Rows L2
theorem jZ{cf:CF}{a b:E}{x y:Int}{σ:ag}{h:aa}(ea:evE cf a σ h=.ok (.int x) h)(eb:evE cf b σ h=.ok (.int y) h):evE cf (.bin .Add a b) σ h=.ok (.int (x+y)) h:=cw ea eb (tm _ _ _)
theorem tX{cf:CF}{a b:E}{m n:Nat}{σ:ag}{h:aa}(ea:evE cf a σ h=.ok (aq m) h)(eb:evE cf b σ h=.ok (aq n) h):evE cf (.blt .min [a,b]) σ h=.ok (aq (min m n)) h:=by rw[evE,eU ea eb];show je (if(n)<(m:Int) then(n) else(m)) h=_;by_cases hl:n<m;rw[zF ZzL,Nat.min_eq_right ZzL];rfl;rw[zM ZzL,Nat.min_eq_left ZzL];rfl
theorem rQ{P:List Str}(hP:P.Nodup){G:Nat->Nat}(hb:∀j<m,G j<P.length)(hi:∀j<m,∀k<m,G j=G k->j=k):((List.range m).map λj=>P.getD (G j) dM).Nodup:=by refine List.pairwise_map.mpr (List.Pairwise.imp_of_mem  (λ{a b} ha hb' hab e=>?_) List.nodup_range);have h1:=hb a (ZF.mp ha);have h2:=hb b (ZF.mp hb');rw[List.getD,zJ h1,List.getD,zJ h2]at e;exact hab (hi a (ZF.mp ha) b (ZF.mp hb') ((List.getElem_inj hP).mp e))
theorem xu{S:Int}{L j k:Nat}(hL:0<L)(hj:j<L)(hk:k<L)(e:((S+(j:Int)).fmod (L:Int)).toNat=((S+(k:Int)).fmod (L:Int)).toNat):j=k:=by
 rw[Int.fmod_eq_emod_of_nonneg _ ZzL,Int.fmod_eq_emod_of_nonneg _ ZzL]at e
 have h1:=Int.emod_nonneg (S+j) (show(L:Int)≠0 by lia)
 have h2:=Int.emod_nonneg (S+k) (show(L:Int)≠0 by lia)
 have e2:(S+j)%(L:Int)=(S+k)%(L:Int):=ZzL
 have e3:=Int.emod_eq_emod_iff_emod_sub_eq_zero.mp e2
 have e4:(L:Int) ∣ ((j:Int)-k):=by
  have:=Int.dvd_of_emod_eq_zero e3
  grind
 obtain⟨c,hc⟩:=e4
 have:c=0:=by
  rcases Int.lt_trichotomy c 0 with h|h|h
  ·have:(L:Int)*c<=(L:Int)*(-1):=Int.mul_le_mul_of_nonneg_left ZzL ZzL
   lia
  ·exact h
  ·have:(L:Int)*1<=(L:Int)*c:=Int.mul_le_mul_of_nonneg_left ZzL ZzL
   lia
 subst this
 lia
noncomputable abbrev bZ(c:Nat):List S:=[.if_ (.or_ (.cmp .Lt V1 (.con (.int 1))) (.cmp .Gt V1 (.blt .len [V0]))) [.raise c [.lit,.var 1]] [],.ret (.ix V0 (.bin .Sub V1 (.con (.int 1))))]
def Seq(t:W)(ws:List W):Prop:=t=.lst ws\/t=.tup ws
theorem Seq.seqA(h:Seq t ws)(hh:aa):J.seqA hh t=some ws:=by rcases h with rfl|rfl<;>rfl
noncomputable def dJ(z:Int)(n:Nat):Bool:=decide (z<1)||decide ((n:Int)<z)
theorem AU{cf:CF}{t:W}{ws:List W}{z:Int}{σ:ag}{h:aa}{i j:Nat}(ht:Seq t ws)(hi:σ[i]?=some (some (.int z)))(hj:σ[j]?=some (some t)):bw cf (.or_ (.cmp .Lt (.var i) (.con (.int 1))) (.cmp .Gt (.var i) (.blt .len [(.var j)]))) σ h=.ok (dJ z ws.length) h :=
 CB (Gi (ao hi) av) (xR (ao hi) (fR (ao hj) (ht.seqA h)))
theorem sP(h:dJ z n=false):∃k:Nat,z=(k)/\1<=k/\k<=n:=by unfold dJ at h;rw[Bool.or_eq_false_iff]at h;have h1:=zz1 h.1;have h2:=zz1 h.2;exact⟨z.toNat,ZzL,ZzL,ZzL⟩
theorem iR{fw:Nat}{tb:List Fn}{f c:Nat}(hf:tb[f]?=some ⟨2,2,bZ c,none⟩)(d:Nat)(t:W)(ws:List W)(z:Int)(h:aa)(ht:Seq t ws)(hz:z.natAbs<10^100)(ho:dJ z ws.length=true):ae fw tb (d+1) f [t,.int z] h=.exc c h:=by
 rw[af hf rfl];show J.fin h.length (aA (ae fw tb d) fw (bZ c) [some t,some (.int z)] h)=_;have e:aA (ae fw tb d) fw (bZ c) [some t,some (.int z)] h=.exc c h:=by refine cx ((lz ((AU  (j:=0) ht rfl rfl).trans (by rw[ho]))).trans (cx (gz ?_)));show(ub _ .lit&&(ub _ (.var 1)&&true))=true;rw[Gw   rfl hz];rfl
 rw[e];show Res.exc c (h.take h.length)=_;simp_all
theorem jJ{fw:Nat}{tb:List Fn}{f c:Nat}(hf:tb[f]?=some ⟨2,2,bZ c,none⟩)(d:Nat)(t:W)(ws:List W)(n:Nat)(w:W)(h:aa)(ht:Seq t ws)(h1:1<=n)(hw:ws[n-1]?=some w)(hp:ak w=true)(hnr:∀k,w≠.ref k):ae fw tb (d+1) f [t,aq n] h=.ok w h:=by
 rw[af hf rfl]
 have ho:dJ (n:Int) ws.length=false:=by
  unfold dJ
  grind
 show J.fin h.length (aA (ae fw tb d) fw (bZ c) [some t,some (aq n)] h)=_
 have e:aA (ae fw tb d) fw (bZ c) [some t,some (aq n)] h=.ok (.ret w) h :=
  (ai (fV ((AU (i:=1) (j:=0) ht rfl rfl).trans (by rw[ho])))).trans (a7 (aQ (bO (ao  rfl) (qW (ao  rfl) h1) (cy (ht.seqA h) hw))))
 rw[e]
 exact dU hp hnr rfl
noncomputable abbrev pU:List S:=[.fresh 3 (.blt .list [V0]),.setix V3 (.bin .Sub V1 (.con (.int 1))) V2,.ret V3]
theorem xm{cf:CF}{fw i:Nat}{a:E}{σ:ag}{h:aa}{t:W}{ws:List W}(ea:evE cf a σ h=.ok t h)(hs:seqA h t=some ws)(hp:ah ws=true):exS cf fw (.fresh i (.blt .list [a])) σ h=.ok (.nx (σ.set i (some (.ref h.length)))) (h++[.lst ws]):=by rw[exS,evF,ea,bnd_ok];simp_all
theorem BR{cf:CF}{fw i k:Nat}{b e:E}{σ:ag}{h:aa}{ws:List W}{w:W}(hs:σ[i]?=some (some (.ref h.length)))(ee:evE cf e σ (h++[.lst ws])=.ok w (h++[.lst ws]))(eb:evE cf b σ (h++[.lst ws])=.ok (aq k) (h++[.lst ws]))(hk:k<ws.length)(hp:ak w=true) :
  exS cf fw (.setix (.var i) b e) σ (h++[.lst ws])=.ok (.nx σ) (h++[.lst (ws.set k w)]):=by
 rw[exS,ee,bnd_ok,ao hs,bnd_ok,eb,bnd_ok]
 dsimp only
 rw[aR]
 dsimp only
 rw[zF hp,iL hk]
 simp_all
theorem xo(t:W)(ws:List W)(n:Nat)(w:W)(h:aa)(ht:Seq t ws)(h1:1<=n)(hn:n<=ws.length)(hp:ah ws=true)(hw:ak w=true) :
  aA cf fw pU [some t,some (aq n),some w,none] h=.ok (.ret (.ref h.length)) (h++[.lst (ws.set (n-1) w)]):=by
 refine(ai (xm (ao  rfl) (ht.seqA h) hp)).trans ((ai (BR   rfl (ao  rfl) (qW (ao  rfl) h1) ZzL hw)).trans ?_)
 rfl
theorem lr{fw:Nat}{tb:List Fn}{f:Nat}(hf:tb[f]?=some ⟨3,4,pU,none⟩)(d:Nat)(t:W)(ws:List W)(n:Nat)(w:W)(h:aa)(ht:Seq t ws)(h1:1<=n)(hn:n<=ws.length)(hp:ah ws=true)(hw:ak w=true) :
  ae fw tb (d+1) f [t,aq n,w] h=.ok (.lst (ws.set (n-1) w)) h:=by
 rw[af hf rfl]
 show J.fin h.length (aA (ae fw tb d) fw pU [some t,some (aq n),some w,none] h)=_
 rw[xo t ws n w h ht h1 hn hp hw]
 exact vo
noncomputable abbrev pI(c:Nat):List S:=[.if_ (.cmp .Gt (.blt .len [V0]) (.con (.int 60))) [.raise c [.lit,.con,.lit]] [],.ret V0]
theorem qe(e:h[n]?=some (.lst ws)):seqA h (.ref n)=some ws:=by show(match h[n]? with|some (.lst ws)=>some ws|_=>none)=_;rw[e]
theorem yC{xs:List Pt}(hk:k<xs.length):(xs.map aI)[k]?=some (aI xs[k]):=by simp_all
theorem Jf{cf:CF}{a:E}{σ:ag}{h:aa}{x:Pt}(ea:evE cf a σ h=.ok (aI x) h):evE cf (.ix a (.con (.int 1))) σ h=.ok (.tup (x.hs.map W.str)) h:=bO ea av (cy   rfl rfl)
theorem IS{cf:CF}{a:E}{σ:ag}{h:aa}{x:Pt}(ea:evE cf a σ h=.ok (aI x) h):evE cf (.ix a (.con (.int 0))) σ h=.ok (sh x.p x.q) h:=bO ea av (cy   rfl rfl)
theorem LO{cf:CF}{a:E}{σ:ag}{h:aa}{x:Pt}(ea:evE cf a σ h=.ok (aI x) h):evE cf (.ix a (.con (.int 2))) σ h=.ok (.tup x.tr) h:=bO ea av (cy   rfl rfl)
noncomputable def E3(hs us:List Str):Bool:=PyData.eqv (iq (.tup (hs.map W.str))) (iq (.tup (us.map W.str)))
theorem lJ:∀{hs:List Str},(∀s∈hs,aG s)->PyData.canLayAll0 (iu (hs.map W.str))=true
 |[],_=>rfl
 |s::hs,h=>by
  have h1:=(h s zN).2
  have ih:=lJ  λu hu=>h u (zB _ hu)
  have hs':PyData.strOk s=true:=by
   unfold PyData.strOk
   rw[Array.all_eq_true']
   intro c hc
   have:=h1 c (zzL.mpr hc)
   grind
  simp[iu,iq,PyData.canLayAll0,PyData.canLay0,ih,hs']
theorem jD:∀(hs:List Str),PyData.depthAll (iu (hs.map W.str))=0
 |[]=>rfl
 |s::hs=>by simp[iu,iq,PyData.depthAll,PyData.depth,jD hs]
theorem lO:∀(hs:List Str),m3 (hs.map W.str)=true
 |[]=>rfl
 |s::hs=>by rw[zO,m3,lO hs];rfl
theorem jT{hs:List Str}(h:∀s∈hs,aG s):SeqAt.shaped (iq (.tup (hs.map W.str)))=true:=by rw[iq];unfold SeqAt.shaped;rw[PyData.canLay0,lJ h,PyData.depth,jD];rfl
theorem J1(h1:∀s∈hs,aG s)(h2:∀s∈us,aG s):bI .NotEq (.tup (hs.map W.str)) (.tup (us.map W.str)) h=.ok (.bl (!E3 hs us)) h:=by
 have d1:∀zs:List Str,dP h (.tup (zs.map W.str))=some (.tup (zs.map W.str)):=λzs=>by simp[dP,wd,lO]
 have e:B8 h (.tup (hs.map W.str)) (.tup (us.map W.str))=some (E3 hs us):=by simp only[B8,d1,jT h1,jT h2];rfl
 simp only[bI,e];rfl
theorem IE(ee:evE cf e σ h=.ok w h1):exS cf fw (.tryR e hs) σ h=.ok (.ret w) h1:=by rw[exS,ee]
theorem yk:finO h.length (.ok (.ret (.str s)) h)=.ok (.str s) h:=by have:=nY (h:=h) (o:=[]) (s:=s);rw[Zf]at this;exact this
theorem cQ:J.fin h.length (.ok (.ret (.str s)) h)=.ok (.str s) h:=yk
theorem xZ{hs:List Str}(hk:k<hs.length)(h):dC (.tup (hs.map W.str)) (aq k) h=.ok (.str hs[k]) h:=cy  rfl ZzS
theorem fG(a b:Str):(a++b).cps.toList=a.cps.toList++b.cps.toList:=by show(a.cps++b.cps).toList=_;simp
theorem dv(n:Nat):(qj n).cps.toList=[abc.cps.toList.getD n 0]:=rfl
theorem qD(c:Nat)(x:Array Nat)(hx:x.toList=[c]):∀(n:Nat) (acc:Array Nat),((List.replicate n x).foldl (λx1 x2=>x1++x2) acc).toList=acc.toList++List.replicate n c
 |0,acc=>by simp
 |n+1,acc=>by rw[List.replicate_succ,List.foldl_cons,qD c x hx n,Array.toList_append,hx,ZP];rfl
theorem kj{c n:Nat}{x:Str}(hx:x.cps.toList=[c])(hn:1<=n):(Txt.mul x (n)).cps.toList=List.replicate n c:=by
 unfold Txt.mul;rw[zM ZzL];split;rename_i h;have hl:x.length=1:=by show x.cps.size=1;rw[<- Array.length_toList,hx];rfl
 simp only[zzh,beq_iff_eq,hl]at h;have:n=1:=ZzL;simp_all;rw[qD c x.cps hx];rfl
theorem gI:∀n,n<26->abc.cps.toList.getD n 0=97+n:=ZzD
theorem tU(x:Str):x.length=x.cps.toList.length:=rfl
theorem A0(how shift:Nat){j k:Nat}(hj:j<60)(hk:k<60)(e:aH how shift j=aH how shift k):j=k:=by
 have e1:=congrArg (λs:Str=>s.cps.toList) e
 unfold aH at e1
 have c1:=gI _ (ZU (5*j+shift) (show 26>0 by decide))
 have c2:=gI _ (ZU (5*k+shift) (show 26>0 by decide))
 have c3:=gI _ (ZU (j/26+shift) (show 26>0 by simp))
 have c4:=gI _ (ZU (k/26+shift) (show 26>0 by decide))
 have c5:=gI _ (ZU (j/12+shift) (show 26>0 by decide))
 have c6:=gI _ (ZU (k/12+shift) (show 26>0 by decide))
 split at e1
 ·rw[fG,fG,fG,fG,fG,fG,dv,dv,dv,dv,c1,c2,c3,c4]at e1
  have e2:=List.append_cancel_right e1
  rw[ZP,ZP]at e2
  have e3:=List.append_cancel_left e2
  grind
 ·rw[kj (dv _) (Nat.le_add_right ..),kj (dv _) (Nat.le_add_right ..),c5,c6]at e1
  have e2:=congrArg List.length e1
  grind
def pB(s:Str):Prop:=∀c∈s.cps.toList,97<=c/\c<=122
theorem qU{n:Nat}(h:n<26):pB (qj n):=λc hc=>by
 rw[dv,gI n h,zP]at hc
 lia
theorem kQ{a b:Str}(ha:pB a)(hb:pB b):pB (a++b):=λc hc=>by rw[fG]at hc;exact(Za.mp hc).elim (ha c) (hb c)
theorem mr{a:Str}{l u:Option Int}(ha:pB a):pB (Txt.slice a l u):=λc hc=>by unfold Txt.slice at hc;split at hc;exact ha c hc;obtain⟨i,_,e⟩:=zzv.mp hc;exact ha c (zzL.mpr (Array.mem_of_getElem? e))
theorem lI{m n:Nat}(h:n<26):pB (Txt.mul (qj n) (m)):=λc hc=>by
 by_cases hm:1<=m
 ·rw[kj (dv n) hm,gI n h]at hc
  grind
 ·unfold Txt.mul at hc
  rw[zF (by simp_all)]at hc
  cases hc
theorem xi(how shift k:Nat):pB (aH how shift k):=by have m:∀n,n%26<26:=λn=>ZU _ ZzS;unfold aH;split;exact kQ (kQ (kQ (mr (lI (m _))) (qU (m _))) (qU (m _))) (mr (lI (m _)));exact lI (m _)
theorem mT(x:Str)(l u:Option Int):(Txt.slice x l u).length<=(Builtin.Str.strSliceIndices l u 1 x.length).length:=by
 unfold Txt.slice
 split
 ·simp_all
 ·show(List.filterMap _ (Builtin.Str.strSliceIndices l u 1 x.length)).toArray.size<=_
  grind
theorem CW(a n:Nat):(Builtin.Str.strSliceIndices none (some (a)) 1 n).length+(Builtin.Str.strSliceIndices (some (a)) none 1 n).length<=n:=by
 unfold Builtin.Str.strSliceIndices sliceRange
 grind
theorem xj(how shift k:Nat):1<=(aH how shift k).length/\(aH how shift k).length<=12:=by
 unfold aH
 split
 ·rw[bf,bf,bf,bF,bF]
  have h1:=mT (dh how shift) none (some ((how/33%11:Nat)))
  have h2:=mT (dh how shift) (some ((how/33%11:Nat))) none
  have h3:=CW (how/33%11) (dh how shift).length
  have h4:(dh how shift).length<=10:=oG (bF _) ZzL
  lia
 ·rw[tU,kj (dv _) (Nat.le_add_right ..),List.length_replicate]
  lia
theorem jA:∀ss:List Str,ss.Nodup->(jm ss).length=ss.length
 |[],_=>rfl
 |s::ss,h=>by rw[ZR]at h;rw[jm,zM h.1,z0,jA ss h.2,z0]
theorem t6:∀ss:List Str,¬ ss.Nodup->(jm ss).length<ss.length
 |[],h=>absurd List.nodup_nil h
 |s::ss,h=>by
  rw[jm]
  split
  ·have:=o7 ss
   grind
  ·rename_i hs
   have:=t6 ss (λz=>h (ZR.mpr ⟨hs,z⟩))
   simp_all
theorem bJ(s:Str)(ss:List Str):a9 s ss=decide (s∈ss):=by
 unfold a9 IJ;rw[zzY];simp only[List.any_eq_true,Zx,sQ,Zl];constructor;rintro ⟨v,⟨w,⟨x,hx,rfl⟩,rfl⟩,e⟩;have :=by simpa [B5] using e
 simp_all;intro h;exact⟨.str s,⟨.str s,⟨s,h,rfl⟩,rfl⟩,by simp[B5]⟩
theorem DT{cf:CF}{a:E}{σ:ag}{h:aa}{x:W}{ss:List Str}(ea:evE cf a σ h=.ok x h)(hx:seqA h x=some (ss.map W.str))(hl:ss.length<64):evE cf (.slen a) σ h=.ok (aq (jm ss).length) h:=by rw[evE,ea,bnd_ok,hx];show(match cu (ss.map W.str) with|some ss=>if ss.length<64 then je (jm ss).length h else .stuck|none=>.stuck)=_;rw[dE];dsimp only;rw[zF hl];rfl
theorem xy{cf:CF}{o1 o2:CmpOp}{a b c:E}{σ:ag}{h:aa}{x y z:W}{r:Res W}(ea:evE cf a σ h=.ok x h)(eb:evE cf b σ h=.ok y h)(e1:bI o1 x y h=.ok (.bl true) h)(ec:evE cf c σ h=.ok z h)(e2:bI o2 y z h=r):evE cf (.chn o1 o2 a b c) σ h=r:=by rw[evE,ea,bnd_ok,eb,bnd_ok,e1,bnd_ok];simp_all
noncomputable abbrev fD:List S:=[.ret (.cmp .Lt (.slen V0) (.blt .len [V0]))]
theorem nG{fw:Nat}{tb:List Fn}{f:Nat}(hf:tb[f]?=some ⟨1,1,fD,none⟩)(d:Nat)(x:W)(ss:List Str)(h:aa)(hx:seqA h x=some (ss.map W.str))(hl:ss.length<64):ae fw tb (d+1) f [x] h=.ok (.bl (!decide ss.Nodup)) h:=by
 rw[af hf rfl]
 generalize ae fw tb d=cf
 show J.fin h.length (aA cf fw fD [some x] h)=_
 have e:aA cf fw fD [some x] h=.ok (.ret (.bl (!decide ss.Nodup))) h:=by
  refine a7 (aQ ((bU (DT (ao  rfl) hx hl) (fR (ao  rfl) hx) (o8 _ _ _)).trans ?_))
  rw[zo]
  by_cases hn:ss.Nodup
  ·rw[jA ss hn,zX hn,zV (Int.lt_irrefl _)];rfl
  ·have:=t6 ss hn
   grind
 rw[e]
 exact aC
noncomputable abbrev fN:List S:=[.ret (.and_ (.chn .LtE .LtE (.con (.int 1)) (.blt .len [V0]) Md) (.blt .all [(.compS [1] 1 V0 [] (.chn .LtE .LtE (.con (.str "a")) V1 (.con (.str "z"))))]))]
def nC(s:Str):Prop:=pB s/\1<=s.length/\s.length<=12
theorem wF(how shift k):nC (aH how shift k):=⟨xi how shift k,xj how shift k⟩
theorem x9:i6 ⟨#[c]⟩ ⟨#[d]⟩=decide (c<d):=by unfold i6;rw[decide_eq_decide,List.cons_lt_cons_iff];simp
theorem sy{fw:Nat}{tb:List Fn}{f:Nat}(hf:tb[f]?=some ⟨1,1,fN,none⟩)(d:Nat)(s:Str)(h:aa)(hs:nC s):ae fw tb (d+1) f [.str s] h=.ok (.bl true) h:=by
 rw[af hf rfl]
 generalize ae fw tb d=cf
 show J.fin h.length (aA cf fw fN [some (.str s)] h)=_
 have hl:s.length<=1000:=zf hs.2.2 ZzD
 have ln:evE cf (.blt .len [V0]) [some (.str s)] h=.ok (aq s.length) h:=by
  rw[evE,aj (ao (i:=0) (w:=.str s) rfl) ay,bnd_ok]
  show(if s.length<=1000 then je s.length h else .stuck)=_
  rw[zF hl];rfl
 have le:∀(a b:Nat) (h:aa),a<=b->bI .LtE (aq a) (aq b) h=.ok (.bl true) h:=λa b h hab=>by
  show fX (decide (((a:Nat):Int)<=((b:Nat):Int))) h=_
  rw[zX ZzL];rfl
 have c1:evE cf (.chn .LtE .LtE (.con (.int 1)) (.blt .len [V0]) Md) [some (.str s)] h=.ok (.bl true) h :=
  xy (x:=aq 1) (z:=aq 12) av ln (le 1 _ h hs.2.1) av (le _ 12 h hs.2.2)
 have c2:evE cf (.compS [1] 1 V0 [] (.chn .LtE .LtE (.con (.str "a")) V1 (.con (.str "z")))) [some (.str s)] h=.ok (.lst ((iT s).map λ_=>W.bl true)) h:=by
  rw[evE,ao (i:=0) (w:=.str s) rfl,bnd_ok]
  have hi:Dp h (.str s)=some (iT s):=by
   show(if s.length<=1000 then some (iT s) else none)=_
   rw[zF hl]
  rw[hi]
  dsimp only
  have ls:(iT s).length<=100:=by
   have:(iT s).length=s.length:=by rw[tU];simp[iT]
   have:=hs.2.2
   lia
  rw[oK (F:=λ_=>W.bl true) rfl (λk e=>by cases e) (iT s) [] (λw hw us=>⟨by
   obtain⟨c,hc,rfl⟩:=Zx.mp hw
   have hc2:=hs.1 c hc
   have hb:aV [1] (.str ⟨#[c]⟩) (kA [1] [some (.str s)]++List.replicate 1 none)=some [some (.str s),some (.str ⟨#[c]⟩)]:=rfl
   unfold cA
   rw[hb]
   dsimp only
   rw[evTs,bnd_ok,zF rfl,xy (x:=.str "a") (y:=.str ⟨#[c]⟩) (z:=.str "z") (r:=.ok (.bl true) (h++[.lst us])) av (U1 rfl) (by
    show fX (!i6 ⟨#[c]⟩ ⟨#[97]⟩) _=_
    rw[x9,zV ZzL];rfl) av (by
    show fX (!i6 ⟨#[122]⟩ ⟨#[c]⟩) _=_
    rw[x9,zV ZzL];rfl),bnd_ok],rfl⟩) (by rw[List.length_nil];lia),gw rfl]
  rfl
 have e:aA cf fw fN [some (.str s)] h=.ok (.ret (.bl true)) h:=by
  refine a7 (aQ ?_)
  rw[evE,c1,bnd_ok]
  dsimp only
  rw[evE,aj c2 ay,bnd_ok]
  show(match fK ((iT s).map λ_=>W.bl true) with|some bs=>fX (bs.all id) h|none=>.stuck)=_
  have:∀l:List W,∃bs,fK (l.map λ_=>W.bl true)=some bs/\bs.all id=true:=λl=>by
   induction l with
   |nil=>exact⟨[],rfl,rfl⟩
   |cons w l ih =>
    obtain⟨bs,e,q⟩:=ih
    refine⟨true::bs,?_,by simp[q]⟩
    rw[zO,fK,e]
    rfl
  obtain⟨bs,e,q⟩:=this (iT s)
  rw[e]
  dsimp only
  rw[q]
  rfl
 rw[e]
 exact aC
noncomputable abbrev bp(ss:List Str):List Str:=nV i6 ss
theorem srt_mem:s∈bp ss↔s∈ss:=(cC ss).mem_iff
theorem eF(ss):(bp ss).length=ss.length:=(cC ss).length_eq
theorem nR{cf:CF}{fw:Nat}{is:List Nat}{a:E}{b:List S}{σ:ag}{h:aa}{t:W}{ws:List W}(ea:evE cf a σ h=.ok t h)(ht:Seq t ws):exS cf fw (.for_ is (.seq a) b) σ h=fo is (aA cf fw b) ws σ h:=by rw[exS,ea];rcases ht with rfl|rfl<;>rfl
theorem GO:J.fin h.length (.ok (.nx σ) h)=.ok .non h:=by
 show Res.ok W.non (h.take h.length)=_
 grind
theorem CZ{cf:CF}{a:E}{σ:ag}{h:aa}{x:W}{ss:List Str}(ea:evE cf a σ h=.ok x h)(hx:seqA h x=some (ss.map W.str))(hl:ss.length<64):evE cf (.blt .tuple [(.blt .sorted [a])]) σ h=.ok (.tup ((bp ss).map W.str)) h:=gU (pY ea hx hl)
noncomputable abbrev kd(c isn tw : Nat) : List S := [.if_ (.or_ (.cmp .Lt (.blt .len [V0]) (.con (.int 1))) (.cmp .Gt (.blt .len [V0]) (.con (.int 30)))) [.raise c [.lit, .con, .lit]] [],
 .for_ [1] (.seq V0) [.if_ (.not_ (.call isn [V1])) [.raise c [.lit,.rep 1]] []],
 .if_ (.call tw [V0]) [.raise c []] [],
 .ret (.blt .tuple [(.blt .sorted [V0])])]
theorem pC:J.fin h.length (.exc c h)=.exc c h:=by
 show Res.exc c (h.take h.length)=_
 grind
theorem eO{n:Nat}{x r:Res Fl}{y:Res W}(e:x=r)(h:J.fin n r=y):J.fin n x=y:=by grind
theorem Ey{ss:List Str}(hx:seqA h x=some (ss.map W.str))(hl:ss.length<64):bA .sorted [x] h=.ok (.lst ((bp ss).map W.str)) h:=pY (cf:=λ_ _ _=>.stuck) (a:=.con x) (σ:=[]) av hx hl
theorem LA{ss:List Str}(hx:Seq x (ss.map W.str)):bA .len [x] h=.ok (.int ss.length) h:=by rcases hx with rfl|rfl<;>exact congrArg (λn=>Res.ok (aq n) h) (zo ..)
theorem Bn{ss:List Str}:J.fin h.length (.ok (.ret (.tup (ss.map W.str))) h)=.ok (.tup (ss.map W.str)) h:=fP (ax _)
theorem sR{fw:Nat}{tb:List Fn}{f c isn tw:Nat}(hf:tb[f]?=some ⟨1,2,kd c isn tw,none⟩)(hi:tb[isn]?=some ⟨1,1,fN,none⟩)(ht:tb[tw]?=some ⟨1,1,fD,none⟩)(d:Nat)(t:W)(ss:List Str)(h:aa)(hs:Seq t (ss.map W.str))(h1:1<=ss.length)(h2:ss.length<=30)(hg:∀s∈ss,nC s) :
  ae fw tb (d+2) f [t] h=if ss.Nodup then .ok (.tup ((bp ss).map W.str)) h else .exc c h:=by
 rw[af hf rfl]
 obtain⟨r,e⟩:=pG (i:=1) (body:=aA (ae fw tb (d+1)) fw [.if_ (.not_ (.call isn [V1])) [.raise c [.lit,.rep 1]] []]) (σ:=[some t,none]) (h:=h) (ss.map W.str) none λw hw=>by obtain⟨s,hs',rfl⟩:=Zx.mp hw;simp! [sy (fw:=fw) hi d s h (hg s hs')]
 simp_arith at e
 by_cases hn:ss.Nodup<;>simp! [LA hs,show ¬ ss.length<1 by lia,show ¬ 30<ss.length by lia,nR (cf:=ae fw tb (d+1)) (fw:=fw) (is:=[1]) (b:=[.if_ (.not_ (.call isn [V1])) [.raise c [.lit,.rep 1]] []]) (ao (i:=0) (σ:=[some t,none]) rfl) hs,e,nG (fw:=fw) ht d t ss h (hs.seqA h) ZzL,hn,Ey (hs.seqA h) (show ss.length<64 by lia),Bn]
theorem tH{fw:Nat}{tb:List Fn}{f c isn tw:Nat}(hf:tb[f]?=some ⟨1,2,kd c isn tw,none⟩)(hi:tb[isn]?=some ⟨1,1,fN,none⟩)(ht:tb[tw]?=some ⟨1,1,fD,none⟩)(d:Nat)(t:W)(ss:List Str)(h:aa)(hs:Seq t (ss.map W.str))(h1:1<=ss.length)(h2:ss.length<=30)(hg:∀s∈ss,nC s)(hn:ss.Nodup) :
  ae fw tb (d+2) f [t] h=.ok (.tup ((bp ss).map W.str)) h:=by
 rw[sR hf hi ht d t ss h hs h1 h2 hg,zF hn]
noncomputable abbrev sk(c tw : Nat) : List S := [.if_ (.or_ (.cmp .Lt (.blt .len [V0]) V1) (.cmp .Gt (.blt .len [V0]) V2)) [.raise c [.lit, .var 1, .lit, .var 2, .lit]] [],
 .if_ (.call tw [V0]) [.raise c []] [],
 .ret (.blt .tuple [(.blt .sorted [V0])])]
theorem j2{fw:Nat}{tb:List Fn}{f c tw:Nat}(hf:tb[f]?=some ⟨3,3,sk c tw,none⟩)(ht:tb[tw]?=some ⟨1,1,fD,none⟩)(d:Nat)(t:W)(ss:List Str)(lo hi:Nat)(h:aa)(hs:Seq t (ss.map W.str))(hl:ss.length<64)(hlo:lo<=1000)(hhi:hi<=1000) :
  ae fw tb (d+2) f [t,aq lo,aq hi] h=if lo<=ss.length/\ss.length<=hi/\ss.Nodup then .ok (.tup ((bp ss).map W.str)) h else .exc c h:=by
 rw[af hf rfl]
 have L:=λn (l:n<=1000)=>zQ l (show 1000<10^100 by decide)
 by_cases l1:ss.length<lo<;>by_cases l2:hi<ss.length<;>by_cases hn:ss.Nodup<;>simp! [LA hs,aq,l1,l2,L _ hlo,L _ hhi,nG (fw:=fw) ht d t ss h (hs.seqA h) hl,hn,show lo<=ss.length↔¬ ss.length<lo from Nat.not_lt.symm,show ss.length<=hi↔¬ hi<ss.length from Nat.not_lt.symm,Ey (hs.seqA h) hl,Bn,false_and,and_false]
noncomputable abbrev tD(c:Nat):List S:=[.for_ [2] (.seq V0) [.if_ (.cmp .NotIn V2 V1) [.raise c [.lit,.rep 2]] []]]
noncomputable abbrev ur(c kn : Nat) : List S := [.exp (.call kn [V0, V1]),
 .for_ [3] (.seq V0) [.if_ (.cmp .In V3 V2) [.raise c [.rep 3, .lit]] []]]
theorem ql{fw:Nat}{tb:List Fn}{f:Nat}(hg:tb[f]?=some ⟨2,4,xF f,none⟩):∀(d:Nat) (w:W) (h:aa),oZ w<d->pA w=true->ae fw tb d f [w,w] h=.ok (.bl true) h
 |0,w,h,hd,_=>absurd hd (Nat.not_lt_zero _)
 |d+1,w,h,hd,ho=>by
  rw[af hg rfl];have seqs (ws:List W) (b1:Bool) (es:seqA h w=some ws) (k1:bq h w .list=some b1) (k2:bq h w .tuple=some (!b1)) (oq:dR ws=true) (hl:ws.length<=100000) (hdp:dS ws<d) (hix:∀(k:Nat) (u:W),ws[k]?=some u->dC w (aq k) h=.ok u h):J.fin h.length (aA (ae fw tb d) fw (xF f) ([w,w].map some++List.replicate (4-2) none) h)=.ok (.bl true) h:=by
   obtain⟨r',lp⟩:=mQ (cf:=ae fw tb d) (fw:=fw) (f:=f) (x:=w) (ws:=ws) (h:=h) (λk hk=>by
    have hm:ws[k]∈ws:=ZM hk
    exact⟨ws[k],hix k _ (zJ hk),ql hg d ws[k] h (zQ (pM hm) hdp) (rE oq hm)⟩) (List.range ws.length) none (λk hk=>ZF.mp hk)
   cases b1<;>simp! [List.mapM_cons,List.mapM_nil,k1,k2,Option.pure_def,Option.bind_eq_bind,Option.bind_some,Bool.not_true,Bool.not_false,zzp,List.any_nil,id,Bool.or_true,Bool.true_or,show bA .len [w] h=.ok (.int ws.length) h by (show hZ _ _=_;unfold hZ;rw[es];rfl),xf (show ws.length<2^62 by lia),lp]
  cases w with
  |int i=>simp[aA,exS,evE,evA,iz,qO,bnd,bq,fX,bI,B8,J.fin,i5,gj,ak]
  |str i=>simp[aA,exS,evE,evA,iz,qO,bnd,bq,fX,bI,B8,J.fin,i5,gj,ak]
  |tup ws=>rw[pA,zE]at ho;rw[oZ]at hd;exact seqs ws false rfl rfl rfl ho.1 (Zd ho.2) ZzL λk u e=>cy rfl e
  |lst ws=>rw[pA,zE]at ho;rw[oZ]at hd;exact seqs ws true rfl rfl rfl ho.1 (Zd ho.2) ZzL λk u e=>cy rfl e
  |_=>cases ho
theorem qw{fw:Nat}{tb:List Fn}{d f np ns c:Nat}{fl:List (Bool×E)}{ws:List W}{h:aa}(hg:tb[f]?=some ⟨np,ns,[],some (c,fl)⟩)(ht:tb.length<=1000)(hl:ws.length+1=np) :
  ae fw tb (d+1) (f+2000) ws h=bnd (ef (ae fw tb d) (none::ws.map some) fl h) λus h=>.ok (.ins c us) h:=by
 have no1:tb[f+2000]?=none:=ZD.mpr ZzL
 have no2:tb[f+2000-1000]?=none:=ZD.mpr ZzL
 show(match tb[f+2000]? with|some g=>_|none=>match tb[f+2000-1000]? with|some g=>_|none=>match tb[f+2000-2000]? with|some g=>_|none=>_)=_
 simp_all
theorem iD{cf:CF}{c k:Nat}{a:E}{σ:ag}{h h1:aa}{ws:List W}{w:W}(ea:evE cf a σ h=.ok (.ins c ws) h1)(e:ws[k]?=some w):evE cf (.fld c k a) σ h=.ok w h1:=by rw[evE,ea,bnd_ok];simp_all
theorem ow(ea:evE cf a σ h=.ok (.ins 1 us) h1)(es':evA cf es σ h1=.ok ws h2)(o:cf f (.ins 1 us::ws) h2=r):evE cf (.mth f a es) σ h=r:=by rw[evE,ea,bnd_ok,zF (show uL (.ins 1 us)=true from rfl),es',bnd_ok,o]
noncomputable abbrev gn(ks:List Str)(n:Nat):W:=.ins 1 [.tup (ks.map W.str),.ref n]
noncomputable abbrev IT:W:=.ins 0 [.non,.lst [],.dic [] [],.lst []]
theorem gS(e:h[n]?=some (.lst ws)):seqA h (.ref n)=some ws:=qe e
theorem iV{h:aa}:(h.set n o).take h.length=h.set n o:=by rw[Z3 ZzS]
theorem fj{ws:List W}{w:W}:atI (ws++[w]) (-1)=some w:=by unfold atI ixN;simp only[zA,Zm];rw[zM ZzS,zF ZzL,Option.bind_some,show(-1+((ws.length+1:Nat):Int)).toNat=ws.length by lia,zK (zD _),zzP];rfl
theorem mH{fw:Nat}{tb:List Fn}{f:Nat}(hf:tb[f]?=some ⟨5,5,[],some (0,[(false,V1),(false,V2),(false,V3),(false,V4)])⟩)(ht:tb.length<=1000)(d:Nat)(a b c e:W)(h:aa):ae fw tb (d+1) (f+2000) [a,b,c,e] h=.ok (.ins 0 [a,b,c,e]) h:=by rw[qw hf ht rfl];rfl
theorem CA{fw:Nat}{tb:List Fn}{f sf cn c isn tw:Nat}(hf:tb[f]?=some ⟨2,2,[],some (1,[(false,(.call cn [V1])),(true,(.lst [(.call (sf+2000) [(.con .non),(.lst []),.dic0,(.lst [])])]))])⟩)
  (hsf:tb[sf]?=some ⟨5,5,[],some (0,[(false,V1),(false,V2),(false,V3),(false,V4)])⟩) (hc:tb[cn]?=some ⟨1,2,kd c isn tw,none⟩) (hi:tb[isn]?=some ⟨1,1,fN,none⟩) (htw:tb[tw]?=some ⟨1,1,fD,none⟩) (ht:tb.length<=1000)
  (d:Nat) (t:W) (ss:List Str) (h:aa) (hs:Seq t (ss.map W.str)) (h1:1<=ss.length) (h2:ss.length<=30) (hg:∀s∈ss,nC s) (hn:ss.Nodup):ae fw tb (d+3) (f+2000) [t] h=.ok (gn (bp ss) h.length) (h++[.lst [IT]]):=by
 rw[qw hf ht rfl]
 have c1:=tH (fw:=fw) hc hi htw d t ss h hs h1 h2 hg hn
 have c2:=mH (fw:=fw) hsf ht (d+1) .non (.lst []) (.dic [] []) (.lst []) h
 generalize ae fw tb (d+2)=cf at *
 show bnd (ef cf [none,some t] _ h) _=_
 rw[ef,lW (ao  rfl) c1,bnd_ok,ef]
 have e:evF cf (.lst [(.call (sf+2000) [(.con .non),(.lst []),.dic0,(.lst [])])]) [none,some t] h=.ok [IT] h:=by rw[evF,aj (hW (aj av (aj (cj ay ZzD) (aj (by rw[evE]) (aj (cj ay ZzD) ay)))) c2) ay,bnd_ok];rfl
 rw[e,bnd_ok,ef]
 rfl
noncomputable abbrev me:List S:=[.ret (.ix (.fld 1 1 V0) (.neg (.con (.int 1))))]
theorem lL{fw:Nat}{tb:List Fn}{f:Nat}(hf:tb[f]?=some ⟨1,1,me,none⟩)(d:Nat)(ks:List Str)(n:Nat)(ws:List W)(w:W)(h:aa)(hn:h[n]?=some (.lst (ws++[w])))(hp:ak w=true):ae fw tb (d+1) f [gn ks n] h=.ok w h:=by
 rw[af hf rfl];generalize ae fw tb d=cf;show J.fin h.length (aA cf fw me [some (gn ks n)] h)=_;have e:aA cf fw me [some (gn ks n)] h=.ok (.ret w) h:=by refine a7 (aQ (bO (iD (U0 rfl) rfl) (rfl) ?_));show(match seqA h (.ref n) with|some ws=>(match atI ws (-1) with|some w=>Res.ok w h|none=>.stuck)|none=>.stuck)=_;rw[gS hn];dsimp only;rw[fj]
 rw[e];unfold J.fin;dsimp only;rw[bK w hp];simp_all
noncomputable abbrev vj:List S:=[.ret (.blt .len [(.fld 1 1 V0)])]
theorem iK{fw:Nat}{tb:List Fn}{f:Nat}(hf:tb[f]?=some ⟨1,1,vj,none⟩)(d:Nat)(ks:List Str)(n:Nat)(ws:List W)(h:aa)(hn:h[n]?=some (.lst ws)):ae fw tb (d+1) f [gn ks n] h=.ok (aq ws.length) h:=by rw[af hf rfl,a7 (aQ (fR (iD (ao  rfl) rfl) (gS hn)))];exact gY
noncomputable abbrev qS(lv la:Nat):List S:=[.exp (.call lv [V1,(.fld 1 0 V0),(.fld 0 3 (.mth la V0 []))])]
theorem GC{cf:CF}{a e:E}{σ:ag}{h:aa}{n:Nat}{us:List W}{w:W}(ea:evE cf a σ h=.ok (.ref n) h)(hn:h[n]?=some (.lst us))(ee:evE cf e σ h=.ok w h)(hp:ak w=true)(hz:us.length<=1000000) :
  evE cf (.meth .append a [e]) σ h=.ok .non (h.set n (.lst (us++[w]))):=by
 have z:seqM h (.ref n)=some us:=by show(match h[n]? with|some (.lst ws)=>some ws|_=>none)=some us;rw[hn]
 rw[evE,ea,bnd_ok,zF (show bR .append h (.ref n)=true by show(seqM h (.ref n)).isSome=true;rw[z];rfl),dj,ee]
 show(match h[n]? with|some (.lst us)=>if ak w=true/\us.length<sizeLine then Res.ok W.non (h.set n (.lst (us++[w]))) else .stuck|_=>.stuck)=_
 rw[hn]
 dsimp only
 rw[zF ⟨hp,zQ hz ZzD⟩]
theorem Gf{cf:CF}{a:E}{σ:ag}{h:aa}{n:Nat}{us:List W}{w:W}(ea:evE cf a σ h=.ok (.ref n) h)(hn:h[n]?=some (.lst (us++[w]))):evE cf (.meth .pop a []) σ h=.ok w (h.set n (.lst us)):=by
 have z:seqM h (.ref n)=some (us++[w]):=by show(match h[n]? with|some (.lst ws)=>some ws|_=>none)=some (us++[w]);rw[hn]
 rw[evE,ea,bnd_ok,zF (show bR .pop h (.ref n)=true by show(seqM h (.ref n)).isSome=true;simp_all)];show(match h[n]? with|some (.lst us)=>(match us[us.length-1]? with|some w=>Res.ok w (h.set n (.lst us.dropLast))|none=>.stuck)|_=>.stuck)=_;simp_all
noncomputable abbrev qE(c nx sf : Nat) : List S := [.asg 5 (.mth nx V0 []),
 .if_ (.cmp .Gt V5 (.con (.int 200))) [.raise c [.lit,.con,.lit]] [],
 .exp (.meth .append (.fld 1 1 V0) [(.call (sf+2000) [V1,V2,V3,V4])]),
 .ret V5]
theorem AV{fw:Nat}{tb:List Fn}{f c nx sf:Nat}(hf:tb[f]?=some ⟨5,6,qE c nx sf,none⟩)(hnx:tb[nx]?=some ⟨1,1,vj,none⟩)(hsf:tb[sf]?=some ⟨5,5,[],some (0,[(false,V1),(false,V2),(false,V3),(false,V4)])⟩)(ht:tb.length<=1000)
  (d:Nat) (ks:List Str) (n:Nat) (ws:List W) (x1 x2 x3 x4:W) (h:aa) (hn:h[n]?=some (.lst ws)) (hp:ah [x1,x2,x3,x4]=true) (hl:ws.length<=1000) :
  ae fw tb (d+2) f [gn ks n,x1,x2,x3,x4] h=if 200<ws.length then .exc c h else .ok (aq ws.length) (h.set n (.lst (ws++[.ins 0 [x1,x2,x3,x4]]))):=by
 rw[af hf rfl]
 have c1:=iK (fw:=fw) hnx d ks n ws h hn
 have c2:=mH (fw:=fw) hsf ht d x1 x2 x3 x4 h
 generalize ae fw tb (d+1)=cf at *
 show J.fin h.length (aA cf fw (qE c nx sf) [some (gn ks n),some x1,some x2,some x3,some x4,none] h)=_
 let σ1:ag:=[some (gn ks n),some x1,some x2,some x3,some x4,some (aq ws.length)]
 have s1:exS cf fw (.asg 5 (.mth nx V0 [])) [some (gn ks n),some x1,some x2,some x3,some x4,none] h=.ok (.nx σ1) h:=bz (ow (U0 rfl) ay c1)
 have t1:bw cf (.cmp .Gt V5 (.con (.int 200))) σ1 h=.ok (decide (((200:Nat):Int)<((ws.length:Nat):Int))) h:=xR (U5 rfl) av
 by_cases hb:200<ws.length
 ·rw[zF hb]
  rw[zX ZzL]at t1
  rw[(ai s1).trans (cx ((lz t1).trans (cx (gz rfl))))]
  show Res.exc c (h.take h.length)=_
  rw[ZC]
 ·rw[zM hb]
  rw[zV ZzL]at t1
  have e:aA cf fw (qE c nx sf) [some (gn ks n),some x1,some x2,some x3,some x4,none] h=.ok (.ret (aq ws.length)) (h.set n (.lst (ws++[.ins 0 [x1,x2,x3,x4]]))):=by refine(ai s1).trans ((ai (fV t1)).trans ?_);refine(ai (oU (GC (iD (U0 rfl) rfl) hn (hW (aj (U1 rfl) (aj (U2 rfl) (aj (U3 rfl) (aj (U4 rfl) ay)))) c2) (by rw[ak];exact hp) ZzL))).trans ?_;exact a7 (aQ (U5 rfl))
  rw[e]
  show Res.ok _ ((h.set n _).take h.length)=_
  rw[iV]
noncomputable abbrev Jv(hs:List Str):W:=gf [] 1 1 (1,1) hs
noncomputable abbrev j7(pb:Nat):List S:=[.ret (.call pb [(.tup []),(.con (.int 1)),(.con (.int 1)),(.con (.tup [(.int 1),(.int 1)])),V0])]
theorem vT{fw:Nat}{tb:List Fn}{f pb:Nat}(hf:tb[f]?=some ⟨1,1,j7 pb,none⟩)(hpb:tb[pb]?=some ⟨5,5,bE,none⟩)(d:Nat)(hs:List Str)(h:aa):ae fw tb (d+2) f [.tup (hs.map W.str)] h=.ok (Jv hs) h:=by
 rw[af hf rfl];have c1:=aS (fw:=fw) hpb d 1 1 (1,1) hs [] rfl ZzS h;generalize ae fw tb (d+1)=cf at *;show J.fin h.length (aA cf fw (j7 pb) [some (.tup (hs.map W.str))] h)=_
 have e:aA cf fw (j7 pb) [some (.tup (hs.map W.str))] h=.ok (.ret (Jv hs)) h :=
  a7 (aQ (hW (aj (i7 ay ZzS) (aj av (aj av (aj av (aj (ao  rfl) ay))))) c1))
 rw[e];exact dU (aL  rfl) (λn z=>by cases (z)) rfl
noncomputable abbrev rZ(c gp cp la kp fp : Nat) : List S := [.asg 2 (.call gp [V1, (.con (.int 1)), (.con (.int 6))]),
 .exp (.mth cp V0 [V2]),
 .asg 3 (.mth la V0 []),
 .if_ (.cmp .IsNot (.fld 0 0 V3) (.con .non)) [.raise c []] [],
 .ret (.mth kp V0 [(.tup [(.con (.str "grant")), V2]), (.lst [(.call fp [V2])]), (.fld 0 2 V3), (.fld 0 3 V3)])]
noncomputable abbrev tQ(c la : Nat) : List S := [.if_ (.cmp .Is (.fld 0 0 (.mth la V0 [])) (.con .non)) [.raise c []] [],
 .ret (.fld 0 0 (.meth .pop (.fld 1 1 V0) []))]
theorem As{fw:Nat}{tb:List Fn}{f c la:Nat}(hf:tb[f]?=some ⟨1,1,tQ c la,none⟩)(hla:tb[la]?=some ⟨1,1,me,none⟩)(d:Nat)(ks:List Str)(n:Nat)(ws:List W)(a:W)(r:List W)(h:aa)(hn:h[n]?=some (.lst (ws++[.ins 0 (a::r)])))(hp:ah (a::r)=true) :
  ae fw tb (d+2) f [gn ks n] h=if bo a=true then .exc c h else .ok a (h.set n (.lst ws)):=by
 rw[af hf rfl]
 have c3:=lL (fw:=fw) hla d ks n ws (.ins 0 (a::r)) h hn (by rw[ak];exact hp)
 generalize ae fw tb (d+1)=cf at *
 show J.fin h.length (aA cf fw (tQ c la) [some (gn ks n)] h)=_
 have t1:bw cf (.cmp .Is (.fld 0 0 (.mth la V0 [])) (.con .non)) [some (gn ks n)] h=.ok (bo a) h:=bD (bU (iD (w:=a) (ow (U0 rfl) ay c3) rfl) av rfl)
 cases hq:bo a with
 |true =>
  rw[hq]at t1
  rw[cx ((lz t1).trans (cx (gz rfl))),zF rfl]
  show Res.exc c (h.take h.length)=_
  rw[ZC]
 |false =>
  rw[hq]at t1
  have e:aA cf fw (tQ c la) [some (gn ks n)] h=.ok (.ret a) (h.set n (.lst ws)) :=
   (ai (fV t1)).trans (a7 (aQ (iD (Gf (iD (U0 rfl) rfl) hn) rfl)))
  rw[e,zM ZzD]
  unfold J.fin
  dsimp only
  rw[ah,zE]at hp
  rw[bK a hp.1]
  rw[iV]
noncomputable abbrev Bx(la:Nat):List S:=[.ret (.blt .list [(.fld 0 1 (.mth la V0 []))])]
theorem vL{fw:Nat}{tb:List Fn}{f la:Nat}(hf:tb[f]?=some ⟨1,1,Bx la,none⟩)(hla:tb[la]?=some ⟨1,1,me,none⟩)(d:Nat)(ks:List Str)(n:Nat)(ws:List W)(a:W)(ps r:List W)(h:aa)(hn:h[n]?=some (.lst (ws++[.ins 0 (a::.lst ps::r)])))(hp:ah (a::.lst ps::r)=true) :
  ae fw tb (d+2) f [gn ks n] h=.ok (.lst ps) h:=by
 rw[af hf rfl]
 have c3:=lL (fw:=fw) hla d ks n ws (.ins 0 (a::.lst ps::r)) h hn (by rw[ak];exact hp)
 rw[a7 (aQ (o3 (iD (ow (U0 rfl) ay c3) rfl)))]
 rw[ah,ah,zE,zE]at hp
 exact dU hp.2.1 (λn z=>by cases z) rfl
noncomputable abbrev Ik:List S:=[.ret (.compS [1] 1 (.sl (.fld 1 1 V0) (some (.con (.int 1))) none) [] (.fld 0 0 V1))]
noncomputable def M5(nx:Str->Option Str)(gone:List Str)(n:Str)(cur:List Str):List Str:=if a9 n cur=true then(if cur.length=1 then [da nx (λy=>a9 y gone) n 31 n] else cur.filter λs=>!decide (s=n)) else cur
noncomputable def NX(nx:Str->Option Str):List Str->List Str->List Str->List Str
 |[],_,cur=>cur
 |n::o,gone,cur=>NX nx o (gone++[n]) (M5 nx gone n cur)
noncomputable def GS(hs:List Str):List Str->Str->Str
 |[],l=>l
 |n::o,l=>GS hs o (if a9 n hs=true then n else l)
noncomputable def aP(hs done:List Str):List Str:=hs.filter λs=>!a9 s done
theorem lV{cf:CF}{is:List Nat}{n:Nat}{a elt:E}{σ:ag}{h:aa}{x:W}{ws:List W}{F:W->W}(ea:evE cf a σ h=.ok x h)(hs:seqA h x=some ws)(hr:∀k,lH x=some k->k<h.length)(hm:ws.length<=1000)
  (hF:∀w∈ws,ak (F w)=true/\∃σ',aV is w (kA is σ++List.replicate n none)=some σ'/\∀hh,evE cf elt σ' hh=.ok (F w) hh):evE cf (.compS is n a [] elt) σ h=.ok (.lst (ws.map F)) h:=by
 rw[evE,ea,bnd_ok,uM hs]
 dsimp only
 rw[oK  rfl hr ws [] (λw hw us=>?_) (by grind),gw rfl,zzf]
 obtain⟨p,σ',eb,ee⟩:=hF w hw
 exact⟨lj eb (ee _),p⟩
theorem Seq.noref(h:Seq t ws):∀{m:Nat} (k:Nat),lH t=some k->k<m:=λk e=>by rcases h with rfl|rfl<;>cases e
theorem Seq.dic(h:Seq t ws)(hh:aa):aY hh t=none:=by rcases h with rfl|rfl<;>rfl
theorem GZ{cf:CF}{a b:E}{σ:ag}{h:aa}{x y:W}{us vs:List W}(ea:evE cf a σ h=.ok x h)(eb:evE cf b σ h=.ok y h)(hx:Seq x us)(hy:Seq y vs):evE cf (.zipE a b) σ h=.ok (.lst (List.zipWith (λu v=>W.tup [u,v]) us vs)) h:=by rw[evE,ea,bnd_ok,eb,bnd_ok,hx.seqA [],hy.seqA []]
noncomputable abbrev fk:List S:=[.ret (.blt .tuple [(.compS [2] 1 V0 [(.cmp .NotIn V2 V1)] V2)])]
theorem jM{fw:Nat}{tb:List Fn}{f:Nat}(hf:tb[f]?=some ⟨2,2,fk,none⟩)(d:Nat)(x y:W)(hs gs:List Str)(h:aa)(hx:Seq x (hs.map W.str))(hy:Seq y (gs.map W.str))(hl:hs.length<=1000):ae fw tb (d+1) f [x,y] h=.ok (.tup ((aP hs gs).map W.str)) h:=by
 rw[af hf rfl];generalize ae fw tb d=cf;show J.fin h.length (aA cf fw fk [some x,some y] h)=_
 have e:aA cf fw fk [some x,some y] h=.ok (.ret (.tup ((aP hs gs).map W.str))) h :=
  a7 (aQ (gU (fb     (ao  rfl) (hx.seqA h) hl (λs _ hh=>gG   (U2 rfl) (U1 rfl) (hy.dic hh) (hy.seqA hh)) ZzS)))
 rw[e];exact fP (ax _)
theorem yb(s name):a9 s [name]=decide (s=name):=by rw[bJ];simp
theorem wH(hs)(n):aP hs [n]=hs.filter λs=>!decide (s=n):=by unfold aP;congr 1;funext s;rw[yb]
noncomputable abbrev II(hs:List Str):W:=.tup (hs.map W.str)
theorem G5:∀hs us:List Str,PyData.eqvAll (iu (hs.map W.str)) (iu (us.map W.str))=decide (hs=us)
 |[],[]=>rfl
 |[],_::_=>rfl
 |_::_,[]=>rfl
 |h::hs,u::us=>by rw[zO,zO,iu,iu,iq,iq,PyData.eqvAll,PyData.eqv,G5 hs us,zzY];simp
theorem jk{hs:List Str}(h:∀s∈hs,aG s):SeqAt.shaped (iq (.lst (hs.map W.str)))=true:=by rw[iq];unfold SeqAt.shaped;rw[PyData.canLay0,lJ h,PyData.depth,jD];rfl
theorem Ls{h:aa}{hs us:List Str}(h1:∀s∈hs,aG s)(h2:∀s∈us,aG s):B8 h (.lst (hs.map W.str)) (.lst (us.map W.str))=some (decide (hs=us)):=by
 have d1:∀zs:List Str,dP h (.lst (zs.map W.str))=some (.lst (zs.map W.str)):=λzs=>by show(if wd (.lst (zs.map W.str))=true then some _ else none)=_;rw[wd,zF (lO zs)]
 show(match dP h (.lst (hs.map W.str)),dP h (.lst (us.map W.str)) with|some a,some b=>(if(SeqAt.shaped (iq a)&&SeqAt.shaped (iq b))=true then some (PyData.eqv (iq a) (iq b)) else none)|_,_=>none)=_;rw[d1,d1];dsimp only;rw[jk h1,jk h2,zF (show(true&&true)=true from rfl),iq,iq,PyData.eqv,G5]
theorem Ih{cf:CF}{a b:E}{σ:ag}{h:aa}{hs us:List Str}(ea:evE cf a σ h=.ok (.lst (hs.map W.str)) h)(eb:evE cf b σ h=.ok (.lst (us.map W.str)) h)(h1:∀s∈hs,aG s)(h2:∀s∈us,aG s):bw cf (.cmp .Eq a b) σ h=.ok (decide (hs=us)) h:=by refine bD (bU ea eb ?_);show(match B8 h (.lst (hs.map W.str)) (.lst (us.map W.str)) with|some b=>fX b h|none=>.stuck)=_;rw[Ls h1 h2];rfl
theorem Ba{cf:CF}{a b:E}{σ:ag}{h:aa}{us vs:List W}(ea:evE cf a σ h=.ok (.lst us) h)(eb:evE cf b σ h=.ok (.lst vs) h)(hl:us.length+vs.length<=1000):evE cf (.bin .Add a b) σ h=.ok (.lst (us++vs)) h:=by rw[evE,ea,bnd_ok,eb];show BJ (cX (some us) (some vs) h)=_;unfold cX BJ;dsimp only;rw[zF (by rw[Zj];lia),bnd_ok]
noncomputable def B9(m how shift:Nat):List Str:=(List.range m).map (aH how shift)
theorem Az(hm:m<=60):(B9 m how shift).Nodup:=by unfold B9;rw[List.nodup_iff_pairwise_ne,List.pairwise_map];exact List.Pairwise.imp_of_mem (λ{a b} ha hb hne e=>hne (A0 how shift (by have:=ZF.mp ha;lia) (by have:=ZF.mp hb;lia) e)) (List.nodup_iff_pairwise_ne.mp List.nodup_range)
theorem By:∀s∈B9 m how shift,nC s:=λs hs=>by obtain⟨k,_,rfl⟩:=Zx.mp hs;exact wF how shift k
theorem GP:∀s∈B9 m how shift,aG s:=λs hs=>by obtain⟨k,_,rfl⟩:=Zx.mp hs;exact CG how shift k
theorem dm:(B9 m how shift).length=m:=by simp[B9]
theorem yB{is:List Nat}{body:ag->aa->Res Fl}{w:W}{ws:List W}{σ σ1 σ':ag}{h h2:aa}(hb:aV is w σ=some σ1)(e:body σ1 h=.ok (.cnt σ') h2):fo is body (w::ws) σ h=fo is body ws σ' h2:=by rw[fo];simp_all
theorem uk{is:List Nat}{body:ag->aa->Res Fl}{Iv:Nat->ag->aa->Prop}:∀(ws:List W) (i:Nat) (σ:ag) (h:aa),
  (∀j w σ h,ws[j]?=some w->Iv (i+j) σ h->∃σ1 σ2 h2,aV is w σ=some σ1/\(body σ1 h=.ok (.nx σ2) h2\/body σ1 h=.ok (.cnt σ2) h2)/\Iv (i+j+1) σ2 h2)->Iv i σ h->∃σ2 h2,fo is body ws σ h=.ok (.nx σ2) h2/\Iv (i+ws.length) σ2 h2
 |[],i,σ,h,_,q=>⟨σ,h,by rw[fo],q⟩
 |w::ws,i,σ,h,st,q=>by
  obtain⟨σ1,σ2,h2,e1,e2,q2⟩:=st 0 w σ h rfl q;obtain⟨σ3,h3,e3,q3⟩:=uk ws (i+1) σ2 h2 (λj w σ h e q=>by
   have:=st (j+1) w σ h (by simpa using e) (by grind)
   rw[show i+(j+1)+1=i+1+j+1 by lia]at this
   exact this) q2
  refine⟨σ3,h3,?_,by grind⟩;rcases e2 with e2|e2;exact(cJ e1 e2).trans e3;exact(yB e1 e2).trans e3
theorem vZ{α:Type}(f:Nat->α->W):∀(r:List α) (g:Nat->Nat),List.zipWith (λn s=>f n s) ((List.range r.length).map g) r=r.mapIdx λi s=>f (g i) s:=λr g=>by
 refine List.ext_getElem? λi=>?_;rw[List.getElem?_zipWith,ZL];cases e:r[i]? with
 |none=>simp
 |some s=>have hi:=(ze.mp e).1;simp_all
structure Pt.G (fw:Nat) (x:Pt):Prop where
 q0:0<x.q
 qz:x.q*6<2^9000
 qf:x.q*6<fw
 pz:x.p<2^9000
 h0:1<=x.hs.length
 h1:x.hs.length<=6
 pu:ah x.tr=true
 tl:x.tr.length<=900
noncomputable def iJ(x:Pt):Nat×Nat:=jS x.p (x.q*x.hs.length)
noncomputable def kq(heir:Str->Str)(g:List Str)(dd n:Nat)(x:Pt):W:=if(aP x.hs g).length=x.hs.length then aI x else if 0<(aP x.hs g).length then gf x.tr dd n (x.p,x.q) (aP x.hs g) else gf x.tr dd n (iJ x) [heir (x.hs.headD dM)]
noncomputable def cR(heir:Str->Str)(g:List Str)(dd m:Nat)(x:Pt):List W:=if(aP x.hs g).length=0 then x.hs.tail.mapIdx λi s=>gf x.tr dd (m+1+i) (iJ x) [heir s] else []
noncomputable def bB(heir:Str->Str)(g:List Str)(dd:Nat):List Pt->Nat->List W
 |[],_=>[]
 |x::xs,m=>cR heir g dd m x++bB heir g dd xs (m+(cR heir g dd m x).length)
theorem iG(heir:Str->Str)(g)(dd)(x):∀l m,bB heir g dd (l++[x]) m=bB heir g dd l m++cR heir g dd (m+(bB heir g dd l m).length) x
 |[],m=>by simp[bB]
 |y::l,m=>by rw[List.cons_append,bB,iG heir g dd x l,bB,ZP,zA,<- Nat.add_assoc]
noncomputable def fT(heir:Str->Str)(g:List Str)(dd:Nat)(xs:List Pt)(j:Nat):List W:=((xs.take j).mapIdx λi x=>kq heir g dd (i+1) x)++(xs.drop j).map aI++bB heir g dd (xs.take j) xs.length
theorem pJ{heir:Str->Str}{g:List Str}{dd m:Nat}{x:Pt}(h:x.hs.length<=6):(cR heir g dd m x).length<=5:=by
 unfold cR
 grind
theorem jy{heir:Str->Str}{g:List Str}{dd:Nat}:∀{l:List Pt}{m:Nat},(∀x∈l,x.hs.length<=6)->(bB heir g dd l m).length<=5*l.length
 |[],_,_=>by simp[bB]
 |x::l,m,h=>by
  rw[bB,zA,z0]
  have h1:=pJ (heir:=heir) (g:=g) (dd:=dd) (m:=m) (h x zN)
  have h2:=jy (heir:=heir) (g:=g) (dd:=dd)  (m:=m+(cR heir g dd m x).length) λy hy=>h y (zB _ hy)
  lia
theorem qk{heir:Str->Str}{g:List Str}{dd j:Nat}{xs:List Pt}(hj:j<=xs.length):(fT heir g dd xs j).length=xs.length+(bB heir g dd (xs.take j) xs.length).length:=by
 unfold fT
 grind
theorem Fx:fT heir g dd xs 0=xs.map aI:=by simp[fT,bB]
theorem Ad{heir:Str->Str}{g:List Str}{dd j:Nat}{xs:List Pt}{x:Pt}(e:xs[j]?=some x):∃A B:List W,A.length=j/\fT heir g dd xs j=A++aI x::B/\fT heir g dd xs (j+1)=A++kq heir g dd (j+1) x::B++cR heir g dd (fT heir g dd xs j).length x:=by
 obtain⟨hj,ex⟩:=ze.mp e;have et:xs.take (j+1)=xs.take j++[x]:=by rw[List.take_succ,e];rfl
 have lt:(xs.take j).length=j:=by rw[Zk];lia
 refine⟨(xs.take j).mapIdx (λi x=>kq heir g dd (i+1) x),(xs.drop (j+1)).map aI++bB heir g dd (xs.take j) xs.length,by rw[ZJ,lt],?_,?_⟩;unfold fT;rw[zzR hj,ex,zO,ZP];rfl;rw[qk (zz6 hj)];unfold fT;rw[et,iG,List.mapIdx_concat,lt];simp
theorem Bg(h:x.G fw):ak (kq heir g dd n x)=true:=by unfold kq;split;simp[aI,ak,ah,ax,h.pu];split<;>exact aL h.pu
theorem mW(h:x.G fw):ah (cR heir g dd m x)=true:=by unfold cR;split;refine bX λw hw=>?_;obtain⟨i,hi,rfl⟩:=zzE.mp hw;exact aL h.pu;rfl
noncomputable abbrev gX(pc pb : Nat) : List S := [.asg 4 (.call pc [(.ix V0 (.con (.int 0))), (.con (.int 1)), (.blt .len [V2])]),
 .ret (.compS [5, 6] 2 (.zipE V1 V2) [] (.call pb [(.ix V0 (.con (.int 2))), V3, V5, V4, (.tup [V6])]))]
noncomputable def ON(x:Pt)(dd:Nat)(w:W):W:=match w with
 |.tup [.int n,.str s]=>gf x.tr dd n.toNat (iJ x) [s]
 |_=>.non
theorem t9{fw:Nat}{tb:List Fn}{f pc pb l g:Nat}(hf:tb[f]?=some ⟨4,5,gX pc pb,none⟩)(hpc:tb[pc]?=some ⟨3,3,j6 l,none⟩)(hl:tb[l]?=some ⟨2,3,wA g,none⟩)(hg:tb[g]?=some ⟨2,3,oa,none⟩)(hpb:tb[pb]?=some ⟨5,5,bE,none⟩)(d:Nat)(x:Pt)(ns:List Nat)(hs:List Str)(dd:Nat)(h:aa)(hx:x.G fw)(hh:hs.length=x.hs.length)(hn:ns.length<=1000) :
  ae fw tb (d+4) f [aI x,.lst (ns.map aq),.lst (hs.map W.str),aq dd] h=.ok (.lst (List.zipWith (λn s=>gf x.tr dd n (iJ x) [s]) ns hs)) h:=by
 rw[af hf rfl]
 have h6:x.q*x.hs.length<=x.q*6:=Nat.mul_le_mul_left _ hx.h1
 have p:=ng (fw:=fw) hpc hl hg d x.p x.q 1 x.hs.length h (mG (zj hx.pz (z9 ZzD ZzD)) (by exact Nat.one_lt_two_pow ZzD)) (mG (zj (zQ (Nat.le_mul_of_pos_right _ ZzD) hx.qz) (z9 ZzD ZzD)) (zQ hx.h1 (zj (show 6<2^3 by decide) (z9 ZzD ZzD)))) hx.q0 hx.h0 (zQ h6 hx.qz) (zQ h6 hx.qf)
 rw[Nat.mul_one]at p
 have b:=λ(n:Nat) (s:Str) (hh:aa)=>aS (fw:=fw) hpb (d+2) dd n (iJ x) [s] x.tr hx.pu (zf hx.tl ZzD) hh
 generalize ae fw tb (d+3)=cf at *
 let σ (a4:Option W):ag:=[some (aI x),some (.lst (ns.map aq)),some (.lst (hs.map W.str)),some (aq dd),a4]
 show J.fin h.length (aA cf fw (gX pc pb) (σ none) h)=_
 have zz:∀(ns:List Nat) (hs:List Str),List.zipWith (λu v=>W.tup [u,v]) (ns.map aq) (hs.map W.str)=List.zipWith (λn s=>W.tup [aq n,.str s]) ns hs:=λns hs=>by rw[List.zipWith_map_left,List.zipWith_map_right]
 have e:aA cf fw (gX pc pb) (σ none) h=.ok (.ret (.lst (List.zipWith (λn s=>gf x.tr dd n (iJ x) [s]) ns hs))) h:=by
  refine(ai (bz (w:=m6 (iJ x)) (hW (aj (IS (x:=x) (U0 rfl)) (aj (av (w:=aq 1)) (aj ((fR (x:=.lst (hs.map W.str)) (U2 rfl) rfl).trans (by rw[zo,hh])) ay))) p))).trans (a7 (aQ ?_))
  have q:=lV (cf:=cf) (is:=[5,6]) (n:=2) (a:=.zipE V1 V2)  (σ:=σ (some (m6 (iJ x)))) (h:=h) (F:=ON x dd)
   (GZ (U1 rfl) (U2 rfl) (.inl rfl) (.inl rfl)) rfl (λk e=>by cases e) (by rw[zz,List.length_zipWith];lia) (λw hw=>by
   rw[zz]at hw
   obtain⟨i,hi,rfl⟩:=List.mem_iff_getElem.mp hw
   rw[List.getElem_zipWith]
   exact⟨by show ak (gf _ _ _ _ _)=true;exact aL hx.pu,_,rfl,λhh2=>hW (aj (LO (x:=x) (U0 rfl)) (aj (U3 rfl) (aj (U5 rfl) (aj (U4 rfl) (aj (i7 (aj (ao (i:=6) rfl) ay) (by show 1<=1000;decide)) ay))))) (b _ _ hh2)⟩)
  refine q.trans ?_;rw[zz,List.map_zipWith];rfl
 rw[e]
 refine dU ?_ (λn z=>by cases z) rfl
 rw[ak]
 refine bX λw hw=>?_
 obtain⟨i,hi,rfl⟩:=List.mem_iff_getElem.mp hw
 rw[List.getElem_zipWith]
 exact aL hx.pu
noncomputable abbrev Jn(wi hr pb fl : Nat) : List S := [.asg 8 (.ix V7 (.con (.int 1))),
 .asg 9 (.call wi [V8,V1]),
 .if_ (.cmp .Eq (.blt .len [V9]) (.blt .len [V8])) [.cnt] [],
 .if_ (.cmp .Gt (.blt .len [V9]) (.con (.int 0))) [.setix V5 (.bin .Sub V6 (.con (.int 1))) (.call pb [(.ix V7 (.con (.int 2))),V4,V6,(.ix V7 (.con (.int 0))),V9])] [.asg 10 (.compS [14] 1 V8 [] (.call hr [Mv,V2,Mm])),
 .asg 11 (.bin .Add (.lst [V6]) (.lrng (.bin .Add (.blt .len [V5]) (.con (.int 1))) (.bin .Add (.blt .len [V5]) (.blt .len [eC])))),
 .asg 12 (.call fl [V7,vf,eC,V4]),
 .setix V5 (.bin .Sub V6 (.con (.int 1))) (.ix Dm (.con (.int 0))),
 .exp (.meth .extend V5 [(.sl Dm (some (.con (.int 1))) none)])]]
theorem v9{A B:List W}{w v:W}{j:Nat}(h:A.length=j):(A++w::B).set j v=A++v::B:=by simp_all
noncomputable abbrev yR(wi hr pb fl:Nat)(r:List S):List S:=.asg 13 (.bin .Add (.blt .list [V3]) (.blt .list [V1]))::.fresh 5 (.blt .list [V0])::.for_ [6,7] (.seq (.enmE 1 V0)) (Jn wi hr pb fl)::r
theorem xt{ss:List Str}{F:Str->Str}(ea:evE cf a σ h=.ok x h)(hx:Seq x (ss.map W.str))(hl:ss.length<=1000)(hF:∀s∈ss,∀hh,evE cf elt ((kA [i] σ++List.replicate n none).set i (some (.str s))) hh=.ok (.str (F s)) hh):evE cf (.compS [i] n a [] elt) σ h=.ok (.lst ((ss.map F).map W.str)) h:=by refine(lV (F:=λw=>match w with|.str s=>.str (F s)|_=>.non) ea (hx.seqA h) (hx.noref) (by simp_all) (λw hw=>?_)).trans (by rw[zzm,zzm];rfl);obtain⟨s,hs,rfl⟩:=Zx.mp hw;exact⟨rfl,_,rfl,hF s hs⟩
theorem AD{fw:Nat}{tb:List Fn}{wi hr pb fl pc l g:Nat}(hwi:tb[wi]?=some ⟨2,2,fk,none⟩)(hhr:tb[hr]?=some ⟨3,5,iy,none⟩)(hpb:tb[pb]?=some ⟨5,5,bE,none⟩)(hfl:tb[fl]?=some ⟨4,5,gX pc pb,none⟩)
  (hpc:tb[pc]?=some ⟨3,3,j6 l,none⟩) (hll:tb[l]?=some ⟨2,3,wA g,none⟩) (hg:tb[g]?=some ⟨2,3,oa,none⟩) (d:Nat) (t gW:W) (xs:List Pt) (gs ks vs dead P:List Str) (dd:Nat) (h:aa)
  (ht:Seq t (xs.map aI)) (hgs:Seq gW (gs.map W.str)) (hP:P.length<=30) (hgP:∀s∈gs,s∈P) (hv:∀y∈vs,y∈P) (hkv:ks.length=vs.length) (hw:31<=fw) (hx:∀x∈xs,x.G fw) (hxl:xs.length<=60) (vC:dead.length+gs.length<=1000) :
  ∃σ2:ag,σ2[5]?=some (some (.ref h.length))/\∀r,aA (ae fw tb (d+4)) fw (yR wi hr pb fl r) [some t,some gW,some (.dic ks (vs.map W.str)),some (.lst (dead.map W.str)),some (aq dd),none,none,none,none,none,none,none,none,none] h =
   aA (ae fw tb (d+4)) fw r σ2 (h++[.lst (fT (λs=>da (mv ks vs) (λy=>a9 y (dead++gs)) s 31 s) gs dd xs xs.length)]):=by
 let heir:Str->Str:=λs=>da (mv ks vs) (λy=>a9 y (dead++gs)) s 31 s
 have c1:=λ(name:Str) (hh:aa) (hn:name∈P)=>Cu (fw:=fw) hhr (d+3) name ks vs (dead++gs) P hh hP hn hv hkv hw
 have c7:=λ(x:Pt) (ns:List Nat) (hs:List Str) (hh:aa)=>t9 (fw:=fw) hfl hpc hll hg hpb d x ns hs dd hh
 let Iv:Nat->ag->aa->Prop:=λj s hh=>∃r6 r7 r8 r9 r10 r11 r12,s=[some t,some gW,some (.dic ks (vs.map W.str)),some (.lst (dead.map W.str)),some (aq dd),some (.ref h.length),r6,r7,r8,r9,r10,r11,r12,some (.lst ((dead++gs).map W.str))]/\hh=h++[.lst (fT heir gs dd xs j)]
 obtain⟨σ2,hh,lp,r6,r7,r8,r9,r10,r11,r12,rfl,rfl⟩:∃σ2 hh,fo [6,7] (aA (ae fw tb (d+4)) fw (Jn wi hr pb fl)) ((xs.map aI).mapIdx λi u=>W.tup [.int (1+(i:Int)),u]) [some t,some gW,some (.dic ks (vs.map W.str)),some (.lst (dead.map W.str)),some (aq dd),some (.ref h.length),none,none,none,none,none,none,none,some (.lst ((dead++gs).map W.str))] (h++[.lst (fT heir gs dd xs 0)])=.ok (.nx σ2) hh/\Iv (0+_) σ2 hh:=by
  refine uk (Iv:=Iv) _ 0 _ _ (λj w s hh ew q=>?_) ⟨_,_,_,_,_,_,_,rfl,rfl⟩;rw[ZV]at q ⊢;obtain⟨r6,r7,r8,r9,r10,r11,r12,rfl,rfl⟩:=q;rw[ZL,zT]at ew;rcases ex:xs[j]? with _|x<;>rw[ex]at ew<;>cases ew;have hj:=(ze.mp ex).1;have hxx:=hx x (zC ex);have h0:=hxx.h0;have h1:=hxx.h1;obtain⟨A,B,la,eA,eB⟩:=Ad (heir:=heir) (g:=gs) (dd:=dd) ex;have en:(1+(j:Int))=((j+1:Nat):Int):=ZzL;have hL:=qk (heir:=heir) (g:=gs) (dd:=dd) (xs:=xs) (j:=j) (zz6 hj);have hN:=jy (heir:=heir) (g:=gs) (dd:=dd) (l:=xs.take j) (m:=xs.length) λy hy=>(hx y (List.mem_of_mem_take hy)).h1;rw[Zk]at hN;have c0:=λhh=>jM (fw:=fw) hwi (d+3) (.tup (x.hs.map W.str)) gW x.hs gs hh (.inr rfl) hgs (zf h1 ZzD);have b:=λn s hs hh=>aS (fw:=fw) hpb (d+3) dd n s hs x.tr hxx.pu (zf hxx.tl ZzD) hh;simp only[Iv,en,eB];generalize fT heir gs dd xs j=cur at *;by_cases qa:(aP x.hs gs).length=x.hs.length;refine⟨_,_,_,rfl,.inr (by simp! [c0,qa];rfl),_,_,_,_,_,_,_,rfl,?_⟩;have e2:kq heir gs dd (j+1) x=aI x:=zF qa;have e3:cR heir gs dd cur.length x=[]:=zM ZzL;rw[e2,e3,Zf,<- eA];by_cases qb:0<(aP x.hs gs).length;have e2:kq heir gs dd (j+1) x=gf x.tr dd (j+1) (x.p,x.q) (aP x.hs gs):=by unfold kq;rw[zM qa,zF qb]
  have e3:cR heir gs dd cur.length x=[]:=zM ZzL;refine⟨_,_,_,rfl,.inl (by simp! [c0,qa,qb,b (j+1) (x.p,x.q),aL hxx.pu,iL (show j<cur.length by lia)];rfl),_,_,_,_,_,_,_,rfl,?_⟩;rw[e2,e3,Zf,eA,v9 la];have ln:aP x.hs gs=[]:=List.length_eq_zero_iff.mp ZzL;have hin:∀s∈x.hs,s∈P:=λs hs=>hgP s (by
   have:=List.filter_eq_nil_iff.mp ln s hs
   simpa [bJ] using this)
  obtain⟨s0,r0,ehs⟩:=List.exists_cons_of_ne_nil (l:=x.hs) (λe=>by rw[e]at h0;exact absurd h0 ZzD);have k1:x.hs.length-1=r0.length:=by rw[ehs,z0];lia
  have e2:kq heir gs dd (j+1) x=gf x.tr dd (j+1) (iJ x) [heir s0]:=by unfold kq;rw[zM qa,zM qb,ehs];rfl
  have eh:∀r10 r11 r12 hh,evE (ae fw tb (d+4)) (.compS [14] 1 V8 [] (.call hr [Mv,V2,Mm])) [some t,some gW,some (.dic ks (vs.map W.str)),some (.lst (dead.map W.str)),some (aq dd),some (.ref h.length),some (aq (j+1)),some (aI x),some (.tup (x.hs.map W.str)),some (.tup ((aP x.hs gs).map W.str)),r10,r11,r12,some (.lst ((dead++gs).map W.str))] hh=.ok (.lst ((x.hs.map heir).map W.str)) hh:=λr10 r11 r12 hh=>xt (by simp! []) (.inr rfl) ZzL λs hs hh=>by (simp! [c1 s hh (hin s hs)];rfl)
  have efp:List.zipWith (λn s=>gf x.tr dd n (iJ x) [s]) ((j+1)::(List.range (x.hs.length-1)).map λi=>cur.length+1+i) (x.hs.map heir)=gf x.tr dd (j+1) (iJ x) [heir s0]::cR heir gs dd cur.length x:=by unfold cR;rw[zF ZzL,ehs,zO,List.zipWith_cons_cons,List.tail_cons,z0,Nat.add_sub_cancel,List.zipWith_map_right];exact congrArg (List.cons _) (vZ (λn s=>gf x.tr dd n (iJ x) [heir s]) r0 (λi=>cur.length+1+i))
  have f:ae fw tb (d+4) fl [aI x,.lst (aq (j+1)::(List.range (x.hs.length-1)).map λi=>aq (cur.length+1+i)),.lst ((x.hs.map heir).map W.str),aq dd] (h++[.lst cur])=.ok (.lst (gf x.tr dd (j+1) (iJ x) [heir s0]::cR heir gs dd cur.length x)) (h++[.lst cur]):=by have:=c7 x ((j+1)::(List.range (x.hs.length-1)).map λi=>cur.length+1+i) (x.hs.map heir) (h++[.lst cur]) hxx (by rw[zo]) (by simp;lia);rw[efp,zO,zzm]at this;exact this
  have el5:=pJ (heir:=heir) (g:=gs) (dd:=dd) (m:=cur.length) h1;have rg:=Jb (h:=h++[.lst cur]) (m:=cur.length+1) (n:=cur.length+x.hs.length) ZzL ZzL ZzL;rw[show cur.length+x.hs.length-(cur.length+1)=x.hs.length-1 by lia]at rg;refine⟨_,_,_,rfl,.inl (by simp! [c0,qa,qb,eh,rg,f,show 1+(x.hs.length-1)<=1000 by lia,fZ,Ef,aL hxx.pu,iL (show j<cur.length by lia),mW hxx,show cur.length+(cR heir gs dd cur.length x).length<=16777216 by lia];rfl),_,_,_,_,_,_,_,rfl,?_⟩;rw[e2,eA,v9 la]
 rw[ZV,ZJ,zo]at lp
 rw[Fx]at lp
 have pl:ah (xs.map aI)=true:=bX λw hw=>by obtain⟨x,hx',rfl⟩:=Zx.mp hw;simp[aI,ak,ah,ax,(hx x hx').pu]
 exact⟨[some t,some gW,some (.dic ks (vs.map W.str)),some (.lst (dead.map W.str)),some (aq dd),some (.ref h.length),r6,r7,r8,r9,r10,r11,r12,some (.lst ((dead++gs).map W.str))],rfl,λr=>by rcases ht with rfl|rfl<;>rcases hgs with rfl|rfl<;>simp! [yR,fZ,<- Zc,vC,seqA,eK,seqL,Option.or,pl,lp,heir]⟩
theorem oz(hp:ah ws=true):J.fin h.length (.ok (.ret (.lst ws)) (h++o))=.ok (.lst ws) h:=by
 unfold J.fin
 dsimp only
 rw[bK (.lst ws) (hp)]
 grind
theorem BO:evE cf (.neg (.con (.int n))) σ h=.ok (.int (-n)) h:=rfl
section
variable {α:Type} [DecidableEq α]
noncomputable def G6(D r:List α):List α:=D.filter λx=>!decide (x∈r)
noncomputable def Mz(D:List α):Nat->List (List α)
 |0=>[[]]
 |k+1=>(Mz D k).flatMap λr=>(G6 D r).map λx=>r++[x]
noncomputable def BF(ok:List α->Bool)(D:List α):Nat->List α
 |0=>[]
 |k+1=>match(G6 D (BF ok D k)).find? λx=>ok (G6 D (BF ok D k++[x])) with
  |some x=>BF ok D k++[x]
  |none=>BF ok D k
noncomputable def Kt{β:Type}(f:β->Int):List β->Int×β->Int×β
 |[],p=>p
 |o::os,p=>Kt f os (if f o>p.1 then(f o,o) else p)
end
theorem G9(e:bw cf c σ h=.ok b h1):evE cf c σ h=.ok (.bl b) h1:=by
 have e':iz (evE cf c σ h)=.ok b h1:=e;cases q:evE cf c σ h with
 |stuck=>rw[q]at e';cases e'
 |exc c h2=>rw[q]at e';cases e'
 |ok w h2=>
  rw[q]at e';cases w with
  |bl k=>cases e';rfl
  |_=>cases e'
theorem Cg{cf:CF}{a b:E}{σ:ag}{h:aa}{x y:Bool}(ea:evE cf a σ h=.ok (.bl x) h)(eb:evE cf b σ h=.ok (.bl y) h):evE cf (.and_ a b) σ h=.ok (.bl (x&&y)) h:=by
 rw[evE,ea,bnd_ok]
 cases x
 ·rfl
 grind
theorem pq{n:Nat}{src:Option Nat}{f:W->aa->Res (Option W)}{G:W->Option W}{h:aa}(hn:h.length=n)(hs:∀k,src=some k->k<n):∀(ws us:List W),(∀w∈ws,∀us,f w (h++[.lst us])=.ok (G w) (h++[.lst us])/\∀u,G w=some u->ak u=true)->us.length+ws.length<=100000 ->
  lc n src f ws (h++[.lst us])=.ok () (h++[.lst (us++ws.filterMap G)])
 |[],us,_,_=>by rw[lc];simp
 |w::ws,us,hf,hl=>by
  rw[z0]at hl;obtain⟨e,hp⟩:=hf w zN us;rw[lc,e,bnd_ok,zF (λk _=>rfl)];cases g:G w with
  |none=>dsimp only;rw[pq hn hs ws us (λw' hw'=>hf w' (zB _ hw')) ZzL,zzS,g]
  |some u=>
   dsimp only;have hcell:(h++[Ob.lst us])[n]?=some (.lst us):=by rw[<- hn,zK (zD _),zzP];rfl
   rw[hcell];dsimp only;rw[zF ⟨hp u g,by rw[Zj];lia⟩];have hset:(h++[Ob.lst us]).set n (.lst (us++[u]))=h++[.lst (us++[u])]:=by simp_all
   rw[hset,pq hn hs ws (us++[u]) (λw' hw'=>hf w' (zB _ hw')) (by rw[zA,Zm];lia),zzS,g];simp
theorem F0{α:Type}{cf:CF}{is:List Nat}{n:Nat}{c elt:E}{σ:ag}{h:aa}{src:Option Nat}{xs:List α}{v:α->W}{p:α->Bool}{F:α->W}(inv:W->Option α)(hinv:∀y,inv (v y)=some y)(hr:∀k,src=some k->k<h.length)(hm:xs.length<=1000)
  (hF:∀y∈xs,∃σ',aV is (v y) (kA is σ++List.replicate n none)=some σ'/\(∀hh,bw cf c σ' hh=.ok (p y) hh)/\(p y=true->ak (F y)=true/\∀hh,evE cf elt σ' hh=.ok (F y) hh)) :
  jG h.length (lc h.length src (λw h=>cA (aV is w (kA is σ++List.replicate n none)) (evTs cf [c]) (evE cf elt) h) (xs.map v) (h++[.lst []]))=.ok (.lst ((xs.filter p).map F)) h:=by
 have key:∀ys:List α,(ys.map v).filterMap (λw=>(inv w).bind λy=>if p y=true then some (F y) else none)=(ys.filter p).map F:=λys=>by
  induction ys with
  |nil=>rfl
  |cons y ys ih =>
   grind
 rw[pq (G:=λw=>(inv w).bind λy=>if p y=true then some (F y) else none) rfl hr (xs.map v) [] (λw hw us=>?_) (by rw[List.length_nil,zo];lia),gw rfl,zzf,key]
 obtain⟨y,m,rfl⟩:=Zx.mp hw
 obtain⟨σ',e1,e2,e3⟩:=hF y m
 rw[hinv,Option.bind_some]
 unfold cA
 rw[e1]
 dsimp only
 have e2':iz (evE cf c σ' (h++[.lst us]))=.ok (p y) (h++[.lst us]):=e2 _
 rw[evTs,e2',bnd_ok]
 by_cases q:p y=true
 ·obtain⟨q1,q2⟩:=e3 q
  rw[zF q,zF q,evTs,bnd_ok,zF rfl,q2,bnd_ok]
  exact⟨rfl,λu hu=>by cases hu;exact q1⟩
 ·rw[zM q,zM q,bnd_ok,zM ZzD]
  exact⟨rfl,λu hu=>by cases hu⟩
end J
namespace J
open PySem
structure Pt.R (x:Pt) (n:Nat):Prop where
 q0:0<x.q
 qb:x.q<=20^n
 pb:x.p<=20^n
 h0:1<=x.hs.length
 h1:x.hs.length<=6
 nm:∀s∈x.hs,aG s
 pu:ah x.tr=true
 oq:dR x.tr=true
 dp:dS x.tr<=4
 tl:x.tr.length<=n
theorem Pt.R.up{x:Pt}(h:x.R n)(hm:n<=m):x.R m :=
 have e :=z9 ZzS hm
 ⟨h.q0,zf h.qb e,zf h.pb e,h.h0,h.h1,h.nm,h.pu,h.oq,h.dp,zf h.tl hm⟩
theorem eT(h:x.R n):ak (aI x)=true:=by simp[aI,ak,ah,ax,h.pu]
theorem aZ{n:Nat}:∀{xs:List Pt},(∀x∈xs,x.R n)->ah (xs.map aI)=true
 |[],_=>rfl
 |x::xs,h=>by rw[zO,ah,eT (h x zN),aZ λy hy=>h y (zB _ hy)];rfl
theorem jH(h:n<=400):20^n*20<2^2010:=by
 have e:20^n*20<=20^401:=by rw[<- Nat.pow_succ];exact z9 ZzS (by simp_all)
 grind
noncomputable def pK(tr:List W)(dd nn:Nat)(s:Nat×Nat)(hs:List Str):Pt:=⟨s.1,s.2,hs,tr++[.tup [aq dd,aq nn,m6 s,.tup (hs.map W.str)]]⟩
theorem sI:aI (pK tr dd nn s hs)=gf tr dd nn s hs:=rfl
theorem rC{x:Pt}(h:x.R n)(ha:a<=20)(hb:b<=20)(b0:0<b)(h0:1<=hs.length)(h1:hs.length<=6)(nm:∀s∈hs,aG s):(pK x.tr dd nn (jS (x.p*a) (x.q*b)) hs).R (n+1):=by
 have q0:0<x.q*b:=Nat.mul_pos h.q0 b0;refine⟨?_,?_,?_,h0,h1,nm,?_,?_,?_,?_⟩;exact Nat.div_pos (Nat.gcd_le_right _ q0) (zzX _ q0);exact zf (Nat.div_le_self _ _) (by rw[Nat.pow_succ];exact Z8 h.qb hb);exact zf (Nat.div_le_self _ _) (by rw[Nat.pow_succ];exact Z8 h.pb ha);exact bx h.pu (by simp[ak,ah,ax])
 exact mi h.oq (by
  have:hs.length<=100000:=ZzL
  simp[pA,dR,fq,this])
 exact lP h.dp (by simp[oZ,dS,eZ]);show(x.tr++[_]).length<=n+1;rw[zA,Zm];have:=h.tl;lia
theorem eJ{b:Nat}(hb:b<=20):eR x (b)=true:=by
 rw[gP];unfold sU
 grind
noncomputable abbrev vp(wp be : Nat) : List S := [.asg 4 (.ix V0 (.bin .Sub V1 (.con (.int 1)))),
 .ret (.call wp [V0, V1, (.call be [(.ix V4 (.con (.int 2))), V3, V1, (.ix V4 (.con (.int 0))), V2])])]
noncomputable abbrev tV(pi be wp : Nat) : List S := [.asg 5 (.ix V0 (.bin .Sub V1 (.con (.int 1)))),
 .asg 6 (.ix V5 (.con (.int 0))),
 .asg 7 (.ix V5 (.con (.int 2))),
 .asg 8 (.call pi [V6,(.bin .Sub xq V2),xq]),
 .asg 9 (.call be [V7,V4,V1,V8,(.ix V5 (.con (.int 1)))]),
 .asg 10 (.call be [V7,V4,(.bin .Add (.blt .len [V0]) (.con (.int 1))),(.call pi [V6,V2,xq]),V3]),
 .ret (.bin .Add (.call wp [V0, V1, V9]) (.lst [eC]))]
noncomputable abbrev xI(nu wh ph ck eNH eBP : Nat) : List S := [.asg 6 (.call nu [V0, V1]),
 .if_ (.cmp .NotEq (.ix V6 (.con (.int 1))) (.tup [V2])) [.raise eNH [.rep 2,.lit,.var 1]] [],
 .if_ (.or_ (.cmp .Lt V3 (.con (.int 1))) (.cmp .Gt V3 xq)) [.raise eBP [.lit,.con,.lit,.var 3]] [],
 .if_ (.cmp .Eq V3 xq) [.asg 7 (.call wh [V0,V1,V4,V5])] [.asg 7 (.call ph [V0,V1,V3,V4,V5])],
 .ret (.call ck [V7])]
noncomputable abbrev vq(nu wi be pi ck wp eNH : Nat) : List S := [.asg 4 (.call nu [V0, V1]),
 .asg 5 (.ix V4 (.con (.int 0))),
 .asg 6 (.ix V4 (.con (.int 1))),
 .asg 7 (.ix V4 (.con (.int 2))),
 .asg 8 (.blt .len [V6]),
 .if_ (.or_ (.cmp .Lt V8 (.con (.int 2))) (.cmp .NotIn V2 V6)) [.raise eNH [.rep 2,.lit,.var 1]] [],
 .asg 9 (.call wi [V6,(.tup [V2])]),
 .asg 10 (.call be [V7,V3,V1,(.call pi [V5,(.bin .Sub V8 (.con (.int 1))),V8]),V9]),
 .asg 11 (.call be [V7,V3,(.bin .Add (.blt .len [V0]) (.con (.int 1))),(.call pi [V5,(.con (.int 1)),V8]),(.tup [V2])]),
 .ret (.call ck [(.bin .Add (.call wp [V0, V1, eC]) (.lst [vf]))])]
structure Ix where
 (gc lo pi be nu wp ck wi wh ph hp sp hr fa pa:Nat)
 (eNP eNH eBP eTP:Nat)
structure Ix.In (I:Ix) (tb:List Fn):Prop where
 gc:tb[I.gc]?=some ⟨2,3,oa,none⟩
 lo:tb[I.lo]?=some ⟨2,3,wA I.gc,none⟩
 pi:tb[I.pi]?=some ⟨3,3,j6 I.lo,none⟩
 be:tb[I.be]?=some ⟨5,5,bE,none⟩
 nu:tb[I.nu]?=some ⟨2,2,bZ I.eNP,none⟩
 wp:tb[I.wp]?=some ⟨3,4,pU,none⟩
 ck:tb[I.ck]?=some ⟨1,1,pI I.eTP,none⟩
 wi:tb[I.wi]?=some ⟨2,2,fk,none⟩
 wh:tb[I.wh]?=some ⟨4,5,vp I.wp I.be,none⟩
 ph:tb[I.ph]?=some ⟨5,11,tV I.pi I.be I.wp,none⟩
 hp:tb[I.hp]?=some ⟨6,8,xI I.nu I.wh I.ph I.ck I.eNH I.eBP,none⟩
 sp:tb[I.sp]?=some ⟨4,12,vq I.nu I.wi I.be I.pi I.ck I.wp I.eNH,none⟩
structure Ix.Dh (I:Ix) (tb:List Fn):Prop where
 hr:tb[I.hr]?=some ⟨3,5,iy,none⟩
 fa:tb[I.fa]?=some ⟨4,5,gX I.pi I.be,none⟩
 pa:tb[I.pa]?=some ⟨5,14,yR I.wi I.hr I.be I.fa [.ret (.call I.ck [V5])],none⟩
theorem Al(ee:evE cf e σ h=r):aA cf fw [.ret e] σ h=bnd r λw h=>.ok (.ret w) h:=by rw[aA,exS,ee];cases r<;>rfl
section
variable {fw:Nat}{tb:List Fn}{I:Ix}{xs:List Pt}{x:Pt}{n k dd:Nat}{name:Str}{h:aa}
theorem nT(T:I.In tb)(hf:2^2010<=fw)(d m o:Nat)(hx:x.R n)(hn:n<=400)(hm:m<=20)(ho:o<=20)(o0:0<o):ae fw tb (d+3) I.pi [sh x.p x.q,aq m,aq o] h=.ok (m6 (jS (x.p*m) (x.q*o))) h:=by have hb :=zQ (Z8 hx.qb ho) (jH hn);exact ng T.pi T.lo T.gc d x.p x.q m o h (eJ hm) (eJ ho) hx.q0 o0 (zj hb (z9 ZzS ZzS)) (zj hb hf)
theorem rf(T:I.In tb)(d:Nat)(ws:List W)(hp:ah ws=true):ae fw tb (d+1) I.ck [.lst ws] h=if 60<ws.length then .exc I.eTP h else .ok (.lst ws) h:=by rw[af T.ck rfl];simp! [show ak (.lst ws)=true from hp,jK]
noncomputable def my(x:Pt)(name:Str):Bool:=decide (x.hs.length<2)||!a9 name x.hs
noncomputable def Fi(x:Pt)(name:Str):List Str:=x.hs.filter λs=>!decide (s=name)
noncomputable def kZ(xs:List Pt)(x:Pt)(k:Nat)(name:Str)(dd:Nat):List Pt:=xs.set (k-1) (pK x.tr dd k (jS (x.p*(x.hs.length-1)) (x.q*x.hs.length)) (Fi x name))++[pK x.tr dd (xs.length+1) (jS (x.p*1) (x.q*x.hs.length)) [name]]
theorem t8(T:I.In tb)(d:Nat)(z:Int)(hz:z.natAbs<10^100)(ho:dJ z xs.length=true):ae fw tb (d+5) I.sp [.lst (xs.map aI),.int z,.str name,aq dd] h=.exc I.eNP h:=by rw[af T.sp rfl];simp! [iR  T.nu (d+3) (.lst (xs.map aI)) (xs.map aI) z h (.inl rfl) hz (by grind)]
theorem kG:(kZ xs x k name dd).map aI=(xs.map aI).set (k-1) (gf x.tr dd k (jS (x.p*(x.hs.length-1)) (x.q*x.hs.length)) (Fi x name))++[gf x.tr dd (xs.length+1) (jS (x.p*1) (x.q*x.hs.length)) [name]]:=by rw[kZ,Zc,List.map_set];rfl
theorem Ed(h1:my x name=false)(nd:x.hs.Nodup):1<=(Fi x name).length:=by
 unfold my at h1;unfold Fi
 match e:x.hs,nd with
 |a::b::l,nd =>
  grind
 |[a],_=>simp_all
 |[],_=>simp_all
theorem Hy(hxs:∀x∈xs,x.R n)(hx:x∈xs)(hb:my x name=false)(nd:x.hs.Nodup)(hm:aG name):∀y∈kZ xs x k name dd,y.R (n+1):=λy hy=>by have h6:=(hxs x hx).h1;have h0:=(hxs x hx).h0;rcases Za.mp hy with h|h;rcases Zo h with h|h;exact(hxs y h).up (ZK _);rw[h];exact rC (hxs x hx) ZzL ZzL ZzL (Ed hb nd) (zf (List.length_filter_le _ _) h6) λs hs=>(hxs x hx).nm s (zzd.mp hs).1;rw[zP.mp h];exact rC (hxs x hx) ZzS ZzL ZzL ZzS ZzS λs hs=>by grind
theorem uY:(kZ xs x k name dd).length=xs.length+1:=by simp[kZ]
theorem kK(hxs:∀x∈xs,x.R n)(hx:x∈xs):ah ((kZ xs x k name dd).map aI)=true:=by rw[kG];refine jd (bX λw hw=>?_) (aL (hxs x hx).pu);rcases Zo hw with h|h;obtain⟨y,hy,rfl⟩:=Zx.mp h;exact eT (hxs y hy);rw[h];exact aL (hxs x hx).pu
theorem wu(T:I.In tb)(hf:2^2010<=fw)(d:Nat)(hxs:∀x∈xs,x.R n)(hn:n<=400)(hl:xs.length<=60)(h1:1<=k)(hk:xs[k-1]?=some x)(hm:aG name) :
  ae fw tb (d+5) I.sp [.lst (xs.map aI),aq k,.str name,aq dd] h=if my x name=true then .exc I.eNH h else if 60<=xs.length then .exc I.eTP h else .ok (.lst ((kZ xs x k name dd).map aI)) h:=by
 have hx:x.R n:=hxs x (zC hk)
 have hk1 :=(ze.mp hk).1
 have hh0:=hx.h0
 have hh6:=hx.h1
 have hpu:=aZ hxs
 have htl:x.tr.length<=1000:=zf hx.tl ZzL
 have sp:=kK (k:=k) (name:=name) (dd:=dd) hxs (zC hk)
 have w5:=lr (fw:=fw) T.wp (d+3) (.lst (xs.map aI)) (xs.map aI) k (gf x.tr dd k (jS (x.p*(x.hs.length-1)) (x.q*x.hs.length)) (Fi x name)) h (.inl rfl) h1 (by grind) hpu (aL hx.pu)
 have ck:=rf (fw:=fw) (h:=h) T (d+3) _ sp
 rw[kG]at ck sp ⊢
 rw[af T.sp rfl]
 have n4:=jJ (fw:=fw) T.nu (d+3) (.lst (xs.map aI)) (xs.map aI) k (aI x) h (.inl rfl) h1 (by simp_all) (eT hx) (λk z=>by cases z)
 have p1:=nT (h:=h) T hf (d+1) (x.hs.length-1) x.hs.length hx hn ZzL ZzL ZzL
 have p2:=nT (h:=h) T hf (d+1) 1 x.hs.length hx hn ZzD ZzL ZzL
 have r2:=aS (fw:=fw) T.be (d+3) dd (xs.length+1) (jS (x.p*1) (x.q*x.hs.length)) [name] x.tr hx.pu htl h
 have lo:aP x.hs [name]=Fi x name:=wH _ _
 simp_arith at p2 r2
 simp! [n4,p1,fZ,show xs.length+1<=1000 by lia,show(60<xs.length+1)=(60<=xs.length) from propext Nat.lt_add_one_iff,jK (w:=.lst _) sp,p2,r2,aS T.be _ _ _ (jS _ _) _ _ hx.pu htl,w5,ck,jM T.wi _ (.tup (x.hs.map W.str)) (.tup [.str name]) x.hs [name] h (.inr rfl) (.inr rfl) ZzL,lo,hh0,pW hm,my,show k<10^100 from zQ (show k<=60 by lia) ZzD]
end
theorem E4{x:Pt}(h:x.R n)(h0:1<=hs.length)(h1:hs.length<=6)(nm:∀s∈hs,aG s):(pK x.tr dd nn (x.p,x.q) hs).R (n+1):=by
 have e:20^n<=20^(n+1):=z9 ZzS (ZK _);refine⟨h.q0,zf h.qb e,zf h.pb e,h0,h1,nm,?_,?_,?_,?_⟩;exact bx h.pu (by simp[ak,ah,ax])
 exact mi h.oq (by
  have:hs.length<=100000:=zf h1 ZzD
  simp[pA,dR,fq,this])
 exact lP h.dp (by simp[oZ,dS,eZ]);show(x.tr++[_]).length<=n+1;rw[zA,Zm];have:=h.tl;lia
noncomputable def eM(xs:List Pt)(x:Pt)(k tw:Nat)(to:List Str)(dd:Nat):List Pt:=if tw=20 then xs.set (k-1) (pK x.tr dd k (x.p,x.q) to) else xs.set (k-1) (pK x.tr dd k (jS (x.p*(20-tw)) (x.q*20)) x.hs)++[pK x.tr dd (xs.length+1) (jS (x.p*tw) (x.q*20)) to]
noncomputable def iN(tz:Int):Bool:=decide (tz<1)||decide ((20:Int)<tz)
theorem sT(h:iN tz=false):∃k:Nat,tz=(k)/\1<=k/\k<=20:=by unfold iN at h;rw[Bool.or_eq_false_iff,decide_eq_false_iff_not,decide_eq_false_iff_not]at h;exact⟨tz.toNat,ZzL,ZzL,by simp_all⟩
section
variable {fw:Nat}{tb:List Fn}{I:Ix}{xs:List Pt}{x:Pt}{n k dd:Nat}{name:Str}{to:List Str}{h:aa}
theorem ji:(eM xs x k tw to dd).map aI=if tw=20 then(xs.map aI).set (k-1) (gf x.tr dd k (x.p,x.q) to) else(xs.map aI).set (k-1) (gf x.tr dd k (jS (x.p*(20-tw)) (x.q*20)) x.hs)++[gf x.tr dd (xs.length+1) (jS (x.p*tw) (x.q*20)) to]:=by unfold eM;split;rw[List.map_set];rfl;rw[Zc,List.map_set];rfl
theorem ku:(eM xs x k tw to dd).length=if tw=20 then xs.length else xs.length+1:=by unfold eM;split<;>simp
theorem Hr(htw:tw<=20)(hxs:∀x∈xs,x.R n)(hx:x∈xs)(h0:1<=to.length)(h6:to.length<=6)(nm:∀s∈to,aG s):∀y∈eM xs x k tw to dd,y.R (n+1):=λy hy=>by have X:=hxs x hx;unfold eM at hy;split at hy;rcases Zo hy with h|h;exact(hxs y h).up (ZK _);rw[h];exact E4 X h0 h6 nm;rcases Za.mp hy with h|h;rcases Zo h with h|h;exact(hxs y h).up (ZK _);rw[h];exact rC X (Nat.sub_le ..) ZzD ZzS X.h0 X.h1 X.nm;rw[zP.mp h];exact rC X htw ZzD ZzD h0 h6 nm
theorem fm{tw:Nat}(hxs:∀x∈xs,x.R n)(hx:x∈xs):ah ((eM xs x k tw to dd).map aI)=true:=by
 have X:=hxs x hx
 have old:∀w v,ak v=true->w∈(xs.map aI).set (k-1) v->ak w=true:=λw v hv hw=>by
  rcases Zo hw with h|h
  ·obtain⟨y,hy,rfl⟩:=Zx.mp h
   exact eT (hxs y hy)
  grind
 rw[ji]
 split
 ·exact bX λw hw=>old w _ (aL X.pu) hw
 ·exact jd (bX λw hw=>old w _ (aL X.pu) hw) (aL X.pu)
theorem xg(h1:1<=k)(hk:xs[k-1]?=some x):dC (.lst (xs.map aI)) (.int ((k-1:Nat))) h=.ok (aI x) h:=cy rfl (by simp_all)
theorem Ij(T:I.In tb)(d:Nat)(hxs:∀x∈xs,x.R n)(hn:n<=400)(h1:1<=k)(hk:xs[k-1]?=some x):ae fw tb (d+2) I.wh [.lst (xs.map aI),aq k,.tup (to.map W.str),aq dd] h=.ok (.lst ((eM xs x k 20 to dd).map aI)) h:=by have hx :=hxs x (zC hk);have hp:=fm (k:=k) (tw:=20) (to:=to) (dd:=dd) hxs (zC hk);have w5:=lr (fw:=fw) T.wp d (.lst (xs.map aI)) (xs.map aI) k (gf x.tr dd k (x.p,x.q) to) h (.inl rfl) h1 (by grind) (aZ hxs) (aL hx.pu);rw[ji,zF rfl]at hp ⊢;rw[af T.wh rfl];simp! [h1,xg h1 hk,aS T.be _ _ _ (x.p,x.q) _ _ hx.pu (zf hx.tl ZzL),w5,jK (w:=.lst _) hp]
theorem HM(T:I.In tb)(hf:2^2010<=fw)(d:Nat){tw:Nat}(htw:tw<20)(hxs:∀x∈xs,x.R n)(hn:n<=400)(hl:xs.length<=60)(h1:1<=k)(hk:xs[k-1]?=some x):ae fw tb (d+4) I.ph [.lst (xs.map aI),aq k,aq tw,.tup (to.map W.str),aq dd] h=.ok (.lst ((eM xs x k tw to dd).map aI)) h:=by
 have hx :=hxs x (zC hk)
 have hp:=fm (k:=k) (tw:=tw) (to:=to) (dd:=dd) hxs (zC hk)
 have htl:x.tr.length<=1000:=zf hx.tl ZzL
 have p1:=nT (h:=h) T hf d (20-tw) 20 hx hn ZzL ZzD ZzD
 have p2:=nT (h:=h) T hf d tw 20 hx hn ZzL ZzD ZzD
 have w5:=lr (fw:=fw) T.wp (d+2) (.lst (xs.map aI)) (xs.map aI) k (gf x.tr dd k (jS (x.p*(20-tw)) (x.q*20)) x.hs) h (.inl rfl) h1 (by grind) (aZ hxs) (aL hx.pu)
 rw[ji,zM ZzL]at hp ⊢
 rw[af T.ph rfl]
 simp_arith at p1 p2
 simp! [h1,xg h1 hk,p1,p2,show(20:Int)-tw=(20-tw:Nat) by lia,aS T.be _ _ _ (jS _ _) _ _ hx.pu htl,w5,fZ,show xs.length+1<=1000 by lia,jK (w:=.lst _) hp]
theorem vK(T:I.In tb)(d:Nat)(z tz:Int)(hz:z.natAbs<10^100)(ho:dJ z xs.length=true):ae fw tb (d+5) I.hp [.lst (xs.map aI),.int z,.str name,.int tz,.tup (to.map W.str),aq dd] h=.exc I.eNP h:=by rw[af T.hp rfl];simp! [iR  T.nu (d+3) (.lst (xs.map aI)) (xs.map aI) z h (.inl rfl) hz (by grind)]
theorem ym(T:I.In tb)(hf:2^2010<=fw)(d:Nat){tz:Int}(hxs:∀x∈xs,x.R n)(hn:n<=400)(hl:xs.length<=60)(h1:1<=k)(hk:xs[k-1]?=some x)(hm:aG name)(hz:tz.natAbs<10^100) :
  ae fw tb (d+5) I.hp [.lst (xs.map aI),aq k,.str name,.int tz,.tup (to.map W.str),aq dd] h=if E3 x.hs [name]=false then .exc I.eNH h else if iN tz=true then .exc I.eBP h else if 60<=xs.length/\tz<20 then .exc I.eTP h else .ok (.lst ((eM xs x k tz.toNat to dd).map aI)) h:=by
 have hx:x.R n:=hxs x (zC hk)
 have hk1:k-1<xs.length:=(ze.mp hk).1
 have n4:=jJ (fw:=fw) T.nu (d+3) (.lst (xs.map aI)) (xs.map aI) k (aI x) h (.inl rfl) h1 (by simp_all) (eT hx) (λk z=>by cases z)
 rw[af T.hp rfl]
 have nt:=J1 (h:=h) (us:=[name]) hx.nm (by simpa)
 have hk':=hk
 have hk:k<10^100:=zQ (show k<=60 by lia) ZzD
 simp_arith at nt
 by_cases hb:iN tz=true
 ·have b:tz<1\/20<tz:=by simpa [iN] using hb
  simp! [n4,pW hm,hz,hk,nt,iN,b,zz2]
 ·obtain⟨tw,rfl,w1,w2⟩:=sT (Zp _ |>.mp hb)
  have ck:=rf (fw:=fw) (h:=h) T (d+3) ((eM xs x k tw to dd).map aI) (fm hxs (zC hk'))
  have fp:=jK (h:=h) (w:=.lst ((eM xs x k tw to dd).map aI)) (fm hxs (zC hk'))
  rw[zo,ku]at ck
  by_cases w:tw=20
  ·subst w
   have:=Ij (fw:=fw) (h:=h) (to:=to) (dd:=dd) T (d+2) hxs hn h1 hk'
   simp! [n4,pW hm,hz,hk,nt,iN,zz2,Int.cast_ofNat_Int,show ¬(20:Int)<1 by decide,or_self,show Int.toNat 20=20 from rfl,this,ck,fp,show ¬ 60<xs.length by lia,Int.lt_irrefl,and_false]
  ·have w':tw<20:=ZzL
   simp! [n4,pW hm,hz,hk,nt,iN,zz2,show ¬(tw<1\/20<tw) by lia,w,Zt,HM T hf _ w' hxs hn hl h1 hk',ck,fp,show(60<xs.length+1)=(60<=xs.length) from propext Nat.lt_add_one_iff,w',and_true]
end
noncomputable def Dt(heir:Str->Str)(g:List Str)(dd n:Nat)(x:Pt):Pt:=if(aP x.hs g).length=x.hs.length then x else if 0<(aP x.hs g).length then pK x.tr dd n (x.p,x.q) (aP x.hs g) else pK x.tr dd n (iJ x) [heir (x.hs.headD dM)]
noncomputable def Bv(heir:Str->Str)(g:List Str)(dd m:Nat)(x:Pt):List Pt:=if(aP x.hs g).length=0 then x.hs.tail.mapIdx λi s=>pK x.tr dd (m+1+i) (iJ x) [heir s] else []
noncomputable def wK(heir:Str->Str)(g:List Str)(dd:Nat):List Pt->Nat->List Pt
 |[],_=>[]
 |x::xs,m=>Bv heir g dd m x++wK heir g dd xs (m+(Bv heir g dd m x).length)
noncomputable def iw(heir:Str->Str)(g:List Str)(dd:Nat)(xs:List Pt):List Pt:=(xs.mapIdx λi x=>Dt heir g dd (i+1) x)++wK heir g dd xs xs.length
theorem jO{α β γ:Type}{f:Nat->α->β}{g:β->γ}{l:List α}:(l.mapIdx f).map g=l.mapIdx λi x=>g (f i x):=by refine List.ext_getElem? λi=>?_;rw[zT,ZL,ZL];cases l[i]?<;>rfl
section
variable {heir:Str->Str}{g:List Str}{dd n m:Nat}{x:Pt}{xs:List Pt}
theorem Di:aI (Dt heir g dd n x)=kq heir g dd n x:=by unfold Dt kq;split;rfl;split<;>rfl
theorem Cp:(Bv heir g dd m x).map aI=cR heir g dd m x:=by unfold Bv cR;split;rw[jO];rfl;rfl
theorem uF:∀xs m,(wK heir g dd xs m).map aI=bB heir g dd xs m
 |[],_=>rfl
 |x::xs,m=>by rw[wK,bB,Zc,uF xs,<- Cp,zo]
theorem qA:(iw heir g dd xs).map aI=fT heir g dd xs xs.length:=by unfold iw fT;rw[Zc,uF,ZC,zzQ,Zy,Zf,jO];refine congrArg (·++_) ?_;congr 1;funext i x;exact Di
theorem vU(h:s∈aP hs g):s∈hs:=(zzd.mp h).1
theorem EN(h:x.R n)(hm:aG s):(pK x.tr dd nn (iJ x) [s]).R (n+1):=by
 have h6:=h.h1;have h0:=h.h0;have e:iJ x=jS (x.p*1) (x.q*x.hs.length):=by rw[Nat.mul_one];rfl
 rw[e];exact rC h ZzS ZzL ZzL ZzS ZzS λy hy=>by grind
theorem KC(h:x.R n)(hh:∀s,aG (heir s)):(Dt heir g dd nn x).R (n+1):=by unfold Dt;split;exact h.up (ZK _);split;rename_i q;exact E4 h q (zf (List.length_filter_le _ _) h.h1) λs hs=>h.nm s (vU hs);exact EN h (hh _)
theorem Eu(hh:∀s,aG (heir s)):∀xs m,(∀x∈xs,x.R n)->∀y∈wK heir g dd xs m,y.R (n+1)
 |[],_,_,y,hy=>by cases hy
 |x::xs,m,h,y,hy=>by
  rcases Za.mp hy with q|q
  ·unfold Bv at q
   split at q
   ·obtain⟨i,hi,rfl⟩:=zzE.mp q
    exact EN (h x zN) (hh _)
   grind
  ·exact Eu hh xs _ (λz hz=>h z (zB _ hz)) y q
theorem yp(hh:∀s,aG (heir s))(h:∀x∈xs,x.R n):∀y∈iw heir g dd xs,y.R (n+1):=λy hy=>by rcases Za.mp hy with q|q;obtain⟨i,hi,rfl⟩:=zzE.mp q;exact KC (h _ (ZM hi)) hh;exact Eu hh xs _ h y q
end
theorem tY{nx:Str->Option Str}{dead:Str->Bool}{name:Str}:∀(n:Nat) (x:Str),da nx dead name n x=dM\/∃z,nx z=some (da nx dead name n x)/\dead (da nx dead name n x)=false
 |0,_=>.inl rfl
 |n+1,x=>by
  unfold da
  cases e:nx x with
  |none=>simp
  |some y =>
   dsimp only
   split
   ·grind
   ·exact tY n y
section
variable {fw:Nat}{tb:List Fn}{I:Ix}{xs:List Pt}{n dd:Nat}{h:aa}{gs ks vs dead P:List Str}
theorem Pt.R.G{x:Pt}(r:x.R n)(hn:n<=400)(hf:2^2010<=fw):x.G fw:=by have hb :=zQ (Z8 r.qb (show 6<=20 by simp)) (jH hn);have hp :=zQ (zf r.pb (Nat.le_mul_of_pos_right _ ZzS)) (jH hn);have e:2^2010<=2^9000:=z9 ZzS ZzS;exact⟨r.q0,zj hb e,zj hb hf,zj hp e,r.h0,r.h1,r.pu,zf r.tl ZzL⟩
theorem yx(T:I.In tb)(d m:Nat)(us:List W)(hm:h[m]?=some (.lst us)):ae fw tb (d+1) I.ck [.ref m] h=if 60<us.length then .exc I.eTP h else .ok (.ref m) h:=by rw[af T.ck rfl];generalize ae fw tb d=cf;have t:=FG (cf:=cf) (n:=60) (σ:=[some (.ref m)]) (h:=h) (a:=.blt .len [.var 0]) (b:=.con (.int 60)) (fR (x:=.ref m) (us:=us) (U0 rfl) (qe hm)) aD;by_cases q:60<us.length;rw[zF q];rw[zX q]at t;exact eO  (cx ((lz t).trans (cx (gz rfl)))) pC;rw[zM q];rw[zV q]at t;refine eO  ((ai (fV t)).trans (a7 (aQ (U0 rfl)))) ?_;unfold J.fin;dsimp only;rw[i5,zF (ze.mp hm).1];dsimp only;rw[ZC]
noncomputable abbrev eX(ks vs dead gs:List Str):Str->Str:=λs=>da (mv ks vs) (λy=>a9 y (dead++gs)) s 31 s
theorem tP(hv:∀y∈vs,aG y)(s):aG (eX ks vs dead gs s):=by rcases tY    31 s with z|⟨u,z,_⟩;show aG (da _ _ _ _ _);rw[z];exact xK;exact hv _ (jY z)
theorem NS(T:I.In tb)(U:I.Dh tb)(hf:2^2010<=fw)(d:Nat)(gW:W)(hgs:Seq gW (gs.map W.str))(hxs:∀x∈xs,x.R n)(hn:n<=400)(hl:xs.length<=60)(hP:P.length<=30)(hgP:∀s∈gs,s∈P)(hv:∀y∈vs,y∈P)(nP:∀y∈P,aG y)(hkv:ks.length=vs.length)(vC:dead.length+gs.length<=1000) :
  ae fw tb (d+5) I.pa [.lst (xs.map aI),gW,.dic ks (vs.map W.str),.lst (dead.map W.str),aq dd] h=if 60<(iw (eX ks vs dead gs) gs dd xs).length then .exc I.eTP h else .ok (.lst ((iw (eX ks vs dead gs) gs dd xs).map aI)) h:=by
 rw[af U.pa rfl]
 have hw:31<=fw:=zf (zz6 (zj (show 31<2^5 by decide) (z9 ZzD ZzD))) hf
 obtain⟨σ2,e5,co⟩:=AD (fw:=fw) T.wi U.hr T.be U.fa T.pi T.lo T.gc d (.lst (xs.map aI)) gW xs gs ks vs dead P dd h (.inl rfl) hgs hP hgP hv hkv hw (λx hx=>(hxs x hx).G hn hf) hl vC
 rw[<- qA]at co
 let R:List Pt:=iw (eX ks vs dead gs) gs dd xs
 have ckr:=yx (fw:=fw) (h:=h++[.lst (R.map aI)]) T (d+3) h.length (R.map aI) aR
 rw[zo]at ckr
 generalize ae fw tb (d+4)=cf at *
 have co':=(co [.ret (.call I.ck [V5])]).trans (Al (lW (ao (i:=5) e5) ckr))
 show J.fin h.length (aA cf fw (yR I.wi I.hr I.be I.fa [.ret (.call I.ck [V5])]) [some (.lst (xs.map aI)),some gW,some (.dic ks (vs.map W.str)),some (.lst (dead.map W.str)),some (aq dd),none,none,none,none,none,none,none,none,none] h)=_
 rw[co']
 by_cases hb:60<R.length
 ·rw[zF hb,zF hb]
  show Res.exc I.eTP ((h++[Ob.lst (R.map aI)]).take h.length)=_
  rw[List.take_left]
 ·rw[zM hb,zM hb,bnd_ok]
  unfold J.fin
  dsimp only
  rw[i5,zM (ZN _),aR]
  dsimp only
  rw[List.take_left]
end
theorem lZ{i c:Nat}{body:ag->aa->Res Fl}{σ:ag}{h:aa}{p:Str->Bool}:∀(ss:List Str) (r:Option W),(∀s∈ss,body (σ.set i (some (.str s))) h=if p s=true then .exc c h else .ok (.nx (σ.set i (some (.str s)))) h)->∃r',fo [i] body (ss.map W.str) (σ.set i r) h=if ss.any p=true then .exc c h else .ok (.nx (σ.set i r')) h
 |[],r,_=>⟨r,rfl⟩
 |s::ss,r,st=>by
  rw[zO,fo,dB,List.set_set]
  dsimp only
  rw[st s zN]
  by_cases q:p s=true
  ·simp_all
  ·rw[zM q,bnd_ok]
   obtain⟨r',e⟩:=lZ ss (some (.str s)) λu hu=>st u (zB _ hu)
   grind
noncomputable abbrev qh(la c:Nat):List S:=[.if_ (.cmp .Is (.fld 0 0 (.mth la V0 [])) (.con .non)) [.raise c []] []]
noncomputable abbrev yy(pc gd la sp nx kp : Nat) : List S := [.exp (.mth pc V0 [(.tup [V1])]),
 .exp (.mth gd V0 []),
 .asg 3 (.mth la V0 []),
 .asg 4 (.call sp [(.fld 0 1 V3),V2,V1,(.mth nx V0 [])]),
 .ret (.mth kp V0 [(.tup [(.con (.str "sever")), V1, V2]), V4, (.fld 0 2 V3), (.fld 0 3 V3)])]
noncomputable abbrev Ej(gp pc gd la hp nx kp : Nat) : List S := [.asg 5 (.call gp [V4, (.con (.int 1)), (.con (.int 6))]),
 .exp (.mth pc V0 [(.bin .Add (.tup [V1]) V5)]),
 .exp (.mth gd V0 []),
 .asg 6 (.mth la V0 []),
 .asg 7 (.call hp [(.fld 0 1 V6),V2,V1,V3,V5,(.mth nx V0 [])]),
 .ret (.mth kp V0 [(.tup [(.con (.str "hand")), V1, V2, V3, V5]), V7, (.fld 0 2 V6), (.fld 0 3 V6)])]
noncomputable abbrev ua(pc gd la kp : Nat) : List S := [.exp (.mth pc V0 [(.tup [V1, V2])]),
 .exp (.mth gd V0 []),
 .asg 3 (.mth la V0 []),
 .dupd 4 (.fld 0 2 V3) 1 2,
 .ret (.mth kp V0 [(.tup [(.con (.str "follow")), V1, V2]), (.fld 0 1 V3), V4, (.fld 0 3 V3)])]
noncomputable abbrev Ex(gp pc gd la pa nx kp : Nat) : List S := [.asg 2 (.call gp [V1, (.con (.int 1)), (.con (.int 30))]),
 .exp (.mth pc V0 [V2]),
 .exp (.mth gd V0 []),
 .asg 3 (.mth la V0 []),
 .asg 4 (.call pa [(.fld 0 1 V3),V2,(.fld 0 2 V3),(.fld 0 3 V3),(.mth nx V0 [])]),
 .ret (.mth kp V0 [(.tup [(.con (.str "die")), V2]), V4, (.fld 0 2 V3), (.bin .Add (.fld 0 3 V3) (.blt .list [V2]))])]
structure Rx extends Ix where
 (tw gp kn lv sf la nx pc gd kp fi gr sv hd fl di:Nat)
 (eBG eUn eDe eNG eGB eTD:Nat)
structure Rx.Bs (R:Rx) (tb:List Fn):Prop where
 tl:tb.length<=1000
 tw:tb[R.tw]?=some ⟨1,1,fD,none⟩
 gp:tb[R.gp]?=some ⟨3,3,sk R.eBG R.tw,none⟩
 kn:tb[R.kn]?=some ⟨2,3,tD R.eUn,none⟩
 lv:tb[R.lv]?=some ⟨3,4,ur R.eDe R.kn,none⟩
 sf:tb[R.sf]?=some ⟨5,5,[],some (0,[(false,V1),(false,V2),(false,V3),(false,V4)])⟩
 la:tb[R.la]?=some ⟨1,1,me,none⟩
 nx:tb[R.nx]?=some ⟨1,1,vj,none⟩
 pc:tb[R.pc]?=some ⟨2,2,qS R.lv R.la,none⟩
 gd:tb[R.gd]?=some ⟨1,1,qh R.la R.eNG,none⟩
 kp:tb[R.kp]?=some ⟨5,6,qE R.eTD R.nx R.sf,none⟩
structure Rx.In (R:Rx) (tb:List Fn):Prop extends R.toIx.In tb,R.Bs tb where
 fi:tb[R.fi]?=some ⟨1,1,j7 R.be,none⟩
 gr:tb[R.gr]?=some ⟨2,4,rZ R.eGB R.gp R.pc R.la R.kp R.fi,none⟩
 sv:tb[R.sv]?=some ⟨3,5,yy R.pc R.gd R.la R.sp R.nx R.kp,none⟩
 hd:tb[R.hd]?=some ⟨5,8,Ej R.gp R.pc R.gd R.la R.hp R.nx R.kp,none⟩
 fl:tb[R.fl]?=some ⟨3,5,ua R.pc R.gd R.la R.kp,none⟩
 di:tb[R.di]?=some ⟨2,5,Ex R.gp R.pc R.gd R.la R.pa R.nx R.kp,none⟩
structure Sd where
 dw:W
 xs:List Pt
 ks:List Str
 vs:List Str
 G:List Str
noncomputable abbrev Sd.W(q:Sd):W:=.ins 0 [q.dw,.lst (q.xs.map aI),.dic q.ks (q.vs.map W.str),.lst (q.G.map W.str)]
structure Sd.Ok (q:Sd) (P:List Str) (n:Nat):Prop where
 d2:ak q.dw=true
 x1:∀x∈q.xs,x.R n
 x2:q.xs.length<=60
 x3:∀x∈q.xs,x.hs.Nodup
 k1:q.ks.length=q.vs.length
 k2:q.ks.length<=n
 v1:∀y∈q.vs,y∈P
 g1:∀y∈q.G,y∈P
 g2:q.G.Nodup
section
variable {fw:Nat}{tb:List Fn}{R:Rx}{q:Sd}{P:List Str}{n m:Nat}{ws:List W}{h:aa}{ks:List Str}
theorem Sd.pw(ok:q.Ok P n):ak q.W=true:=by have:=aZ ok.x1;simp only[ak,ah,ok.d2,this,ax,Bool.and_self,Bool.and_true]
theorem lU(T:R.Bs tb)(d:Nat)(ok:q.Ok P n)(hn:h[m]?=some (.lst (ws++[q.W]))):ae fw tb (d+1) R.la [gn ks m] h=.ok q.W h:=lL T.la d ks m ws q.W h hn (Sd.pw ok)
theorem GG(T:R.Bs tb)(d:Nat)(t:W)(ss:List Str)(hs:Seq t (ss.map W.str))(nm:∀s∈ss,aG s):ae fw tb (d+1) R.kn [t,.tup (ks.map W.str)] h=if(ss.any λs=>!a9 s ks)=true then .exc R.eUn h else .ok .non h:=by
 rw[af T.kn rfl];generalize ae fw tb d=cf;obtain⟨r,e⟩:=lZ (i:=2) (c:=R.eUn) (p:=λs=>!a9 s ks) (body:=aA cf fw [.if_ (.cmp .NotIn V2 V1) [.raise R.eUn [.lit,.rep 2]] []]) (σ:=[some t,some (.tup (ks.map W.str)),none]) (h:=h) ss none (λs hs'=>by
  have z:=gG (cf:=cf) (σ:=[some t,some (.tup (ks.map W.str)),some (.str s)]) (h:=h) (a:=.var 2) (b:=.var 1) (x:=s) (y:=.tup (ks.map W.str)) (ss:=ks) (ao rfl) (ao rfl) rfl rfl
  by_cases m:(!a9 s ks)=true
  ·rw[zF m]
   rw[m]at z
   refine cx ((lz z).trans (cx (gz ?_)))
   show(ub _ .lit&&(ub _ (.rep 2)&&true))=true
   rw[F3 (i:=2) (s:=s) rfl (nm s hs')]
   rfl
  ·rw[zM m]
   rw[Zp _ |>.mp m]at z
   exact(ai (fV z)).trans (by rw[aA];rfl))
 have e':aA cf fw (tD R.eUn) [some t,some (.tup (ks.map W.str)),none] h=if(ss.any λs=>!a9 s ks)=true then .exc R.eUn h else .ok (.nx [some t,some (.tup (ks.map W.str)),r]) h:=by by_cases b:(ss.any λs=>!a9 s ks)=true;rw[zF b]at e ⊢;exact cx ((nR (U0 rfl) hs).trans e);rw[zM b]at e ⊢;exact(ai ((nR (U0 rfl) hs).trans e)).trans (by rw[aA];rfl)
 refine eO  e' ?_;split;exact pC;exact GO
end
inductive Out where
 |no (c:Nat)
 |ok (q:Sd)
noncomputable def gh(m:Nat)(ws:List W)(q:Sd)(h:aa):Out->Res W
 |.no c=>.exc c h
 |.ok q'=>.ok (aq (ws.length+1)) (h.set m (.lst (ws++[q.W]++[q'.W])))
noncomputable def kR(ks ss:List Str):Bool:=ss.any λs=>!a9 s ks
noncomputable def qX(q:Sd)(ss:List Str):Bool:=ss.any λs=>a9 s q.G
noncomputable def first(R:Rx)(ks:List Str)(q:Sd)(ss:List Str)(o:Out):Out:=if kR ks ss=true then .no R.eUn else if qX q ss=true then .no R.eDe else if bo q.dw=true then .no R.eNG else o
section
variable {fw:Nat}{tb:List Fn}{R:Rx}{q:Sd}{P:List Str}{n m:Nat}{ws:List W}{h:aa}{ks:List Str}
theorem Cq(T:R.Bs tb)(d:Nat)(t:W)(ss:List Str)(hs:Seq t (ss.map W.str))(nm:∀s∈ss,aG s):ae fw tb (d+2) R.lv [t,.tup (ks.map W.str),.lst (q.G.map W.str)] h=if kR ks ss=true then .exc R.eUn h else if qX q ss=true then .exc R.eDe h else .ok .non h:=by
 rw[af T.lv rfl]
 have c1:=GG (fw:=fw) (h:=h) (ks:=ks) T d t ss hs nm
 obtain⟨r,e⟩:=lZ (i:=3) (c:=R.eDe) (p:=λs=>a9 s q.G) (body:=aA (ae fw tb (d+1)) fw [.if_ (.cmp .In V3 V2) [.raise R.eDe [.rep 3,.lit]] []]) (σ:=[some t,some (.tup (ks.map W.str)),some (.lst (q.G.map W.str)),none]) (h:=h) ss none (λs hs'=>by simp! [pW (nm s hs')])
 simp_arith at e
 rcases hs with rfl|rfl<;>(simp! [c1,e,kR,qX];rfl)
theorem jj(T:R.Bs tb)(d:Nat)(t:W)(ss:List Str)(ok:q.Ok P n)(hn:h[m]?=some (.lst (ws++[q.W])))(hs:Seq t (ss.map W.str))(nm:∀s∈ss,aG s):ae fw tb (d+3) R.pc [gn ks m,t] h=if kR ks ss=true then .exc R.eUn h else if qX q ss=true then .exc R.eDe h else .ok .non h:=by rw[af T.pc rfl];simp! [lU T _ ok hn,Cq  T _ t ss hs nm]
theorem iW(T:R.Bs tb)(d:Nat)(ok:q.Ok P n)(hn:h[m]?=some (.lst (ws++[q.W]))):ae fw tb (d+2) R.gd [gn ks m] h=if bo q.dw=true then .exc R.eNG h else .ok .non h:=by rw[af T.gd rfl];simp! [lU T _ ok hn,bI]
theorem q9:J.fin h.length (.ok (.ret (aq k)) (h.set m (.lst us)))=.ok (aq k) (h.set m (.lst us)):=by unfold J.fin;dsimp only;rw[bK _ rfl,iV]
noncomputable def cV(R:Rx)(nd:Nat)(q':Sd):Out:=if 200<=nd then .no R.eTD else .ok q'
theorem KI(T:R.Bs tb)(d:Nat)(q':Sd)(hn:h[m]?=some (.lst (ws++[q.W])))(hp:ah [q'.dw,.lst (q'.xs.map aI),.dic q'.ks (q'.vs.map W.str),.lst (q'.G.map W.str)]=true)(hl:ws.length<=900):ae fw tb (d+2) R.kp [gn ks m,q'.dw,.lst (q'.xs.map aI),.dic q'.ks (q'.vs.map W.str),.lst (q'.G.map W.str)] h=gh m ws q h (cV R ws.length q'):=by have c:=AV (fw:=fw)  T.kp T.nx T.sf T.tl d ks m (ws++[q.W]) q'.dw (.lst (q'.xs.map aI)) (.dic q'.ks (q'.vs.map W.str)) (.lst (q'.G.map W.str)) h hn hp (by rw[zA,Zm];lia);rw[zA,Zm]at c;rw[c];unfold cV;by_cases b:200<=ws.length;rw[zF b,zF ZzL];rfl;rw[zM b,zM ZzL];rfl
theorem cP:J.fin h.length (bnd (gh m ws q h o) λw h=>.ok (.ret w) h)=gh m ws q h o:=by
 cases o with
 |no c=>exact pC
 |ok q'=>exact q9
theorem lC(T:R.Bs tb)(d){dw xs k2 vs G}(hn:h[m]?=some (.lst (ws++[q.W])))(hl:ws.length<=900)(d2:ak dw=true)(hp:ah (xs.map aI)=true):ae fw tb (d+2) R.kp [gn ks m,dw,.lst (xs.map aI),.dic k2 (vs.map W.str),.lst (G.map W.str)] h=gh m ws q h (cV R ws.length ⟨dw,xs,k2,vs,G⟩):=KI T d ⟨dw,xs,k2,vs,G⟩ hn (by simp only[ak,ah,d2,hp,ax,Bool.and_self,Bool.and_true]) hl
theorem gF{c:Prop} [Decidable c]:gh m ws q h (if c then a else b)=if c then gh m ws q h a else gh m ws q h b:=by split<;>rfl
theorem dr:gh m ws q h (.no c)=.exc c h:=rfl
end
noncomputable def fH(R:Rx)(ks:List Str)(q:Sd)(nd:Nat)(name:Str)(z:Int):Out:=first R ks q [name] (if dJ z q.xs.length=true then .no R.eNP else match q.xs[z.toNat-1]? with
 |none=>.no R.eNP
 |some x=>if my x name=true then .no R.eNH else if 60<=q.xs.length then .no R.eTP else cV R nd ⟨.tup [.str "sever",.str name,.int z],kZ q.xs x z.toNat name (nd+1),q.ks,q.vs,q.G⟩)
noncomputable def gD(R:Rx)(ks:List Str)(q:Sd)(nd:Nat)(name:Str)(z tz:Int)(ss:List Str):Out:=if 1<=ss.length/\ss.length<=6/\ss.Nodup then first R ks q (name::bp ss) (if dJ z q.xs.length=true then .no R.eNP else match q.xs[z.toNat-1]? with
 |none=>.no R.eNP
 |some x=>if E3 x.hs [name]=false then .no R.eNH else if iN tz=true then .no R.eBP else if 60<=q.xs.length/\tz<20 then .no R.eTP else cV R nd ⟨.tup [.str "hand",.str name,.int z,.int tz,.tup ((bp ss).map W.str)],eM q.xs x z.toNat tz.toNat (bp ss) (nd+1),q.ks,q.vs,q.G⟩) else .no R.eBG
noncomputable def dk(R:Rx)(ks:List Str)(q:Sd)(nd:Nat)(a b:Str)(k2 us:List Str):Out:=first R ks q [a,b] (cV R nd ⟨.tup [.str "follow",.str a,.str b],q.xs,k2,us,q.G⟩)
noncomputable def nQ(R:Rx)(ks:List Str)(q:Sd)(nd:Nat)(ss:List Str):Out:=if 1<=ss.length/\ss.length<=30/\ss.Nodup then first R ks q (bp ss) (if 60<(iw (eX q.ks q.vs q.G (bp ss)) (bp ss) (nd+1) q.xs).length then .no R.eTP else cV R nd ⟨.tup [.str "die",.tup ((bp ss).map W.str)],iw (eX q.ks q.vs q.G (bp ss)) (bp ss) (nd+1) q.xs,q.ks,q.vs,q.G++bp ss⟩) else .no R.eBG
section
variable {fw:Nat}{tb:List Fn}{R:Rx}{q:Sd}{P:List Str}{n m:Nat}{ws:List W}{h:aa}{ks:List Str}
theorem gZ(h:dJ z k=false):z=((z.toNat))/\1<=z.toNat/\z.toNat<=k:=by obtain⟨j,rfl,h1,h2⟩:=sP h;simp_all
theorem C7(T:R.In tb)(hf:2^2010<=fw)(d)(ok:q.Ok P n)(n4:n<=400)(hm:aG name)(hz:z.natAbs<10^100):ae fw tb (d+6) R.sp [.lst (q.xs.map aI),.int z,.str name,aq k] h=if dJ z q.xs.length=true then .exc R.eNP h else match q.xs[z.toNat-1]? with
 |none=>.exc R.eNP h
 |some x=>if my x name=true then .exc R.eNH h else if 60<=q.xs.length then .exc R.eTP h else .ok (.lst ((kZ q.xs x z.toNat name k).map aI)) h:=by
 by_cases b:dJ z q.xs.length=true
 ·rw[zF b];exact t8 T.toIn (d+1) z hz b
 rw[zM b]
 obtain⟨ez,z1,z2⟩:=gZ (Zp _ |>.mp b)
 rw[zJ ZzL]
 have:=wu (h:=h)  (dd:=k) T.toIn hf (d+1) ok.x1 n4 ok.x2 z1 (zJ ZzL) hm
 rwa [show aq z.toNat=W.int z from congrArg W.int ez.symm]at this
theorem Hn(T:R.In tb)(hf:2^2010<=fw)(d)(ok:q.Ok P n)(n4:n<=400)(hm:aG name)(hz:z.natAbs<10^100)(hy:tz.natAbs<10^100):ae fw tb (d+6) R.hp [.lst (q.xs.map aI),.int z,.str name,.int tz,.tup (to.map W.str),aq k] h=if dJ z q.xs.length=true then .exc R.eNP h else match q.xs[z.toNat-1]? with
 |none=>.exc R.eNP h
 |some x=>if E3 x.hs [name]=false then .exc R.eNH h else if iN tz=true then .exc R.eBP h else if 60<=q.xs.length/\tz<20 then .exc R.eTP h else .ok (.lst ((eM q.xs x z.toNat tz.toNat to k).map aI)) h:=by
 by_cases b:dJ z q.xs.length=true
 ·rw[zF b];exact vK T.toIn (d+1) z tz hz b
 rw[zM b]
 obtain⟨ez,z1,z2⟩:=gZ (Zp _ |>.mp b)
 rw[zJ ZzL]
 have:=ym (h:=h)  (to:=to) (dd:=k) T.toIn hf (d+1)  ok.x1 n4 ok.x2 z1 (zJ ZzL) hm hy
 rwa [show aq z.toNat=W.int z from congrArg W.int ez.symm]at this
theorem Iz(T:R.In tb)(hf:2^2010<=fw)(d:Nat){name:Str}{z:Int}(ok:q.Ok P n)(hn:h[m]?=some (.lst (ws++[q.W])))(n4:n<=400)(hl:ws.length<=900)(hm:aG name)(hz:z.natAbs<10^100):ae fw tb (d+7) R.sv [gn ks m,.str name,.int z] h=gh m ws q h (fH R ks q ws.length name z):=by
 rw[af T.sv rfl];have s:=C7 (h:=h) (k:=ws.length+1) T hf d ok n4 hm hz;unfold fH first
 rcases e:q.xs[z.toNat-1]? with _|x<;>simp! [jj  T.toBs _ (.tup [.str name]) [name] ok hn (.inr rfl) (by simpa),iW T.toBs _ ok hn,lU T.toBs _ ok hn,iK T.nx _ _ _ (ws++[q.W]),hn,e▸s,dr,gF];simp! [lC (dw:=.tup [.str "sever",.str name,.int z]) T.toBs _ hn hl rfl (kK ok.x1 (zC e)),cP]
theorem pE(h:kR ks ss=false):∀s∈ss,s∈ks:=λs hs=>by have:=zzI.mp h s hs;simpa [bJ] using this
theorem K1(T:R.In tb)(hf:2^2010<=fw)(d:Nat){name:Str}{z tz:Int}{t:W}{ss:List Str}(ok:q.Ok P n)(hn:h[m]?=some (.lst (ws++[q.W])))(n4:n<=400)(hl:ws.length<=900)(hm:aG name)(hz:z.natAbs<10^100)(hy:tz.natAbs<10^100)(ht:Seq t (ss.map W.str))(h6:ss.length<64)(hs:∀s∈ss,aG s) :
  ae fw tb (d+7) R.hd [gn ks m,.str name,.int z,.int tz,t] h=gh m ws q h (gD R ks q ws.length name z tz ss):=by
 rw[af T.hd rfl]
 have s:=Hn (h:=h) (k:=ws.length+1) (to:=bp ss) T hf d ok n4 hm hz hy
 have g:=j2 (fw:=fw) T.gp T.tw (d+4) t ss 1 6 h ht h6 ZzS ZzD
 have sl:=eF ss
 have p:=jj (fw:=fw) (ks:=ks) T.toBs (d+3) (.tup (.str name::(bp ss).map W.str)) (name::bp ss) ok hn (.inr rfl) (by simpa [hm,srt_mem] using hs)
 simp_arith at g
 unfold gD first
 by_cases g6:1<=ss.length/\ss.length<=6/\ss.Nodup
 ·rcases e:q.xs[z.toNat-1]? with _|x<;>simp! [g,g6,p,iW T.toBs _ ok hn,lU T.toBs _ ok hn,iK T.nx _ _ _ (ws++[q.W]),hn,e▸s,dr,gF,Lc,show 1+(bp ss).length<=1000 by lia]
  simp! [lC (dw:=.tup [.str "hand",.str name,.int z,.int tz,.tup ((bp ss).map W.str)]) T.toBs _ hn hl (by simp[ak,ah,ax]) (fm ok.x1 (zC e)),cP]
 ·simp! [g,g6,dr]
theorem Dr(T:R.In tb)(d:Nat){a b:Str}{k2 us:List Str}(ok:q.Ok P n)(hn:h[m]?=some (.lst (ws++[q.W])))(n4:n<=400)(hl:ws.length<=900)(ha:aG a)(hb:aG b)(e:dO q.ks (q.vs.map W.str) a (.str b)=(k2,us.map W.str)):ae fw tb (d+4) R.fl [gn ks m,.str a,.str b] h=gh m ws q h (dk R ks q ws.length a b k2 us):=by
 rw[af T.fl rfl];unfold dk first
 simp! [jj  T.toBs _ (.tup [.str a,.str b]) [a,b] ok hn (.inr rfl) (by simp_all),iW T.toBs _ ok hn,lU T.toBs _ ok hn,dr,gF,aY,e,show q.ks.length<1000 by have:=ok.k2;lia,lC (dw:=.tup [.str "follow",.str a,.str b]) T.toBs _ hn hl rfl (aZ ok.x1),cP]
theorem ND(T:R.In tb)(U:R.toIx.Dh tb)(hf:2^2010<=fw)(d:Nat){t:W}{ss:List Str}(ok:q.Ok P n)(hn:h[m]?=some (.lst (ws++[q.W])))(n4:n<=400)(hl:ws.length<=900)(hP:P.length<=30)(nP:∀y∈P,aG y)(hk:∀y∈ks,y∈P)(ht:Seq t (ss.map W.str))(h6:ss.length<64)(hs:∀s∈ss,aG s) :
  ae fw tb (d+7) R.di [gn ks m,t] h=gh m ws q h (nQ R ks q ws.length ss):=by
 rw[af T.di rfl]
 have g:=j2 (fw:=fw) T.gp T.tw (d+4) t ss 1 30 h ht h6 ZzD ZzD
 have sl:=eF ss
 have p:=jj (fw:=fw) (ks:=ks) T.toBs (d+3) (.tup ((bp ss).map W.str)) (bp ss) ok hn (.inr rfl) (λs hs'=>hs s (srt_mem.mp hs'))
 have gl :=zf (dI ok.g2 ok.g1) hP
 simp_arith at g
 unfold nQ first
 by_cases g6:1<=ss.length/\ss.length<=30/\ss.Nodup
 ·by_cases u:kR ks (bp ss)=true
  ·simp! [g,g6,p,u,dr]
  ·have c:=NS (fw:=fw) (h:=h) (dd:=ws.length+1)  (ks:=q.ks) (vs:=q.vs) (dead:=q.G) T.toIn U hf (d+1) (.tup ((bp ss).map W.str)) (.inr rfl) ok.x1 n4 ok.x2 hP (λs hs'=>hk s (pE (Zp _ |>.mp u) s hs')) ok.v1 nP ok.k1 ZzL
   simp! [g,g6,p,u,iW T.toBs _ ok hn,lU T.toBs _ ok hn,iK T.nx _ _ _ (ws++[q.W]),hn,c,dr,gF,fZ,show q.G.length+(bp ss).length<=1000 by lia,<- Zc,lC (dw:=.tup [.str "die",.tup ((bp ss).map W.str)]) T.toBs _ hn hl (by simp[ak,ah,ax]) (aZ (n:=n+1) (yp (tP λy hy=>nP y (ok.v1 y hy)) ok.x1)),cP]
 ·simp! [g,g6,dr]
end
noncomputable def cZ(R:Rx)(ks:List Str)(q:Sd)(nd:Nat)(ss:List Str):Out:=if 1<=ss.length/\ss.length<=6/\ss.Nodup then(if kR ks (bp ss)=true then .no R.eUn else if qX q (bp ss)=true then .no R.eDe else if bo q.dw=false then .no R.eGB else cV R nd ⟨.tup [.str "grant",.tup ((bp ss).map W.str)],[pK [] 1 1 (1,1) (bp ss)],q.ks,q.vs,q.G⟩) else .no R.eBG
section
variable {fw:Nat}{tb:List Fn}{R:Rx}{q:Sd}{P:List Str}{n m:Nat}{ws:List W}{h:aa}{ks:List Str}
theorem Ic(T:R.Bs tb)(hfi:tb[R.fi]?=some ⟨1,1,j7 R.be,none⟩)(hbe:tb[R.be]?=some ⟨5,5,bE,none⟩)(hgr:tb[R.gr]?=some ⟨2,4,rZ R.eGB R.gp R.pc R.la R.kp R.fi,none⟩)(d:Nat){t:W}{ss:List Str}(ok:q.Ok P n)(hn:h[m]?=some (.lst (ws++[q.W])))(hl:ws.length<=900)(ht:Seq t (ss.map W.str))(h6:ss.length<64)(hs:∀s∈ss,aG s):ae fw tb (d+4) R.gr [gn ks m,t] h=gh m ws q h (cZ R ks q ws.length ss):=by
 rw[af hgr rfl]
 have g:=j2 (fw:=fw) T.gp T.tw (d+1) t ss 1 6 h ht h6 ZzD ZzD
 have p:=jj (fw:=fw) (ks:=ks) T d (.tup ((bp ss).map W.str)) (bp ss) ok hn (.inr rfl) (λs hs'=>hs s (srt_mem.mp hs'))
 have k:=lC (fw:=fw) (ks:=ks) (q:=q) (dw:=.tup [.str "grant",.tup ((bp ss).map W.str)]) (xs:=[pK [] 1 1 (1,1) (bp ss)]) (k2:=q.ks) (vs:=q.vs) (G:=q.G) T (d+1) hn hl (by simp[ak,ah,ax]) (by
  have:ak (gf [] 1 1 (1,1) (bp ss))=true:=aL  rfl
  show(ak (gf [] 1 1 (1,1) (bp ss))&&true)=true
  rw[this];rfl)
 simp_arith at g
 rw[zO,Zy,sI]at k
 unfold cZ
 by_cases g6:1<=ss.length/\ss.length<=6/\ss.Nodup
 ·simp! [g,g6,p,lU T _ ok hn,vT hfi hbe (d+1) (bp ss) h,bI,gF,dr,k,cP]
 ·simp! [g,g6,dr]
theorem Gm(T:R.In tb)(d:Nat){t:W}{ss:List Str}(ok:q.Ok P n)(hn:h[m]?=some (.lst (ws++[q.W])))(hl:ws.length<=900)(ht:Seq t (ss.map W.str))(h6:ss.length<64)(hs:∀s∈ss,aG s):ae fw tb (d+4) R.gr [gn ks m,t] h=gh m ws q h (cZ R ks q ws.length ss):=Ic T.toBs T.fi T.be T.gr d ok hn hl ht h6 hs
noncomputable def Rx.errs(R:Rx):List Nat:=[R.eBG,R.eUn,R.eDe,R.eNG,R.eGB,R.eNP,R.eNH,R.eBP,R.eTP,R.eTD]
def Out.Ok(o:Out)(R:Rx)(P:List Str)(n:Nat):Prop:=match o with
 |.no c=>c∈R.errs
 |.ok q=>q.Ok P n/\bo q.dw=false
theorem bW(h:c∈R.errs):(Out.no c).Ok R P n:=h
theorem jg(h:kR ks ss=false->qX q ss=false->o.Ok R P n):(first R ks q ss o).Ok R P n:=by
 unfold first
 split
 ·exact bW (by simp[Rx.errs])
 ·split
  ·exact bW (by simp[Rx.errs])
  ·split
   ·exact bW (by simp[Rx.errs])
   grind
theorem iY(h:q'.Ok P n)(hd:bo q'.dw=false):(cV R nd q').Ok R P n:=by unfold cV;split;exact bW (by simp[Rx.errs]);exact⟨h,hd⟩
theorem oI{a:Str}:[a].Nodup:=ZzS
theorem pF(h:ss.Nodup):(bp ss).Nodup:=(cC ss).nodup_iff.mpr h
theorem Bo(ok:q.Ok P n)(hm:aG name):(fH R ks q nd name z).Ok R P (n+1):=by
 unfold fH;refine jg λ_ _=>?_;split;exact bW (by simp[Rx.errs]);cases e:q.xs[z.toNat-1]? with
 |none=>exact bW (by simp[Rx.errs])
 |some x=>dsimp only;have X:=zC e;split;exact bW (by simp[Rx.errs]);rename_i b;split;exact bW (by simp[Rx.errs]);rename_i b2;refine iY ⟨rfl,Hy ok.x1 X (Zp _ |>.mp b) (ok.x3 x X) hm,by rw[uY];lia,λy hy=>?_,ok.k1,Nat.le_succ_of_le ok.k2,ok.v1,ok.g1,ok.g2⟩ rfl;rcases Za.mp hy with h|h;rcases Zo h with h|h;exact ok.x3 y h;rw[h];exact List.Nodup.sublist List.filter_sublist (ok.x3 x X);rw[zP.mp h];exact oI
theorem DA{nd:Nat}{name:Str}{z tz:Int}{ss:List Str}(ok:q.Ok P n)(hs:∀s∈ss,aG s):(gD R ks q nd name z tz ss).Ok R P (n+1):=by
 unfold gD;split;rename_i g;refine jg λ_ _=>?_;split;exact bW (by simp[Rx.errs]);cases e:q.xs[z.toNat-1]? with
 |none=>exact bW (by simp[Rx.errs])
 |some x=>dsimp only;have X:=zC e;split;exact bW (by simp[Rx.errs]);split;exact bW (by simp[Rx.errs]);rename_i b;split;exact bW (by simp[Rx.errs]);rename_i b2;obtain⟨tw,rfl,w1,w2⟩:=sT (Zp _ |>.mp b);rw[Zt];have x2:=ok.x2;refine iY ⟨by simp[ak,ah,ax],Hr w2 ok.x1 X (by rw[eF];exact g.1) (by rw[eF];exact g.2.1) λs h=>hs s (srt_mem.mp h),by show(eM _ _ _ _ _ _).length<=60;rw[ku];split<;>lia,λy hy=>?_,ok.k1,Nat.le_succ_of_le ok.k2,ok.v1,ok.g1,ok.g2⟩ rfl;unfold eM at hy;split at hy;rcases Zo hy with h|h;exact ok.x3 y h;rw[h];exact pF g.2.2;rcases Za.mp hy with h|h;rcases Zo h with h|h;exact ok.x3 y h;rw[h];exact ok.x3 x X;rw[zP.mp h];exact pF g.2.2
 exact bW (by simp[Rx.errs])
theorem xc{nd:Nat}{a b:Str}{k2 us:List Str}(ok:q.Ok P n)(hk:∀y∈ks,y∈P)(l1:k2.length=us.length)(l2:k2.length<=q.ks.length+1)(hv:∀u∈us,u=b\/u∈q.vs):(dk R ks q nd a b k2 us).Ok R P (n+1):=by refine jg λu _=>iY ⟨rfl,λx hx=>(ok.x1 x hx).up (ZK _),ok.x2,ok.x3,l1,by have:=ok.k2;grind,λy hy=>?_,ok.g1,ok.g2⟩ rfl;rcases hv y hy with rfl|hy;exact hk _ (pE u _ ZzS);exact ok.v1 y hy
theorem AS{nd:Nat}{ss:List Str}(ok:q.Ok P n)(hs:∀s∈ss,aG s):(cZ R ks q nd ss).Ok R P (n+1):=by
 unfold cZ;split;rename_i g;split;exact bW (by simp[Rx.errs]);split;exact bW (by simp[Rx.errs]);split;exact bW (by simp[Rx.errs]);have sl:(bp ss).length<=6:=by rw[eF];exact g.2.1
 refine iY ⟨by simp[ak,ah,ax],λx hx=>?_,by show 1<=60;decide,λx hx=>?_,ok.k1,Nat.le_succ_of_le ok.k2,ok.v1,ok.g1,ok.g2⟩ rfl;rw[zP.mp hx];have p1:1<=20^(n+1):=Nat.pow_pos ZzD;refine⟨Nat.one_pos,p1,p1,by show 1<=(bp ss).length;rw[eF];exact g.1,sl,λs h=>hs s (srt_mem.mp h),?_,?_,?_,by show 1<=n+1;lia⟩;show ah [.tup [aq 1,aq 1,m6 (1,1),.tup ((bp ss).map W.str)]]=true;simp[ak,ah,ax];show dR [.tup [aq 1,aq 1,m6 (1,1),.tup ((bp ss).map W.str)]]=true;have:(bp ss).length<=100000:=ZzL;simp[pA,dR,fq,this];show dS [.tup [aq 1,aq 1,m6 (1,1),.tup ((bp ss).map W.str)]]<=4;simp[oZ,dS,eZ];rw[zP.mp hx];exact pF g.2.2;exact bW (by simp[Rx.errs])
theorem Fh(ok:q.Ok P n)(nP:∀y∈P,aG y)(hk:∀y∈ks,y∈P):(nQ R ks q nd ss).Ok R P (n+1):=by
 unfold nQ;split;rename_i g;refine jg λu de=>?_;split;exact bW (by simp[Rx.errs]);rename_i b;refine iY ⟨by simp[ak,ah,ax],yp (tP λy hy=>nP y (ok.v1 y hy)) ok.x1,Nat.not_lt.mp b,λy hy=>?_,ok.k1,Nat.le_succ_of_le ok.k2,ok.v1,λy hy=>?_,?_⟩ rfl;rcases Za.mp hy with h|h;obtain⟨i,hi,rfl⟩:=zzE.mp h;have X:=ok.x3 _ (ZM hi);unfold Dt;split;exact X;split;exact List.Nodup.sublist List.filter_sublist X;exact oI;have nw:∀(xs:List Pt) (m:Nat),y∈wK (eX q.ks q.vs q.G (bp ss)) (bp ss) (nd+1) xs m->y.hs.Nodup:=by
  intro xs;induction xs with
  |nil=>intro m h;cases h
  |cons x xs ih=>intro m h;rw[wK]at h;rcases Za.mp h with h|h;unfold Bv at h;split at h;obtain⟨i,hi,rfl⟩:=zzE.mp h;exact oI;cases h;exact ih _ h
 exact nw _ _ h;rcases Za.mp hy with h|h;exact ok.g1 y h;exact hk y (pE u y h);refine Zw.mpr ⟨ok.g2,pF g.2.2,λa ha b hb e=>?_⟩;subst e;unfold qX at de;have:=zzI.mp de a hb;rw[bJ]at this;exact this (zX ha);exact bW (by simp[Rx.errs])
end
inductive Dd where
 |grant (ss:List Str)|sever (a:Str) (z:Int)|hand (a:Str) (z tz:Int) (ss:List Str)|follow (a b:Str)|die (ss:List Str)
noncomputable def Dd.row(d:Dd)(g:W):List W:=match d with
 |.grant _=>[.str "grant",g]
 |.sever a z=>[.str "sever",.str a,.int z]
 |.hand a z tz _=>[.str "hand",.str a,.int z,.int tz,g]
 |.follow a b=>[.str "follow",.str a,.str b]
 |.die _=>[.str "die",g]
noncomputable def Dd.grp:Dd->List Str
 |.grant ss=>ss
 |.hand _ _ _ ss=>ss
 |.die ss=>ss
 |_=>[]
noncomputable def LG:W->Str
 |.str s=>s
 |_=>dM
noncomputable def v7(ks vs:List Str)(a b:Str):List Str×List Str:=((dO ks (vs.map W.str) a (.str b)).1,(dO ks (vs.map W.str) a (.str b)).2.map LG)
theorem sL{ks vs:List Str}{a b:Str}(hl:ks.length=vs.length):dO ks (vs.map W.str) a (.str b)=((v7 ks vs a b).1,(v7 ks vs a b).2.map W.str)/\(v7 ks vs a b).1.length=(v7 ks vs a b).2.length/\(v7 ks vs a b).1.length<=ks.length+1/\∀u∈(v7 ks vs a b).2,u=b\/u∈vs:=by
 obtain⟨k2,us,e,l1,l2,l3,_⟩:=AJ ks vs a b hl;have e2:v7 ks vs a b=(k2,us):=by unfold v7;rw[e,zzm];exact congrArg (Prod.mk k2) ((zzs  λx _=>rfl).trans (List.map_id _))
 simp_all
noncomputable def bY(R:Rx)(ks:List Str)(q:Sd)(nd:Nat):Dd->Out
 |.grant ss=>cZ R ks q nd ss
 |.sever a z=>fH R ks q nd a z
 |.hand a z tz ss=>gD R ks q nd a z tz ss
 |.follow a b=>dk R ks q nd a b (v7 q.ks q.vs a b).1 (v7 q.ks q.vs a b).2
 |.die ss=>nQ R ks q nd ss
def Dd.Fit:Dd->Prop
 |.grant ss=>ss.length<64/\∀s∈ss,aG s
 |.sever a z=>aG a/\z.natAbs<10^100
 |.hand a z tz ss=>aG a/\z.natAbs<10^100/\tz.natAbs<10^100/\ss.length<64/\∀s∈ss,aG s
 |.follow a b=>aG a/\aG b
 |.die ss=>ss.length<64/\∀s∈ss,aG s
noncomputable abbrev gE:E:=.ix V1 (.neg (.con (.int 1)))
noncomputable abbrev uv(sv fl gr hd di : Nat) : List S := [.if_ (.cmp .Eq (.ix V1 (.con (.int 0))) (.con (.str "sever"))) [.ret (.mth sv V0 [(.ix V1 (.con (.int 1))), (.ix V1 (.con (.int 2)))])] [],
 .if_ (.cmp .Eq (.ix V1 (.con (.int 0))) (.con (.str "follow"))) [.ret (.mth fl V0 [(.ix V1 (.con (.int 1))),(.ix V1 (.con (.int 2)))])] [],
 .asg 2 (.ix (.lst [(.blt .tuple [gE]),(.blt .list [gE])]) (.bin .Mod (.blt .len [gE]) (.con (.int 2)))),
 .if_ (.cmp .Eq (.ix V1 (.con (.int 0))) (.con (.str "grant"))) [.ret (.mth gr V0 [V2])] [],
 .if_ (.cmp .Eq (.ix V1 (.con (.int 0))) (.con (.str "hand"))) [.ret (.mth hd V0 [(.ix V1 (.con (.int 1))),(.ix V1 (.con (.int 2))),(.ix V1 (.con (.int 3))),V2])] [],
 .ret (.mth di V0 [V2])]
noncomputable abbrev rK(ss:List Str):W:=if ss.length%2=0 then .tup (ss.map W.str) else .lst (ss.map W.str)
theorem oQ(ss):Seq (rK ss) (ss.map W.str):=by unfold rK;split;exact .inr rfl;exact .inl rfl
theorem aF(ht:Seq t ws)(e:L2.atI ws i=some w):dC t (.int i) h=.ok w h:=by rcases ht with rfl|rfl;exact rT e;unfold dC seqA eK seqL;simp_all
section
variable {fw:Nat}{tb:List Fn}{R:Rx}{q:Sd}{P:List Str}{n m:Nat}{ws:List W}{h:aa}{ks:List Str}
noncomputable def Dd.num(R:Rx):Dd->Nat
 |.grant _=>R.gr
 |.sever _ _=>R.sv
 |.hand _ _ _ _=>R.hd
 |.follow _ _=>R.fl
 |.die _=>R.di
noncomputable def Dd.args:Dd->List W
 |.grant ss=>[rK ss]
 |.sever a z=>[.str a,.int z]
 |.hand a z tz ss=>[.str a,.int z,.int tz,rK ss]
 |.follow a b=>[.str a,.str b]
 |.die ss=>[rK ss]
theorem kM:xk cf fw b (bnd r λw h=>.ok (.ret w) h)=bnd r λw h=>.ok (.ret w) h:=by cases r<;>rfl
theorem JA(d){f:Nat}(hc:tb[f]?=some ⟨2,3,uv R.sv R.fl R.gr R.hd R.di,none⟩)(D:Dd)(ht:Seq t (D.row g))(hg:Seq g (D.grp.map W.str))(c:ae fw tb (d+7) (D.num R) (gn ks m::D.args) h=gh m ws q h o) :
  ae fw tb (d+8) f [gn ks m,t] h=gh m ws q h o:=by
 have gt:∀{ss:List Str},Seq g (ss.map W.str)->bA .tuple [g] h=.ok (.tup (ss.map W.str)) h/\bA .list [g] h=.ok (.lst (ss.map W.str)) h/\bA .len [g] h=.ok (aq ss.length) h:=λhg=>by rcases hg with rfl|rfl<;>exact⟨rfl,rfl,congrArg (λn=>Res.ok (aq n) h) (zo ..)⟩
 have gi:∀{ss:List Str},dC (.lst [.tup (ss.map W.str),.lst (ss.map W.str)]) (.int ((ss.length:Int).fmod 2)) h=.ok (rK ss) h:=λ{ss}=>by rw[show((ss.length:Int).fmod 2)=((ss.length%2:Nat):Int) from iO ss.length 2];unfold rK;rcases Nat.mod_two_eq_zero_or_one ss.length with e|e<;>rw[e];exact Ef;exact Jj
 rw[af hc rfl]
 cases D<;>simp only[Dd.num,Dd.args,Dd.grp]at c hg
 case sever=>simp! [kM,aF (i:=0) ht rfl,aF (i:=1) ht rfl,aF (i:=2) ht rfl,jo,c,cP]
 case follow=>simp! [kM,aF (i:=0) ht rfl,aF (i:=1) ht rfl,aF (i:=2) ht rfl,jo,c,cP]
 case grant=>simp! [kM,aF (i:=0) ht rfl,aF (i:=-1) ht rfl,gt hg,gi,eL h (show(2:Int)≠0 by decide),jo,c,cP]
 case hand=>simp! [kM,aF (i:=0) ht rfl,aF (i:=1) ht rfl,aF (i:=2) ht rfl,aF (i:=3) ht rfl,aF (i:=-1) ht rfl,gt hg,gi,eL h (show(2:Int)≠0 by decide),jo,c,cP]
 case die=>simp! [kM,aF (i:=0) ht rfl,aF (i:=-1) ht rfl,gt hg,gi,eL h (show(2:Int)≠0 by decide),jo,c,cP]
theorem KN(T:R.In tb)(U:R.toIx.Dh tb)(hf:2^2010<=fw)(d)(hc:tb[f]?=some ⟨2,3,uv R.sv R.fl R.gr R.hd R.di,none⟩)(D)(ok:q.Ok P n)(hn:h[m]?=some (.lst (ws++[q.W])))(n4:n<=400)(hl:ws.length<=900)(hP:P.length<=30)(nP:∀y∈P,aG y)(hk:∀y∈ks,y∈P)(ht:Seq t (D.row g))(hg:Seq g (D.grp.map W.str))(fit:D.Fit) :
  ae fw tb (d+8) f [gn ks m,t] h=gh m ws q h (bY R ks q ws.length D):=by
 refine JA d hc D ht hg ?_
 cases D with
 |sever a z=>exact Iz   (z:=z) T hf d ok hn n4 hl fit.1 fit.2
 |follow a b=>exact Dr (fw:=fw) (ks:=ks) T (d+3) ok hn n4 hl fit.1 fit.2 (sL (a:=a) (b:=b) ok.k1).1
 |grant ss=>exact Gm  (ks:=ks) T (d+3) ok hn hl (oQ ss) fit.1 fit.2
 |hand a z tz ss=>exact K1 (fw:=fw) (ks:=ks) (z:=z) (tz:=tz) T hf d ok hn n4 hl fit.1 fit.2.1 fit.2.2.1 (oQ ss) fit.2.2.2.1 fit.2.2.2.2
 |die ss=>exact ND (fw:=fw) (ks:=ks) T U hf d ok hn n4 hl hP nP hk (oQ ss) fit.1 fit.2
theorem kD{nd:Nat}{D:Dd}(ok:q.Ok P n)(nP:∀y∈P,aG y)(hk:∀y∈ks,y∈P)(fit:D.Fit):(bY R ks q nd D).Ok R P (n+1):=by
 cases D with
 |sever a z=>exact Bo ok fit.1
 |follow a b=>have z:=sL (a:=a) (b:=b) ok.k1;exact xc ok hk z.2.1 z.2.2.1 z.2.2.2
 |grant ss=>exact AS ok fit.2
 |hand a z tz ss=>exact DA ok fit.2.2.2.2
 |die ss=>exact Fh ok nP hk
end
theorem Bu(ee:evE cf e σ h=.exc c h1)(ha:all.contains c=true):exS cf fw (.tryF e i cs all) σ h=.ok (.nx ((σ.map λ_=>none).set i (some (.lst (cs.map λk=>.bl (decide (c=k))))))) h1:=by rw[exS];simp_all
theorem BE(ee:evE cf e σ h=.ok w h1):exS cf fw (.tryF e i cs all) σ h=.ok (.ret w) h1:=by rw[exS,ee]
noncomputable def Ml:W->Option Nat
 |.int i=>some i.toNat
 |_=>none
theorem BZ(y:Nat):Ml (W.int (0+(y)))=some y:=by rw[Int.zero_add];rfl
theorem vS{cf:CF}{is:List Nat}{n m:Nat}{a c elt:E}{σ:ag}{h:aa}{p:Nat->Bool}{F:Nat->W}(ea:evE cf a σ h=.ok (aq m) h)(hm:m<=1000)
  (hF:∀k,k<m->∃σ',aV is (aq k) (kA is σ++List.replicate n none)=some σ'/\(∀hh,bw cf c σ' hh=.ok (p k) hh)/\(p k=true->ak (F k)=true/\∀hh,evE cf elt σ' hh=.ok (F k) hh)):evE cf (.compR is n [a] [c] elt) σ h=.ok (.lst (((List.range m).filter p).map F)) h:=by
 rw[evE,aj ea ay,bnd_ok]
 have hr:lQ [aq m]=some ((List.range m).map λ(k:Nat)=>W.int (0+(k:Int))):=by have cc:-(2^62)<=((m:Nat):Int)/\((m:Nat):Int)<2^62:=ZzL;rw[cM];unfold jV;dsimp only;rw[zF cc,Zt]
 rw[hr]
 dsimp only
 refine F0 Ml BZ (λk e=>by cases e) (by rw[ZX];exact hm) λk hk=>?_
 grind
noncomputable def wds:List Str:=["BadGroup","Unknown","Dead","NotGranted","GrantedBefore","NoPart","NotHeld","BadPiece","TooManyParts","TooManyDeeds"]
noncomputable abbrev tenL:List Nat:=[1,2,3,4,5,6,7,8,9,10]
theorem OR:∀k,k<10->tenL[k]?=some (k+1):=ZzD
theorem De:∀c,c<10->(List.range 10).filter (λk=>decide (c+1=k+1))=[c]:=ZzD
noncomputable abbrev Ms(cl : Nat)(all : List Nat) : List S := [.asg 3 (.lst []),
 .tryF (.call cl [V0,V1]) 3 tenL all,
 .asg 4 (.lst [(.con (.str "BadGroup")),(.con (.str "Unknown")),(.con (.str "Dead")),(.con (.str "NotGranted")),(.con (.str "GrantedBefore")),(.con (.str "NoPart")),(.con (.str "NotHeld"))]),
 .asg 4 (.bin .Add V4 (.lst [(.con (.str "BadPiece")),(.con (.str "TooManyParts")),(.con (.str "TooManyDeeds"))])),
 .ret (.blt .tuple [(.compR [5] 1 [(.con (.int 10))] [(.ix V3 V5)] (.ix V4 V5))])]
theorem HA(hc:c<10)(ha:all.contains (c+1)=true)(e:cf cl [r,w] h=.exc (c+1) h):aA cf fw (Ms cl all) [some r,some w,none,none,none] h=.ok (.ret (.tup [.str (wds.getD c Str.empty)])) h:=by let fl:W:=.lst (tenL.map λk=>.bl (decide (c+1=k)));let τ:ag:=[none,none,none,some fl,some (.lst (wds.map W.str))];refine(ai (bz (cj ay ZzD))).trans ((ai (Bu (cW (U0 rfl) (U1 rfl) e) ha)).trans ((ai (bz (cj (aj av (aj av (aj av (aj av (aj av (aj av (aj av ay))))))) (by show 7<=1000;decide)))).trans ((ai (σ':=τ) (bz (Ba (us:=(wds.take 7).map W.str) (vs:=(wds.drop 7).map W.str) (U4 rfl) (cj (aj av (aj av (aj av ay))) (by show 3<=1000;decide)) (by show 10<=1000;decide)))).trans ((a7 (aQ (gU (vS (m:=10)   av ZzD λk hk=>⟨[none,none,none,some fl,some (.lst (wds.map W.str)),some (aq k)],rfl,λhh=>?_,λ_=>⟨rfl,λhh=>?_⟩⟩)))).trans (by rw[De c hc];rfl)))));exact bD (bO (U3 rfl) (U5 rfl) (cy (k:=k) (t:=fl) rfl (by rw[zT,OR k hk];rfl)));refine bO (U4 rfl) (U5 rfl) (cy (k:=k) (t:=.lst (wds.map W.str)) rfl ?_);rw[zT,List.getD_eq_getElem?_getD,zJ (show k<wds.length from hk)];rfl
noncomputable def Ol(m:Nat)(ws:List W)(q:Sd)(h:aa):Out->Res W
 |.no c=>.ok (.tup [.str (wds.getD (c-1) Str.empty)]) h
 |.ok q'=>.ok (aq (ws.length+1)) (h.set m (.lst (ws++[q.W]++[q'.W])))
section
variable {fw:Nat}{tb:List Fn}{R:Rx}{q:Sd}{P:List Str}{n m:Nat}{ws:List W}{h:aa}{ks:List Str}
theorem Qe(d)(hd:tb[f]?=some ⟨2,5,Ms cl all,none⟩)(hal:∀c∈tenL,all.contains c=true)(c:ae fw tb (d+8) cl [gn ks m,t] h=gh m ws q h o)(ho:∀k,o=.no k->k∈tenL):ae fw tb (d+9) f [gn ks m,t] h=Ol m ws q h o:=by
 rw[af hd rfl];cases o with
 |no k=>
  have o':=ho k rfl;have k1:1<=k/\k<=10:=by revert o';simp;omega
  obtain⟨j,rfl⟩:∃j,k=j+1:=⟨k-1,ZzL⟩;exact eO (HA ZzL (hal _ o') c) (fP rfl)
 |ok q'=>exact eO ((ai (bz (cj ay ZzD))).trans (a7 (BE (cW (U0 rfl) (U1 rfl) c)))) q9
theorem Pz(T:R.In tb)(U:R.toIx.Dh tb)(er:R.errs=tenL)(hf:2^2010<=fw)(d:Nat)(hd:tb[f]?=some ⟨2,5,Ms cl all,none⟩)(hal:∀c∈tenL,all.contains c=true)(hc:tb[cl]?=some ⟨2,3,uv R.sv R.fl R.gr R.hd R.di,none⟩)(D:Dd)(ok:q.Ok P n)(hn:h[m]?=some (.lst (ws++[q.W])))(n4:n<=400)(hl:ws.length<=900)(hP:P.length<=30)(nP:∀y∈P,aG y)(hk:∀y∈ks,y∈P)(ht:Seq t (D.row g))(hg:Seq g (D.grp.map W.str))(fit:D.Fit) :
  ae fw tb (d+9) f [gn ks m,t] h=Ol m ws q h (bY R ks q ws.length D):=by
 refine Qe d hd hal (KN T U hf d hc D ok hn n4 hl hP nP hk ht hg fit) λk e=>?_
 have o:=kD (R:=R) (nd:=ws.length)  ok nP hk fit
 rw[e]at o
 rw[<- er]
 exact o
end
theorem uw{cf:CF}{a:E}{t:Ty}{σ:ag}{h:aa}{x:W}{b:Bool}(ea:evE cf a σ h=.ok x h)(e:bq h x t=some b):bw cf (.isi a [t]) σ h=.ok b h:=by refine(bD (HR (bs:=[b]) ea ?_)).trans ?_;simp[List.mapM_cons,e];simp
section
variable {fw:Nat}{tb:List Fn}{h:aa}
end
noncomputable abbrev lF(lo be : Nat) : List S := [.unp [4, 5, 6] (.ix V0 (.bin .Sub V1 (.con (.int 1)))),
 .asg 7 (.blt .len [V5]),
 .asg 8 (.blt .tuple [(.compS [12] 1 V5 [(.cmp .NotEq Dm V2)] Dm)]),
 .asg 9 (.call lo [(.bin .Mult (.ix V4 (.con (.int 0))) (.bin .Sub V7 (.con (.int 1)))),(.bin .Mult (.ix V4 (.con (.int 1))) V7)]),
 .asg 10 (.call lo [(.ix V4 (.con (.int 0))),(.bin .Mult (.ix V4 (.con (.int 1))) V7)]),
 .fresh 11 (.blt .list [V0]),
 .setix vf (.bin .Sub V1 (.con (.int 1))) (.call be [V6,V3,V1,V9,V8]),
 .ret (.bin .Add vf (.lst [(.call be [V6, V3, (.bin .Add (.blt .len [V0]) (.con (.int 1))), eC, (.tup [V2])])]))]
noncomputable abbrev oF(lo be : Nat) : List S := [.unp [5, 6, 7] (.ix V0 (.bin .Sub V1 (.con (.int 1)))),
 .fresh 8 (.blt .list [V0]),
 .if_ (.cmp .Eq V2 xq) [.setix V8 (.bin .Sub V1 (.con (.int 1))) (.call be [V7,V4,V1,V5,V3]),
 .ret V8] [],
 .asg 9 (.call lo [(.bin .Mult (.ix V5 (.con (.int 0))) (.bin .Sub xq V2)),(.bin .Mult (.ix V5 (.con (.int 1))) xq)]),
 .asg 10 (.call lo [(.bin .Mult (.ix V5 (.con (.int 0))) V2),(.bin .Mult (.ix V5 (.con (.int 1))) xq)]),
 .setix V8 (.bin .Sub V1 (.con (.int 1))) (.call be [V7,V4,V1,V9,V6]),
 .ret (.bin .Add V8 (.lst [(.call be [V7, V4, (.bin .Add (.blt .len [V0]) (.con (.int 1))), eC, V3])]))]
section
variable {fw:Nat}{tb:List Fn}{xs:List Pt}{x:Pt}{n k dd:Nat}{name:Str}{h:aa}{f lo be:Nat}
theorem qy(hl:us.length+vs.length<=1000):ip .Add (.ref h.length) (.lst vs) (h++[.lst us])=.ok (.lst (us++vs)) (h++[.lst us]):=by show BJ (cX (seqM _ _) (some vs) _)=_;simp only[seqM,aR,cX,zF (show us.length+vs.length<=sizeLine by rw[PySem.sizeLine_eq];lia)];rfl
theorem NA{a b:Nat}(hb:b<=20):ip .Mult (.int (a)) (.int (b)) h=.ok (aq (a*b)) h:=(oo h (eJ hb)).trans (rfl)
theorem KQ{a:Nat}:ip .Mult (.int (a)) (.int 20) h=.ok (aq (a*20)) h:=NA  ZzS
theorem xG(hs:tb[f]?=some ⟨4,12,lF lo be,none⟩)(hlo:tb[lo]?=some ⟨2,4,jN,none⟩)(hbe:tb[be]?=some ⟨5,5,bE,none⟩)(hf:2^2010<=fw)(d:Nat)(hxs:∀x∈xs,x.R n)(hn:n<=400)(hl:xs.length<=60)(h1:1<=k)(hk:xs[k-1]?=some x) :
  ae fw tb (d+2) f [.lst (xs.map aI),aq k,.str name,aq dd] h=.ok (.lst ((kZ xs x k name dd).map aI)) h:=by
 have hx:x.R n:=hxs x (zC hk)
 have X:=zC hk
 have hk1:k-1<xs.length:=(ze.mp hk).1
 have hh0:=hx.h0
 have hh6:=hx.h1
 have htl:x.tr.length<=1000:=zf hx.tl ZzL
 have hb:x.q*x.hs.length<2^2010:=zQ (Z8 hx.qb (show x.hs.length<=20 by lia)) (jH hn)
 have hb9:x.q*x.hs.length<2^9000:=zj hb (z9 ZzD ZzD)
 have hqp:0<x.q*x.hs.length:=Nat.mul_pos hx.q0 ZzL
 have ix:∀hh,dC (.lst (xs.map aI)) (.int ((k-1:Nat):Int)) hh=.ok (.tup [sh x.p x.q,.tup (x.hs.map W.str),.tup x.tr]) hh:=λhh=>xg h1 hk
 have l:=λa=>jz (fw:=fw) hlo d a (x.q*x.hs.length) h (zj hb hf) hqp hb9
 have r2:=λhh=>aS (fw:=fw) hbe d dd (xs.length+1) (jS (x.p*1) (x.q*x.hs.length)) [name] x.tr hx.pu htl hh
 have cm:∀a b c e,evE (ae fw tb (d+1)) (.compS [12] 1 V5 [(.cmp .NotEq Dm V2)] Dm) [some (.lst (xs.map aI)),some (aq k),some (.str name),some (aq dd),some (sh x.p x.q),some (.tup (x.hs.map W.str)),some (.tup x.tr),some (aq x.hs.length),a,b,c,e] h=.ok (.lst ((Fi x name).map W.str)) h:=λ_ _ _ _=>fb (p:=λs=>!decide (s=name)) (U5 rfl) rfl ZzL (λs _ hh=>Ah (ao (i:=12) rfl) (U2 rfl)) (by show 12<12+1;decide)
 have hp:=kK (k:=k) (name:=name) (dd:=dd) hxs X
 rw[kG,Nat.mul_one]at hp ⊢
 rw[Nat.mul_one]at r2
 simp_arith at r2
 rw[af hs rfl]
 simp! [h1,ix,cm,NA,show x.hs.length<=20 by lia,show x.hs.length-1<=20 by lia,hh0,l,aZ hxs,aS hbe _ _ _ (jS _ _) _ _ hx.pu htl,r2,aL hx.pu,iL hk1,qy,show xs.length+1<=1000 by lia,oz hp,seqA,eK,seqL,Option.or]
theorem Dx{tw:Nat}{to:List Str}(hs:tb[f]?=some ⟨5,11,oF lo be,none⟩)(hlo:tb[lo]?=some ⟨2,4,jN,none⟩)(hbe:tb[be]?=some ⟨5,5,bE,none⟩)(hf:2^2010<=fw)(d:Nat)(htw:tw<=20)(hxs:∀x∈xs,x.R n)(hn:n<=400)(hl:xs.length<=60)(h1:1<=k)(hk:xs[k-1]?=some x) :
  ae fw tb (d+2) f [.lst (xs.map aI),aq k,aq tw,.tup (to.map W.str),aq dd] h=.ok (.lst ((eM xs x k tw to dd).map aI)) h:=by
 have hx:x.R n:=hxs x (zC hk)
 have X:=zC hk
 have hk1 :=(ze.mp hk).1
 have htl:x.tr.length<=1000:=zf hx.tl ZzL
 have hb :=zQ (Z8 hx.qb (zD 20)) (jH hn)
 have hqp:0<x.q*20:=Nat.mul_pos hx.q0 ZzD
 have ix:∀hh,dC (.lst (xs.map aI)) (.int ((k-1:Nat):Int)) hh=.ok (.tup [sh x.p x.q,.tup (x.hs.map W.str),.tup x.tr]) hh:=λhh=>xg h1 hk
 have l:=λa hh=>jz (fw:=fw) hlo d a (x.q*20) hh (zj hb hf) hqp (zj hb (z9 ZzD ZzD))
 have hp:=fm (k:=k) (tw:=tw) (to:=to) (dd:=dd) hxs X
 have ik:=iL hk1
 have r:=λn s hs hh=>aS (fw:=fw) hbe d dd n s hs x.tr hx.pu htl hh
 rw[ji]at hp ⊢
 rw[af hs rfl]
 by_cases ht:tw=20
 ·simp! [ht,Int.cast_ofNat_Int,h1,ix,aZ hxs,r k (x.p,x.q),aL hx.pu,ik,vo,seqA,eK,seqL,Option.or]
 ·rw[zM ht]at hp
  simp! [ht,h1,ix,aZ hxs,NA,KQ,htw,show 20-tw<=20 by lia,show(20:Int)-tw=(20-tw:Nat) by lia,l,r _ (jS _ _),aL hx.pu,ik,qy,show xs.length+1<=1000 by lia,oz hp,seqA,eK,seqL,Option.or]
end
noncomputable abbrev pH(i:Nat)(s:String):E:=.cmp .Eq (.ix (.var i) (.con (.int 0))) (.con (.str s))
noncomputable abbrev mj : List S := [.if_ (pH 0 "sever") [.ret (.lst [(.ix V0 (.con (.int 1)))])] [],
 .if_ (pH 0 "follow") [.ret (.lst [(.ix V0 (.con (.int 1))),(.ix V0 (.con (.int 2)))])] [],
 .if_ (pH 0 "hand") [.ret (.bin .Add (.lst [(.ix V0 (.con (.int 1)))]) (.blt .list [(.ix V0 (.con (.int 4)))]))] [],
 .ret (.blt .list [(.ix V0 (.con (.int 1)))])]
noncomputable def Dd.per:Dd->List Str
 |.grant ss=>ss
 |.sever a _=>[a]
 |.hand a _ _ ss=>a::ss
 |.follow a b=>[a,b]
 |.die ss=>ss
theorem uT(ec:bw cf c σ h=.ok false h)(eb:evE cf b σ h=r):evE cf (.ite c a b) σ h=r:=by have ec':iz (evE cf c σ h)=.ok false h:=ec;rw[evE,ec',bnd_ok,zM ZzS,eb]
theorem vm(ec:bw cf c σ h=.ok true h)(ea:evE cf a σ h=r):evE cf (.ite c a b) σ h=r:=by have ec':iz (evE cf c σ h)=.ok true h:=ec;rw[evE,ec',bnd_ok,zF rfl,ea]
section
variable {fw:Nat}{tb:List Fn}{h:aa}
theorem AN{f:Nat}(hf:tb[f]?=some ⟨1,1,mj,none⟩)(d:Nat)(D:Dd){t g:W}(ht:Seq t (D.row g))(hg:Seq g (D.grp.map W.str))(hl:D.grp.length<=900):ae fw tb (d+1) f [t] h=.ok (.lst (D.per.map W.str)) h:=by
 have F:J.fin h.length (.ok (.ret (.lst (D.per.map W.str))) h)=.ok (.lst (D.per.map W.str)) h:=jK (by rw[ak];exact ax _);have L:bA .list [g] h=.ok (.lst (D.grp.map W.str)) h:=by rcases hg with rfl|rfl<;>rfl
 rw[af hf rfl];cases D<;>simp only[Dd.per,Dd.grp,zO,Zy]at F L hl ⊢;case hand a z tz ss=>simp! [aF (i:=0) ht rfl,aF (i:=1) ht rfl,aF (i:=4) ht rfl,jo,L,fZ (us:=[.str a]) (vs:=ss.map W.str) (by rw[zo];show 1+ss.length<=1000;lia),F]
 case follow=>simp! [aF (i:=0) ht rfl,aF (i:=1) ht rfl,aF (i:=2) ht rfl,jo,F]
 all_goals simp! [aF (i:=0) ht rfl,aF (i:=1) ht rfl,jo,L,F]
noncomputable abbrev j3 : List S := [.if_ (.or_ (pH 0 "sever") (pH 0 "follow")) [.ret (.con (.bl false))] [],
 .asg 1 (.ite (pH 0 "hand") (.ix V0 (.con (.int 4))) (.ix V0 (.con (.int 1)))),
 .asg 2 (.ite (pH 0 "die") (.con (.int 30)) (.con (.int 6))),
 .ret (.or_ (.cmp .Lt (.blt .len [V1]) (.con (.int 1))) (.or_ (.cmp .Gt (.blt .len [V1]) V2) (.cmp .NotEq (.slen V1) (.blt .len [V1]))))]
noncomputable def Dd.most:Dd->Nat
 |.die _=>30
 |_=>6
noncomputable def Dd.bad:Dd->Bool
 |.sever _ _=>false
 |.follow _ _=>false
 |D=>!decide (1<=D.grp.length/\D.grp.length<=D.most/\D.grp.Nodup)
theorem wq{f:Nat}(hf:tb[f]?=some ⟨1,3,j3,none⟩)(d:Nat)(D:Dd){t g:W}(ht:Seq t (D.row g))(hg:Seq g (D.grp.map W.str))(hl:D.grp.length<64):ae fw tb (d+1) f [t] h=.ok (.bl D.bad) h:=by
 have S:(seqA h g).bind cu=some D.grp:=by rw[hg.seqA h,Option.bind_some,dE]
 have L:bA .len [g] h=.ok (aq D.grp.length) h:=by rcases hg with rfl|rfl<;>exact congrArg (λn=>Res.ok (aq n) h) (zo ..)
 have nn (k:Nat):(decide (D.grp.length<1)||(decide (k<D.grp.length)||!decide ((jm D.grp).length=D.grp.length)))=!decide (1<=D.grp.length/\D.grp.length<=k/\D.grp.Nodup):=by
  have e:((jm D.grp).length=D.grp.length)↔D.grp.Nodup:=⟨λe=>by
   by_cases q:D.grp.Nodup
   ·exact q
   ·have:=t6 _ q;lia,λq=>jA _ q⟩
  simp only[e]
  clear L
  grind
 rw[af hf rfl]
 cases D<;>simp only[Dd.grp]at L S nn hl
 case sever=>simp! [aF (i:=0) ht rfl,jo,pX];rfl
 case follow=>simp! [aF (i:=0) ht rfl,jo,pX];rfl
 case hand=>simp! [aF (i:=0) ht rfl,aF (i:=4) ht rfl,jo,L,S,hl,pX];exact .trans (by congr) (congrArg (λb=>Res.ok (W.bl b) h) (nn _))
 all_goals simp! [aF (i:=0) ht rfl,aF (i:=1) ht rfl,jo,L,S,hl,pX];exact .trans (by congr) (congrArg (λb=>Res.ok (W.bl b) h) (nn _))
end
noncomputable abbrev kX : List S := [.if_ (.or_ (pH 1 "follow") (pH 1 "die")) [.ret (.con (.str ""))] [],
 .if_ (.or_ (.cmp .Lt (.ix V1 (.con (.int 2))) (.con (.int 1))) (.cmp .Gt (.ix V1 (.con (.int 2))) (.blt .len [V0]))) [.ret (.con (.str "NoPart"))] [],
 .asg 2 (.ix (.ix V0 (.bin .Sub (.ix V1 (.con (.int 2))) (.con (.int 1)))) (.con (.int 1))),
 .if_ (pH 1 "sever") [.ret (.ite (.and_ (.cmp .In (.ix V1 (.con (.int 1))) V2) (.cmp .Gt (.blt .len [V2]) (.con (.int 1)))) (.con (.str "")) (.con (.str "NotHeld")))] [],
 .if_ (.cmp .NotEq V2 (.tup [(.ix V1 (.con (.int 1)))])) [.ret (.con (.str "NotHeld"))] [],
 .ret (.ite (.and_ (.cmp .GtE (.ix V1 (.con (.int 3))) (.con (.int 1))) (.cmp .LtE (.ix V1 (.con (.int 3))) xq)) (.con (.str "")) (.con (.str "BadPiece")))]
noncomputable def ug(xs:List Pt):Dd->Str
 |.sever a z=>if dJ z xs.length=true then "NoPart" else match xs[z.toNat-1]? with
  |none=>"NoPart"
  |some x=>if my x a=true then "NotHeld" else ""
 |.hand a z tz _=>if dJ z xs.length=true then "NoPart" else match xs[z.toNat-1]? with
  |none=>"NoPart"
  |some x=>if E3 x.hs [a]=false then "NotHeld" else if iN tz=true then "BadPiece" else ""
 |_=>""
section
variable {fw:Nat}{tb:List Fn}{h:aa}{xs:List Pt}{n:Nat}
theorem AG{c:Prop} [Decidable c]{a b:Str}:Res.ok (W.str (if c then a else b)) h=if c then .ok (.str a) h else .ok (.str b) h:=by split<;>rfl
theorem xH{f:Nat}(hf:tb[f]?=some ⟨2,3,kX,none⟩)(d:Nat)(D:Dd){t g:W}(hD:∀ss,D≠.grant ss)(ht:Seq t (D.row g))(hxs:∀x∈xs,x.R n)(fit:D.Fit):ae fw tb (d+1) f [.lst (xs.map aI),t] h=.ok (.str (ug xs D)) h:=by
 rw[af hf rfl]
 have out:∀{z:Int},dJ z xs.length=true->z<1\/(xs.length:Int)<z:=λb=>by simpa [dJ] using b
 cases D with
 |grant ss=>exact absurd rfl (hD ss)
 |follow a b=>simp! [aF (i:=0) ht rfl,jo,ug,cQ]
 |die ss=>simp! [aF (i:=0) ht rfl,jo,ug,cQ]
 |sever a z =>
  have i0:=aF (h:=h) (i:=0) ht rfl
  have i1:=aF (h:=h) (i:=1) ht rfl
  have i2:=aF (h:=h) (i:=2) ht rfl
  by_cases b:dJ z xs.length=true
  ·simp! [i0,i2,jo,ug,b,out b,cQ]
  ·obtain⟨k,rfl,k1,k2⟩:=sP (Zp _ |>.mp b)
   obtain⟨x,hk⟩:∃x,xs[k-1]?=some x:=⟨_,zJ ZzL⟩
   have ln:(x.hs.length<2)=¬ 1<x.hs.length:=by simp;lia
   by_cases l:1<x.hs.length<;>cases m:a9 a x.hs<;>simp! [i0,i1,i2,jo,ug,b,show ¬(k<1\/xs.length<k) by lia,k1,xg k1 hk,Zt,hk,my,ln,l,m,AG,cQ]
 |hand a z tz ss =>
  have i0:=aF (h:=h) (i:=0) ht rfl
  have i1:=aF (h:=h) (i:=1) ht rfl
  have i2:=aF (h:=h) (i:=2) ht rfl
  have i3:=aF (h:=h) (i:=3) ht rfl
  by_cases b:dJ z xs.length=true
  ·simp! [i0,i2,jo,ug,b,out b,cQ]
  ·obtain⟨k,rfl,k1,k2⟩:=sP (Zp _ |>.mp b)
   obtain⟨x,hk⟩:∃x,xs[k-1]?=some x:=⟨_,zJ ZzL⟩
   have nt:=J1 (h:=h) (us:=[a]) (hxs x (zC hk)).nm (by simpa using fit.1)
   simp_arith at nt
   have ln:(tz<1\/20<tz)=¬(1<=tz/\tz<=20):=by simp;lia
   by_cases l:1<=tz/\tz<=20<;>simp! [i0,i1,i2,i3,jo,ug,b,show ¬(k<1\/xs.length<k) by lia,k1,xg k1 hk,Zt,hk,nt,zz2,iN,ln,l,AG,cQ]
end
noncomputable abbrev E8:List S:=[.if_ (.cmp .Eq (.blt .len [(.compS [4] 1 (.ix V3 (.con (.int 1))) [(.cmp .NotIn V4 (.ix V1 (.con (.int 1))))] V4)]) (.con (.int 0))) [.asg 2 (.bin .Sub (.bin .Add V2 (.blt .len [(.ix V3 (.con (.int 1)))])) (.con (.int 1)))] []]
noncomputable abbrev xD : List S := [.if_ (pH 1 "sever") [.ret (.con (.int 1))] [],
 .if_ (pH 1 "hand") [.ret (.blt .int [(.cmp .Lt (.ix V1 (.con (.int 3))) xq)])] [],
 .asg 2 (.con (.int 0)),
 .if_ (pH 1 "die") [.for_ [3] (.seq V0) E8] [],
 .ret V2]
noncomputable def dZ(gs:List Str):List Pt->Nat
 |[]=>0
 |x::xs=>(if(aP x.hs gs).length=0 then x.hs.length-1 else 0)+dZ gs xs
noncomputable def Dd.more(xs:List Pt):Dd->Nat
 |.sever _ _=>1
 |.hand _ _ tz _=>if tz<20 then 1 else 0
 |.die ss=>dZ ss xs
 |_=>0
section
variable {fw:Nat}{tb:List Fn}{h:aa}{n:Nat}
theorem j9{cf:CF}{t g u:W}{ss:List Str}(ht:Seq t [.str "die",g])(hg:Seq g (ss.map W.str)):∀(xs:List Pt) (m:Nat) (r:Option W),(∀x∈xs,x.R n)->∃r',fo [3] (aA cf fw E8) (xs.map aI) [some u,some t,some (aq m),r] h=.ok (.nx [some u,some t,some (aq (m+dZ ss xs)),r']) h
 |[],m,r,_=>⟨r,by rw[Zy,fo];rfl⟩
 |x::xs,m,r,hx=>by have X:=hx x zN;have h0:=X.h0;have h6:=X.h1;have el:evE cf (.compS [4] 1 (.ix V3 (.con (.int 1))) [(.cmp .NotIn V4 (.ix V1 (.con (.int 1))))] V4) [some u,some t,some (aq m),some (aI x)] h=.ok (.lst ((aP x.hs ss).map W.str)) h:=fb (p:=λs=>!a9 s ss) (ss:=x.hs) (Jf (x:=x) (U3 rfl)) rfl ZzL (λs _ hh=>gG (U4 rfl) (bO (U1 rfl) av (aF ht rfl)) (hg.dic hh) (hg.seqA hh)) (by show 4<5;decide);by_cases q:(aP x.hs ss).length=0;obtain⟨r',e⟩:=j9 ht hg xs (m+x.hs.length-1) (some (aI x)) λy hy=>hx y (zB _ hy);refine⟨r',(cJ rfl (by simp! [dB,el,q,show 1<=m+x.hs.length by lia];rfl)).trans (e.trans ?_)⟩;rw[dZ,zF q,show m+x.hs.length-1+dZ ss xs=m+(x.hs.length-1+dZ ss xs) by lia];obtain⟨r',e⟩:=j9 ht hg xs m (some (aI x)) λy hy=>hx y (zB _ hy);refine⟨r',(cJ rfl (by simp! [dB,el,q];rfl)).trans (e.trans ?_)⟩;rw[dZ,zM q,ZV]
theorem K3{f:Nat}{xs:List Pt}(hf:tb[f]?=some ⟨2,4,xD,none⟩)(d:Nat)(D:Dd){t g:W}(ht:Seq t (D.row g))(hg:Seq g (D.grp.map W.str))(hxs:∀x∈xs,x.R n):ae fw tb (d+1) f [.lst (xs.map aI),t] h=.ok (aq (D.more xs)) h:=by
 rw[af hf rfl];cases D with
 |sever a z=>simp! [aF (i:=0) ht rfl,jo,Dd.more,gY];rfl
 |hand a z tz ss=>by_cases l:tz<20<;>(simp! [aF (i:=0) ht rfl,aF (i:=3) ht rfl,jo,Dd.more,l,gY];rfl)
 |grant ss=>simp! [aF (i:=0) ht rfl,jo,Dd.more,gY];rfl
 |follow a b=>simp! [aF (i:=0) ht rfl,jo,Dd.more,gY];rfl
 |die ss=>obtain⟨r,e⟩:=j9 (cf:=ae fw tb d) (fw:=fw) (h:=h) (u:=.lst (xs.map aI)) ht hg xs 0 none hxs;rw[ZV,show aq 0=.int 0 from rfl]at e;simp! [aF (i:=0) ht rfl,jo,Dd.more,e,gY];rfl
end
theorem gJ(s)(ss):a9 s (bp ss)=a9 s ss:=by rw[bJ,bJ];exact decide_eq_decide.mpr srt_mem
theorem vR(hs ss):aP hs (bp ss)=aP hs ss:=by unfold aP;congr 1;funext s;rw[gJ]
theorem nc(ss):∀xs,dZ (bp ss) xs=dZ ss xs
 |[]=>rfl
 |x::xs=>by rw[dZ,dZ,vR,nc ss xs]
theorem BP:(Bv heir g dd m x).length=if(aP x.hs g).length=0 then x.hs.length-1 else 0:=by
 unfold Bv
 grind
theorem uJ:∀xs m,(wK heir g dd xs m).length=dZ g xs
 |[],_=>rfl
 |x::xs,m=>by rw[wK,zA,BP,uJ xs,dZ]
theorem pO:(iw heir g dd xs).length=xs.length+dZ g xs:=by unfold iw;rw[zA,ZJ,uJ]
theorem ke(p)(ss):(bp ss).any p=ss.any p:=by rw[zzY,List.any_eq_true,List.any_eq_true];exact⟨λ⟨s,hs,e⟩=>⟨s,srt_mem.mp hs,e⟩,λ⟨s,hs,e⟩=>⟨s,srt_mem.mpr hs,e⟩⟩
theorem uR:kR ks (bp ss)=kR ks ss:=ke _ _
noncomputable def Out.word:Out->Str
 |.no c=>wds.getD (c-1) Str.empty
 |.ok _=>""
noncomputable abbrev OI(op:CmpOp)(i:Nat):E:=.cmp .Gt (.blt .len [(.compS [9] 1 V6 [(.cmp op V9 (.var i))] V9)]) (.con (.int 0))
noncomputable abbrev IW(gb pe pd mo : Nat) : List S := [.unp [3, 8, 4, 5] V0,
 .if_ (.call gb [V1]) [.ret (.con (.str "BadGroup"))] [],
 .asg 6 (.call pe [V1]),
 .if_ (OI .NotIn 2) [.ret (.con (.str "Unknown"))] [],
 .if_ (OI .In 8) [.ret (.con (.str "Dead"))] [],
 .if_ (pH 1 "grant") [.ret (.ite (.cmp .Gt (.blt .len [V5]) (.con (.int 0))) (.con (.str "GrantedBefore")) (.con (.str "")))] [],
 .if_ (.cmp .Eq (.blt .len [V5]) (.con (.int 0))) [.ret (.con (.str "NotGranted"))] [],
 .asg 7 (.call pd [V3,V1]),
 .if_ (.and_ (.cmp .Eq V7 (.con (.str ""))) (.cmp .Gt (.bin .Add (.blt .len [V3]) (.call mo [V3,V1])) (.con (.int 60)))) [.ret (.con (.str "TooManyParts"))] [],
 .if_ (.and_ (.cmp .Eq V7 (.con (.str ""))) (.cmp .GtE (.blt .len [V5]) (.con (.int 200)))) [.ret (.con (.str "TooManyDeeds"))] [],
 .ret V7]
noncomputable def Dd.isG:Dd->Bool
 |.grant _=>true
 |_=>false
noncomputable def l7(P G:List Str)(xs:List Pt)(nd:Nat)(D:Dd):Str:=if D.bad=true then "BadGroup" else if kR P D.per=true then "Unknown" else if(D.per.any λs=>a9 s G)=true then "Dead" else if D.isG=true then(if 0<nd then "GrantedBefore" else "") else if nd=0 then "NotGranted" else
 if ug xs D=""/\60<xs.length+D.more xs then "TooManyParts" else if ug xs D=""/\200<=nd then "TooManyDeeds" else ug xs D
theorem C1{ss:List Str}:decide (0<(ss.filter p).length)=ss.any p:=by rw[zzY];simp_all
theorem MD{D:Dd}{g:W}:∃s ws,D.row g=.str s::ws/\decide (s=("grant":Str))=D.isG:=by
 cases D with
 |grant ss=>exact⟨_,_,rfl,show decide (("grant":Str)=("grant":Str))=true by rfl⟩
 |sever a z=>exact⟨_,_,rfl,show decide (("sever":Str)=("grant":Str))=false by rfl⟩
 |hand a z tz ss=>exact⟨_,_,rfl,show decide (("hand":Str)=("grant":Str))=false by rfl⟩
 |follow a b=>exact⟨_,_,rfl,show decide (("follow":Str)=("grant":Str))=false by rfl⟩
 |die ss=>exact⟨_,_,rfl,show decide (("die":Str)=("grant":Str))=false by decide +kernel⟩
section
variable {fw:Nat}{tb:List Fn}{h:aa}{n:Nat}{xs:List Pt}{P G:List Str}{ks vs:List Str}{done:List W}
noncomputable abbrev AL(xs:List Pt)(G ks vs:List Str)(done:List W):W:=.lst [.lst (xs.map aI),.lst (G.map W.str),.dic ks (vs.map W.str),.lst done]
theorem NH(hf:tb[f]?=some ⟨3,9,IW gb pe pd mo,none⟩)(hgb:tb[gb]?=some ⟨1,3,j3,none⟩)(hpe:tb[pe]?=some ⟨1,1,mj,none⟩)(hpd:tb[pd]?=some ⟨2,3,kX,none⟩)(hmo:tb[mo]?=some ⟨2,4,xD,none⟩)(d:Nat)(D:Dd)(ht:Seq t (D.row g))(hg:Seq g (D.grp.map W.str))(hl:D.grp.length<64)(hxs:∀x∈xs,x.R n)(fit:D.Fit)(hd:done.length<=1000) :
  ae fw tb (d+2) f [AL xs G ks vs done,t,.lst (P.map W.str)] h=.ok (.str (l7 P G xs done.length D)) h:=by
 rw[af hf rfl]
 have c1:=wq (fw:=fw) (h:=h) hgb d D ht hg hl
 have c2:=AN (fw:=fw) (h:=h) hpe d D ht hg ZzL
 have c3:=λ(q:∀ss,D≠.grant ss)=>xH (fw:=fw) (h:=h) hpd d D q ht hxs fit
 have c4:=K3 (fw:=fw) (h:=h) hmo d D ht hg hxs
 have pl:D.per.length<=1000:=by cases D<;>simp[Dd.per,Dd.grp]at hl ⊢<;>lia
 obtain⟨s,us,er,eg⟩:=MD (D:=D) (g:=g)
 rw[er]at ht
 have i0:dC t (.int 0) h=.ok (.str s) h:=cy (k:=0) (ht.seqA h) rfl
 have es:(s=("grant":Str))=(D.isG=true):=by rw[<- eg,Zl]
 have cm:=λp c=>fb (cf:=ae fw tb (d+1)) (h:=h) (σ:=[some (AL xs G ks vs done),some t,some (.lst (P.map W.str)),some (.lst (xs.map aI)),some (.dic ks (vs.map W.str)),some (.lst done),some (.lst (D.per.map W.str)),none,some (.lst (G.map W.str))]) (a:=.var 6) (i:=9) (n:=1) (ss:=D.per) (p:=p) (c:=c) (ao rfl) rfl pl
 have cN:=cm (λs=>!a9 s P) (.cmp .NotIn V9 V2) (λs _ hh=>gG (a:=.var 9) (b:=.var 2) (ao rfl) (ao rfl) rfl rfl) (by show 9<10;decide)
 have cI:=cm (λs=>a9 s G) (.cmp .In V9 V8) (λs _ hh=>Iy (a:=.var 9) (b:=.var 8) (ao rfl) (ao rfl) rfl rfl) (by show 9<10;decide)
 have al:∀p:Str->Bool,(0<(D.per.filter p).length)=(D.per.any p=true):=λp=>by rw[<- C1,Zl]
 have si:∀{c:Prop} [Decidable c] {a b:Str},Res.ok (W.str (if c then a else b)) h=if c then .ok (.str a) h else .ok (.str b) h:=λ{c} _ {a b}=>by split<;>rfl
 unfold l7
 by_cases b4:D.isG=true
 ·simp! [c1,c2,cN,cI,al,i0,es,b4,cQ,si,kR]
 ·simp! [c1,c2,c3 λss e=>b4 (by rw[e];rfl),c4,cN,cI,al,i0,es,b4,cQ,si,kR]
end
section
variable {R:Rx}{q:Sd}{P ks:List Str}{n nd:Nat}
structure Rx.Std (R:Rx):Prop where
 e:R.errs=tenL
theorem Rx.Std.all(S:R.Std):R.eBG=1/\R.eUn=2/\R.eDe=3/\R.eNG=4/\R.eGB=5/\R.eNP=6/\R.eNH=7/\R.eBP=8/\R.eTP=9/\R.eTD=10:=by have:=S.e;simpa [Rx.errs,tenL] using this
theorem fJ(S:R.Std):(first R ks q ss o).word=if kR ks ss=true then("Unknown":Str) else if qX q ss=true then "Dead" else if bo q.dw=true then "NotGranted" else o.word:=by
 obtain⟨e1,e2,e3,e4,_⟩:=S.all;unfold first
 split;rw[Out.word,e2];rfl;split;rw[Out.word,e3];rfl;split;rw[Out.word,e4];rfl;rfl
theorem wj(S:R.Std):(cV R nd q').word=if 200<=nd then("TooManyDeeds":Str) else "":=by obtain⟨_,_,_,_,_,_,_,_,_,e⟩:=S.all;unfold cV;split;rw[Out.word,e];rfl;rfl
end
section
variable {R:Rx}{q:Sd}{P ks:List Str}{n nd:Nat}
theorem kJ(hk:∀s,a9 s ks=a9 s P)(ss):kR ks ss=kR P ss:=by unfold kR;simp_all
theorem gK(hg:bo q.dw=decide (nd=0)){a b:Str}:(if bo q.dw=true then a else b)=if nd=0 then a else b:=by simp_all
theorem gO{c:Prop} [Decidable c]{a b:Out}:(if c then a else b).word=if c then a.word else b.word:=by split<;>rfl
theorem Ox(o:Option α):o=none\/∃x,o=some x:=by cases o<;>simp
theorem Ay(S:R.Std)(D)(hk:∀s,a9 s ks=a9 s P)(hg:bo q.dw=decide (nd=0))(x2:q.xs.length<=60):l7 P q.G q.xs nd D=(bY R ks q nd D).word:=by
 obtain⟨e1,e2,e3,e4,e5,e6,e7,e8,e9,e10⟩:=S.all
 have w1:(Out.no R.eBG).word="BadGroup":=by rw[Out.word,e1];rfl
 have w2:(Out.no R.eUn).word="Unknown":=by rw[Out.word,e2];rfl
 have w3:(Out.no R.eDe).word="Dead":=by rw[Out.word,e3];rfl
 have w6:(Out.no R.eNP).word="NoPart":=by rw[Out.word,e6];rfl
 have w7:(Out.no R.eNH).word="NotHeld":=by rw[Out.word,e7];rfl
 have w8:(Out.no R.eBP).word="BadPiece":=by rw[Out.word,e8];rfl
 have w9:(Out.no R.eTP).word="TooManyParts":=by rw[Out.word,e9];rfl
 have n6:¬ ("NoPart":Str)="":=by decide +kernel
 have n7:¬ ("NotHeld":Str)="":=by decide +kernel
 have n8:¬ ("BadPiece":Str)="":=by decide +kernel
 have k:=λ(q':Sd)=>wj (nd:=nd) (q':=q') S
 cases D with
 |sever a z =>
  simp only[l7,bY,fH,fJ S,gK hg,kJ hk,Dd.bad,Dd.per,Dd.isG,Dd.more,ug,qX,gO,w6]
  rcases Ox q.xs[z.toNat-1]? with o|⟨x,o⟩<;>simp_all<;>grind
 |follow a b =>
  simp only[l7,bY,dk,fJ S,gK hg,kJ hk,Dd.bad,Dd.per,Dd.isG,Dd.more,ug,qX,k]
  grind
 |hand a z tz ss =>
  have s (p:Str->Bool):(a::bp ss).any p=(a::ss).any p:=by rw[zzp,zzp,ke]
  simp only[l7,bY,gD,gO,fJ S,gK hg,show kR ks (a::bp ss)=kR P (a::ss) from(kJ hk _).trans (s _),Dd.bad,Dd.per,Dd.isG,Dd.more,Dd.grp,Dd.most,ug,qX,s,w1,w6]
  rcases Ox q.xs[z.toNat-1]? with o|⟨x,o⟩<;>simp only[o,gO,w6,w7,w8,w9,k]<;>grind
 |die ss =>
  simp only[l7,bY,nQ,gO,fJ S,gK hg,uR,ke,kJ hk,Dd.bad,Dd.per,Dd.isG,Dd.more,Dd.grp,Dd.most,ug,qX,w1,w9,k,pO,nc]
  grind
 |grant ss =>
  have w5:(Out.no R.eGB).word="GrantedBefore":=by rw[Out.word,e5];rfl
  simp only[l7,bY,cZ,gO,gK hg,uR,ke,kJ hk,Dd.bad,Dd.per,Dd.isG,Dd.grp,Dd.most,qX,w1,w2,w3,w5,k]
  grind
end
noncomputable abbrev Bk(be lo he : Nat) : List S := [.unp [8, 9, 10] (.ix V0 V7),
 .asg 11 (.blt .tuple [(.compS [16] 1 V9 [(.cmp .NotIn IL V1)] IL)]),
 .if_ (.cmp .Eq (.blt .len [vf]) (.blt .len [V9])) [.exp (.meth .append V5 [(.ix V0 V7)])] [.if_ (.cmp .Gt (.blt .len [vf]) (.con (.int 0))) [.exp (.meth .append V5 [(.call be [eC,V4,(.bin .Add V7 (.con (.int 1))),V8,vf])])] [.asg 12 (.call lo [(.ix V8 (.con (.int 0))),(.bin .Mult (.ix V8 (.con (.int 1))) (.blt .len [V9]))]),
 .asg 13 (.compS [16] 1 V9 [] (.call he [IL,V2,(.bin .Add (.blt .list [V3]) (.blt .list [V1]))])),
 .exp (.meth .append V5 [(.call be [eC,V4,(.bin .Add V7 (.con (.int 1))),Dm,(.tup [(.ix Mm (.con (.int 0)))])])]),
 .for_ [14] (.seq (.sl Mm (some (.con (.int 1))) none)) [.asg 15 (.bin .Add (.bin .Add (.blt .len [V0]) (.blt .len [V6])) (.con (.int 1))),
 .exp (.meth .append V6 [(.call be [eC, V4, O9, Dm, (.tup [Mv])])])]]]]
noncomputable abbrev tj(be lo he:Nat):List S:=[.fresh 5 (.lst []),.fresh 6 (.lst []),.for_ [7] (.rng [(.blt .len [V0])]) (Bk be lo he),.ret (.bin .Add V5 V6)]
theorem FK(ht:Seq t ws):aY h t=none:=by rcases ht with rfl|rfl<;>rfl
theorem Ap{h:aa}{a b:Ob}:(h++[a,b])[h.length]?=some a:=ZzS
theorem vt{h:aa}{a b:Ob}:(h++[a,b])[h.length+1]?=some b:=ZzS
theorem Ke{h:aa}{a b c:Ob}:(h++[a,b]).set h.length c=h++[c,b]:=ZzS
theorem JP{h:aa}{a b c:Ob}:(h++[a,b]).set (h.length+1) c=h++[a,c]:=ZzS
theorem jr:∀{a b:List W},ah a=true->ah b=true->ah (a++b)=true
 |[],_,_,h=>h
 |x::a,b,h,h2=>by rw[ah,zE]at h;rw[List.cons_append,ah,h.1,jr h.2 h2];rfl
noncomputable abbrev JD(xs:List Pt)(gW:W)(ks vs down:List Str)(dd:Nat)(h:aa)(j:Nat)(x:Pt)(a b c d e:Option W):ag:=[some (.lst (xs.map aI)),some gW,some (.dic ks (vs.map W.str)),some (.lst (down.map W.str)),some (aq dd),some (.ref h.length),some (.ref (h.length+1)),some (aq j),some (sh x.p x.q),some (.tup (x.hs.map W.str)),some (.tup x.tr),a,b,c,d,e]
theorem yD:dG .append (.ref h.length) [w] (h++[.lst us,o])=if ak w=true/\us.length<sizeLine then .ok .non (h++[.lst (us++[w]),o]) else .stuck:=by simp[dG,oR,vY,Ap,Ke]
theorem Je:dG .append (.ref (h.length+1)) [w] (h++[o,.lst us])=if ak w=true/\us.length<sizeLine then .ok .non (h++[o,.lst (us++[w])]) else .stuck:=by simp[dG,oR,vY,vt,JP]
theorem yr:bR .append (h++[.lst us,o]) (.ref h.length)=true:=by simp[bR,seqM,Ap]
theorem Lo:bR .append (h++[o,.lst us]) (.ref (h.length+1))=true:=by simp[bR,seqM,vt]
theorem Ji:bA .len [.ref (h.length+1)] (h++[o,.lst us])=.ok (.int us.length) (h++[o,.lst us]):=Bf vt
theorem GQ(hl:us.length+vs.length<=1000):ip .Add (.ref h.length) (.ref (h.length+1)) (h++[.lst us,.lst vs])=.ok (.lst (us++vs)) (h++[.lst us,.lst vs]):=by show BJ (cX (seqM _ _) (seqM _ _) _)=_;simp only[seqM,Ap,vt,cX,zF (show us.length+vs.length<=sizeLine by rw[PySem.sizeLine_eq];lia)];rfl
theorem yM{fw:Nat}{tb:List Fn}{f be lo he n:Nat}(hff:tb[f]?=some ⟨5,16,tj be lo he,none⟩)(hbe:tb[be]?=some ⟨5,5,bE,none⟩)(hlo:tb[lo]?=some ⟨2,4,jN,none⟩)(hhe:tb[he]?=some ⟨3,5,iC,none⟩)(IM:2^2010<=fw)(d:Nat)(xs:List Pt)(gs ks vs down:List Str){gW:W}(hgW:Seq gW (gs.map W.str))(dd:Nat)(h:aa)(hx:∀x∈xs,x.R n)(hn:n<=400)(hxl:xs.length<=60)(hl:down.length+gs.length<=1000) :
  ae fw tb (d+2) f [.lst (xs.map aI),gW,.dic ks (vs.map W.str),.lst (down.map W.str),aq dd] h=.ok (.lst ((iw (eX ks vs down gs) gs dd xs).map aI)) h:=by
 rw[qA]
 let heir:=eX ks vs down gs
 have b:=λ{x:Pt} (hx:x.R n) n s hs hh=>aS (fw:=fw) hbe d dd n s hs x.tr hx.pu (zf hx.tl ZzL) hh
 let Iv:Nat->ag->aa->Prop:=λj s hh=>∃r7 r8 r9 r10 r11 r12 r13 r14 r15,s=[some (.lst (xs.map aI)),some gW,some (.dic ks (vs.map W.str)),some (.lst (down.map W.str)),some (aq dd),some (.ref h.length),some (.ref (h.length+1)),r7,r8,r9,r10,r11,r12,r13,r14,r15]/\hh=h++[.lst ((xs.take j).mapIdx λi x=>kq heir gs dd (i+1) x),.lst (bB heir gs dd (xs.take j) xs.length)]
 have nl:∀j,(bB heir gs dd (xs.take j) xs.length).length<=300:=λj=>by
  have:=jy (heir:=heir) (g:=gs) (dd:=dd) (l:=xs.take j) (m:=xs.length) λy hy=>(hx y (List.mem_of_mem_take hy)).h1
  rw[Zk]at this
  lia
 obtain⟨σ2,hh,lp,r7,r8,r9,r10,r11,r12,r13,r14,r15,rfl,rfl⟩:∃σ2 hh,fo [7] (aA (ae fw tb (d+1)) fw (Bk be lo he)) ((List.range xs.length).map λ(k:Nat)=>W.int (0+(k:Int))) [some (.lst (xs.map aI)),some gW,some (.dic ks (vs.map W.str)),some (.lst (down.map W.str)),some (aq dd),some (.ref h.length),some (.ref (h.length+1)),none,none,none,none,none,none,none,none,none] (h++[.lst [],.lst []])=.ok (.nx σ2) hh/\Iv xs.length σ2 hh:=by
  refine rM (Iv:=Iv) (λj s hh hj q=>?_) ⟨_,_,_,_,_,_,_,_,_,rfl,rfl⟩
  obtain⟨r7,r8,r9,r10,r11,r12,r13,r14,r15,rfl,rfl⟩:=q
  obtain⟨x,ex⟩:∃x,xs[j]?=some x:=⟨_,zJ hj⟩
  have hxx:=hx x (zC ex)
  have h0:=hxx.h0
  have h1:=hxx.h1
  have et:xs.take (j+1)=xs.take j++[x]:=by rw[List.take_succ,ex];rfl
  have lt:(xs.take j).length=j:=by rw[Zk];lia
  have emd:(xs.take (j+1)).mapIdx (λi x=>kq heir gs dd (i+1) x)=(xs.take j).mapIdx (λi x=>kq heir gs dd (i+1) x)++[kq heir gs dd (j+1) x]:=by rw[et,List.mapIdx_concat,lt]
  have enw:bB heir gs dd (xs.take (j+1)) xs.length=bB heir gs dd (xs.take j) xs.length++cR heir gs dd (xs.length+(bB heir gs dd (xs.take j) xs.length).length) x:=by rw[et,iG]
  have lmd:((xs.take j).mapIdx λi x=>kq heir gs dd (i+1) x).length=j:=by rw[ZJ,lt]
  have lnw:=nl j
  have ix:∀hh,dC (.lst (xs.map aI)) (.int (j:Int)) hh=.ok (.tup [sh x.p x.q,.tup (x.hs.map W.str),.tup x.tr]) hh:=λhh=>cy (t:=.lst (xs.map aI)) rfl (by rw[zT,ex];rfl)
  have px:ak (.tup [sh x.p x.q,.tup (x.hs.map W.str),.tup x.tr])=true:=eT hxx
  simp only[Iv,emd,enw]
  generalize (xs.take j).mapIdx (λi x=>kq heir gs dd (i+1) x)=md at *
  generalize bB heir gs dd (xs.take j) xs.length=nw at *
  have cm:∀r11 r12 r13 r14 r15 hh,evE (ae fw tb (d+1)) (.compS [16] 1 V9 [(.cmp .NotIn IL V1)] IL) (JD xs gW ks vs down dd h j x r11 r12 r13 r14 r15) hh=.ok (.lst ((aP x.hs gs).map W.str)) hh:=λr11 r12 r13 r14 r15 hh=>fb (p:=λs=>!a9 s gs) (U9 rfl) rfl ZzL (λs _ hh=>gG (ss:=gs) (y:=gW) (ao (i:=16) rfl) (U1 rfl) (FK hgW) (hgW.seqA _)) (by show 16<16+1;decide)
  by_cases qa:(aP x.hs gs).length=x.hs.length
  ·refine⟨_,_,by simp! [ix,cY,cm,qa,px,yD,yr,show md.length<16777216 by lia];rfl,_,_,_,_,_,_,_,_,_,rfl,?_⟩
   rw[show kq heir gs dd (j+1) x=aI x from zF qa,show cR heir gs dd (xs.length+nw.length) x=[] from zM ZzL,Zf]
   rfl
  by_cases qb:0<(aP x.hs gs).length
  ·refine⟨_,_,by simp! [ix,cY,cm,qa,qb,b hxx (j+1) (x.p,x.q),aL hxx.pu,yD,yr,show md.length<16777216 by lia];rfl,_,_,_,_,_,_,_,_,_,rfl,?_⟩
   rw[show kq heir gs dd (j+1) x=gf x.tr dd (j+1) (x.p,x.q) (aP x.hs gs) by unfold kq;rw[zM qa,zF qb],show cR heir gs dd (xs.length+nw.length) x=[] from zM ZzL,Zf]
  obtain⟨s0,r0,ehs⟩:=List.exists_cons_of_ne_nil (l:=x.hs) (λe=>by rw[e]at h0;exact absurd h0 ZzD)
  have hl6:=congrArg List.length ehs
  rw[z0]at hl6
  have hb:x.q*x.hs.length<2^2010:=zQ (Z8 hxx.qb (show x.hs.length<=20 by lia)) (jH hn)
  have l12:∀hh,ae fw tb (d+1) lo [aq x.p,aq (x.q*x.hs.length)] hh=.ok (m6 (iJ x)) hh:=λhh=>jz hlo d x.p _ hh (zj hb IM) (Nat.mul_pos hxx.q0 h0) (zj hb (z9 ZzD ZzD))
  have mu:∀h,ip .Mult (.int (x.q:Int)) (.int (x.hs.length:Int)) h=.ok (aq (x.q*x.hs.length)) h:=λh=>(oo h (eJ ZzL)).trans (by rw[CY])
  have lg:∀h,bA .list [gW] h=.ok (.lst (gs.map W.str)) h:=by rcases hgW with rfl|rfl<;>exact λ_=>rfl
  have cs:∀r13 r14 r15 hh,evE (ae fw tb (d+1)) (.compS [16] 1 V9 [] (.call he [IL,V2,(.bin .Add (.blt .list [V3]) (.blt .list [V1]))])) (JD xs gW ks vs down dd h j x (some (.tup ((aP x.hs gs).map W.str))) (some (m6 (iJ x))) r13 r14 r15) hh=.ok (.lst ((x.hs.map heir).map W.str)) hh:=λr13 r14 r15 hh=>xt (by simp! []) (.inr rfl) ZzL λs _ hh=>by simp! [lg,fZ,hl,<- Zc,AK (fw:=fw) hhe d s ks vs (down++gs) hh];rfl
  have i0:∀hh,dC (.lst ((x.hs.map heir).map W.str)) (.int 0) hh=.ok (.str (heir s0)) hh:=λhh=>by rw[ehs];exact Ef
  have sl:∀hh,Dg (.lst ((x.hs.map heir).map W.str)) (some 1) none hh=.ok (.lst ((r0.map heir).map W.str)) hh:=λhh=>by rw[ehs];exact J9
  have b0:=b hxx (j+1) (iJ x) [heir s0]
  have eex:cR heir gs dd (xs.length+nw.length) x=r0.mapIdx λi s=>gf x.tr dd (xs.length+nw.length+1+i) (iJ x) [heir s]:=by
   unfold cR
   rw[zF ZzL,ehs,List.tail_cons]
  obtain⟨_,_,il,r14',r15',rfl,rfl⟩:∃σ2 hh,fo [14] (aA (ae fw tb (d+1)) fw [.asg 15 (.bin .Add (.bin .Add (.blt .len [V0]) (.blt .len [V6])) (.con (.int 1))),.exp (.meth .append V6 [(.call be [eC,V4,O9,Dm,(.tup [Mv])])])]) ((r0.map heir).map W.str) (JD xs gW ks vs down dd h j x (some (.tup ((aP x.hs gs).map W.str))) (some (m6 (iJ x))) (some (.lst ((x.hs.map heir).map W.str))) r14 r15) (h++[.lst (md++[gf x.tr dd (j+1) (iJ x) [heir s0]]),.lst nw])=.ok (.nx σ2) hh/\(λi s hh=>∃r14 r15,s=(JD xs gW ks vs down dd h j x (some (.tup ((aP x.hs gs).map W.str))) (some (m6 (iJ x))) (some (.lst ((x.hs.map heir).map W.str))) r14 r15)/\hh=h++[.lst (md++[gf x.tr dd (j+1) (iJ x) [heir s0]]),.lst (nw++(cR heir gs dd (xs.length+nw.length) x).take i)]) (0+((r0.map heir).map W.str).length) σ2 hh:=by
   refine oy (Iv:=λi s hh=>∃r14 r15,s=(JD xs gW ks vs down dd h j x (some (.tup ((aP x.hs gs).map W.str))) (some (m6 (iJ x))) (some (.lst ((x.hs.map heir).map W.str))) r14 r15)/\hh=h++[.lst (md++[gf x.tr dd (j+1) (iJ x) [heir s0]]),.lst (nw++(cR heir gs dd (xs.length+nw.length) x).take i)]) _ 0 _ _ (λi w s hh ew q=>?_) ?_
   rotate_left
   ·exact⟨r14,r15,rfl,ZzS⟩
   rw[ZV]at q ⊢
   obtain⟨r14,r15,rfl,rfl⟩:=q
   rw[zT,zT]at ew
   rcases er:r0[i]? with _|s1<;>rw[er]at ew<;>cases ew
   have hi:=(ze.mp er).1
   have lc:((cR heir gs dd (xs.length+nw.length) x).take i).length=i:=by rw[eex,Zk,ZJ];lia
   have b1:=b hxx (xs.length+nw.length+1+i) (iJ x) [heir s1]
   simp_arith at b1
   refine⟨_,_,_,rfl,by simp! [Ji,lc,show xs.length+(nw.length+i)+1=xs.length+nw.length+1+i by lia,b1,aL hxx.pu,Je,Lo,show nw.length+i<16777216 by lia];rfl,_,_,rfl,?_⟩
   rw[List.take_succ,show(cR heir gs dd (xs.length+nw.length) x)[i]?=some (gf x.tr dd (xs.length+nw.length+1+i) (iJ x) [heir s1]) by rw[eex,ZL,er];rfl,<- ZP]
   rfl
  rw[ZV,zo,zo,Z3 (by rw[eex,ZJ];exact zD _)]at il
  simp_arith at b0
  refine⟨_,_,by simp! [ix,cY,cm,qa,qb,mu,l12,cs,i0,sl,b0,aL hxx.pu,yD,yr,show md.length<16777216 by lia,il];rfl,_,_,_,_,_,_,_,_,_,rfl,?_⟩
  rw[show kq heir gs dd (j+1) x=gf x.tr dd (j+1) (iJ x) [heir s0] by unfold kq;rw[zM qa,zM qb,ehs];rfl]
 have lR:(xs.mapIdx λi x=>kq heir gs dd (i+1) x).length+(bB heir gs dd xs xs.length).length<=1000:=by
  have:=nl xs.length
  rw[ZC]at this
  rw[ZJ]
  lia
 have hpR:ah (fT heir gs dd xs xs.length)=true:=by
  have:∀(l:List Pt) (m:Nat),(∀y∈l,y.R n)->ah (bB heir gs dd l m)=true:=by
   intro l;induction l with
   |nil=>intro m _;rfl
   |cons y l ih=>exact λm hy=>by rw[bB];exact jr (mW ((hy y zN).G hn IM)) (ih _ λz hz=>hy z (zB _ hz))
  simp only[fT,ZC,zzQ,Zy,Zf];refine jr (bX λw hw=>?_) (this _ _ hx);obtain⟨i,hi,rfl⟩:=zzE.mp hw;exact Bg ((hx _ (ZM hi)).G hn IM)
 rw[ZC]at lp
 simp only[fT,ZC,zzQ,Zy,Zf]at hpR
 simp only[fT,ZC,zzQ,Zy,Zf]
 rw[af hff rfl]
 simp! [ah,ZP,xf (n:=xs.length) ZzL,lp,GQ lR,oz hpR]
 rfl
section
variable {R:Rx}{q q':Sd}{ks:List Str}{nd:Nat}
theorem cU(e:cV R nd q1=.ok q'):nd<200/\q'=q1:=by
 unfold cV at e
 grind
theorem gQ(e:first R ks q ss o=.ok q'):kR ks ss=false/\qX q ss=false/\bo q.dw=false/\o=.ok q':=by
 unfold first at e
 grind
theorem j4(e:fH R ks q nd a z=.ok q'):nd<200/\bo q.dw=false/\q.xs.length<60/\∃x k,z=((k:Nat):Int)/\1<=k/\q.xs[k-1]?=some x/\my x a=false/\q'=⟨.tup [.str "sever",.str a,.int z],kZ q.xs x k a (nd+1),q.ks,q.vs,q.G⟩:=by unfold fH at e;obtain⟨_,_,h3,e⟩:=gQ e;split at e;cases e;rename_i o;obtain⟨z1,z2,z3⟩:=gZ (Zp _ |>.mp o);split at e;cases e;rename_i x ex;split at e;cases e;rename_i b;split at e;cases e;rename_i c;obtain⟨h4,h5⟩:=cU e;exact⟨h4,h3,ZzL,x,_,z1,z2,ex,Zp _ |>.mp b,h5⟩
theorem lD(e:gD R ks q nd a z tz ss=.ok q'):nd<200/\bo q.dw=false/\∃x k tw,z=((k:Nat):Int)/\tz=((tw:Nat):Int)/\tw<=20/\1<=k/\q.xs[k-1]?=some x/\q'=⟨.tup [.str "hand",.str a,.int z,.int tz,.tup ((bp ss).map W.str)],eM q.xs x k tw (bp ss) (nd+1),q.ks,q.vs,q.G⟩:=by unfold gD at e;split at e;obtain⟨_,_,h3,e⟩:=gQ e;split at e;cases e;rename_i o;obtain⟨z1,z2,z3⟩:=gZ (Zp _ |>.mp o);split at e;cases e;rename_i x ex;split at e;cases e;split at e;cases e;rename_i b;obtain⟨tw,rfl,t1,t2⟩:=sT (Zp _ |>.mp b);split at e;cases e;obtain⟨h4,h5⟩:=cU e;rw[Zt]at h5;exact⟨h4,h3,x,_,tw,z1,rfl,t2,z2,ex,h5⟩;cases e
theorem iH(e:dk R ks q nd a b k2 us=.ok q'):nd<200/\bo q.dw=false/\q'=⟨.tup [.str "follow",.str a,.str b],q.xs,k2,us,q.G⟩:=by obtain⟨_,_,h3,e⟩:=gQ e;exact⟨(cU e).1,h3,(cU e).2⟩
theorem oO(e:nQ R ks q nd ss=.ok q'):nd<200/\bo q.dw=false/\ss.length<=30/\q'=⟨.tup [.str "die",.tup ((bp ss).map W.str)],iw (eX q.ks q.vs q.G (bp ss)) (bp ss) (nd+1) q.xs,q.ks,q.vs,q.G++bp ss⟩:=by unfold nQ at e;split at e;rename_i g;obtain⟨_,_,h3,e⟩:=gQ e;split at e;cases e;exact⟨(cU e).1,h3,g.2.1,(cU e).2⟩;simp_all
theorem j8(e:cZ R ks q nd ss=.ok q'):nd<200/\bo q.dw=true/\q'=⟨.tup [.str "grant",.tup ((bp ss).map W.str)],[pK [] 1 1 (1,1) (bp ss)],q.ks,q.vs,q.G⟩:=by
 unfold cZ at e
 split at e
 ·split at e
  ·cases e
  ·split at e
   ·cases e
   ·split at e
    ·grind
    ·rename_i b
     exact⟨(cU e).1,Bool.not_eq_false _ |>.mp b,(cU e).2⟩
 ·cases e
end
noncomputable def Dd.gone(G:List Str):Dd->List Str
 |.die ss=>G++ss
 |_=>G
theorem hV(s)(a b):a9 s (a++b)=(a9 s a||a9 s b):=by rw[bJ,bJ,bJ];simp
theorem wW{h1 h2:Str->Str}{g1 g2:List Str}{dd:Nat}{xs:List Pt}(hh:∀s,h1 s=h2 s)(hg:∀s,a9 s g1=a9 s g2):iw h1 g1 dd xs=iw h2 g2 dd xs:=by
 have e1:h1=h2:=funext hh
 have e2:∀hs,aP hs g1=aP hs g2:=λhs=>by
  unfold aP
  simp_all
 have m:∀n x,Dt h1 g1 dd n x=Dt h1 g2 dd n x:=λn x=>by unfold Dt;rw[e2]
 have x':∀n x,Bv h1 g1 dd n x=Bv h1 g2 dd n x:=λn x=>by unfold Bv;rw[e2]
 have w:∀(xs:List Pt) n,wK h1 g1 dd xs n=wK h1 g2 dd xs n:=λxs=>by
  induction xs with
  |nil=>intro n;rfl
  |cons x xs ih=>intro n;rw[wK,wK,x',ih]
 unfold iw
 grind
theorem vB{ks vs G G' g1 g2:List Str}(hG:∀s,a9 s G'=a9 s G)(hg:∀s,a9 s g1=a9 s g2)(s:Str):eX ks vs G' g1 s=eX ks vs G g2 s:=by unfold eX;congr 1;funext y;rw[hV,hV,hG,hg]
noncomputable abbrev vi:List S:=[.ret (.blt .tuple [(.compS [1] 1 V0 [] (.ite (.isi V1 [.list]) (.blt .tuple [(.blt .sorted [V1])]) V1))])]
noncomputable def Fv(w:W):W:=match w with
 |.lst ws=>.tup ((bp (ws.map LG)).map W.str)
 |w=>w
theorem u4(ss:List Str):(ss.map W.str).map LG=ss:=by rw[zzm];exact(zzs  λx _=>rfl).trans (List.map_id _)
noncomputable abbrev Dd.L(D:Dd):W:=.lst (D.row (.lst (D.grp.map W.str)))
noncomputable abbrev Dd.T(D:Dd):W:=.tup (D.row (.tup ((bp D.grp).map W.str)))
theorem GB(D:Dd):(D.row (.lst (D.grp.map W.str))).map Fv=D.row (.tup ((bp D.grp).map W.str)):=by
 have e:∀ss:List Str,Fv (.lst (ss.map W.str))=.tup ((bp ss).map W.str):=λss=>by show W.tup ((bp ((ss.map W.str).map LG)).map W.str)=_;rw[u4]
 cases D with
 |grant ss=>show [W.str "grant",Fv (.lst (ss.map W.str))]=_;rw[e];rfl
 |sever a z=>rfl
 |hand a z tz ss=>show [W.str "hand",W.str a,W.int z,W.int tz,Fv (.lst (ss.map W.str))]=_;rw[e];rfl
 |follow a b=>rfl
 |die ss=>show [W.str "die",Fv (.lst (ss.map W.str))]=_;rw[e];rfl
theorem lb(D:Dd)(g):∀u∈D.row g,(∃s,u=.str s)\/(∃i,u=.int i)\/u=g:=by cases D<;>simp[Dd.row]
theorem iU(D:Dd)(hg:ak g=true):ah (D.row g)=true:=by cases D<;>simp[Dd.row,ah,ak,hg]
section
variable {fw:Nat}{tb:List Fn}{R:Rx}{q q':Sd}{P ks:List Str}{n:Nat}{h:aa}{done:List W}{G':List Str}
theorem Kz{f:Nat}(hf:tb[f]?=some ⟨1,1,vi,none⟩)(d:Nat)(D:Dd)(hl:D.grp.length<64):ae fw tb (d+1) f [D.L] h=.ok D.T h:=by
 rw[af hf rfl];generalize ae fw tb d=cf;have pT:ah (D.row (.tup ((bp D.grp).map W.str)))=true:=iU D (by rw[ak];exact ax _);have l5:(D.row (.lst (D.grp.map W.str))).length<=1000:=by cases D<;>(simp[Dd.row])
 have pu:∀u∈D.row (.lst (D.grp.map W.str)),ak (Fv u)=true:=λu hm=>by rcases lb D _ u hm with⟨s,rfl⟩|⟨i,rfl⟩|rfl;rfl;rfl;show ak (.tup _)=true;rw[ak];exact ax _
 refine eO (x:=aA cf fw vi [some D.L] h) (a7 (aQ ((gU (lV (F:=Fv) (U0 rfl) rfl (λk e=>by cases e) l5 λu hm=>⟨pu u hm,[some D.L,some u],rfl,λhh=>?_⟩)).trans (by rw[GB])))) (fP pT);rcases lb D _ u hm with⟨s,rfl⟩|⟨i,rfl⟩|rfl;exact uT (uw (U1 rfl) rfl) (U1 rfl);rfl;refine vm (uw (U1 rfl) rfl) ((CZ (ss:=D.grp) (U1 rfl) rfl hl).trans ?_);show _=Res.ok (W.tup ((bp ((D.grp.map W.str).map LG)).map W.str)) hh;rw[u4]
end
noncomputable abbrev AW(to be sv hn fa : Nat) : List S := [.unp [2, 3, 4, 5] V0,
 .asg 6 (.bin .Add (.blt .len [V5]) (.con (.int 1))),
 .asg 7 (.bin .Add V5 (.lst [(.call to [V1])])),
 .if_ (pH 1 "grant") [.ret (.lst [(.lst [(.call be [(.tup []),(.con (.int 1)),(.con (.int 1)),(.tup [(.con (.int 1)),(.con (.int 1))]),(.ix (.ix V7 (.con (.int 0))) (.con (.int 1)))])]),V3,V4,V7])] [],
 .if_ (pH 1 "sever") [.ret (.lst [(.call sv [V2,(.ix V1 (.con (.int 2))),(.ix V1 (.con (.int 1))),V6]),V3,V4,V7])] [],
 .if_ (pH 1 "hand") [.asg 8 (.blt .tuple [(.blt .sorted [(.ix V1 (.con (.int 4)))])]),
 .ret (.lst [(.call hn [V2,(.ix V1 (.con (.int 2))),(.ix V1 (.con (.int 3))),V8,V6]),V3,V4,V7])] [],
 .if_ (pH 1 "follow") [.freshC 9 V4,
 .setix V9 (.ix V1 (.con (.int 1))) (.ix V1 (.con (.int 2))),
 .ret (.lst [V2,V3,V9,V7])] [],
 .asg 10 (.call fa [V2,(.ix V1 (.con (.int 1))),V4,V3,V6]),
 .ret (.lst [eC, (.bin .Add V3 (.blt .list [(.ix V1 (.con (.int 1)))])), V4, V7])]
structure Ax where
 (to be lo sv hn he fa ap:Nat)
structure Ax.In (A:Ax) (tb:List Fn):Prop where
 to:tb[A.to]?=some ⟨1,1,vi,none⟩
 be:tb[A.be]?=some ⟨5,5,bE,none⟩
 lo:tb[A.lo]?=some ⟨2,4,jN,none⟩
 sv:tb[A.sv]?=some ⟨4,12,lF A.lo A.be,none⟩
 hn:tb[A.hn]?=some ⟨5,11,oF A.lo A.be,none⟩
 he:tb[A.he]?=some ⟨3,5,iC,none⟩
 fa:tb[A.fa]?=some ⟨5,16,tj A.be A.lo A.he,none⟩
 ap:tb[A.ap]?=some ⟨2,11,AW A.to A.be A.sv A.hn A.fa,none⟩
section
variable {fw:Nat}{tb:List Fn}{R:Rx}{A:Ax}{q q':Sd}{P ks:List Str}{n:Nat}{h:aa}{done:List W}{G':List Str}
theorem kl(hx:∀x∈xs,x.R n)(hd:ah done=true):ak (AL xs G ks vs done)=true:=by have:=aZ hx;simp only[AL,ak,ah,this,ax,hd,Bool.and_self,Bool.and_true]
theorem l4(ea:evE cf a σ h=.ok x h)(eb:evE cf b σ h=.ok y h)(ec:evE cf c σ h=.ok z h)(ee:evE cf e σ h=.ok u h):evE cf (.lst [a,b,c,e]) σ h=.ok (.lst [x,y,z,u]) h:=cj (aj ea (aj eb (eU ec ee))) ZzS
theorem Gr(T:A.In tb)(hf:2^2010<=fw)(d)(D)(ok:q.Ok P n)(ok':q'.Ok P (n+1))(n4:n<=399)(hG:∀s,a9 s G'=a9 s q.G)(hGl:G'.length<=500)(hd:done.length<=900)(pd:ah done=true)(fit:D.Fit)(g0:bo q.dw=true->done=[])(e:bY R ks q done.length D=.ok q') :
  ae fw tb (d+3) A.ap [AL q.xs G' q.ks q.vs done,D.L] h=.ok (AL q'.xs (D.gone G') q'.ks q'.vs (done++[D.T])) h/\q'.dw=D.T:=by
 have hgl:D.grp.length<64:=by
  cases D with
  |grant ss=>exact fit.1
  |hand a z tz ss=>exact fit.2.2.2.1
  |die ss=>exact fit.1
  |_=>show 0<64;decide
 have td:=Kz (fw:=fw) (h:=h) T.to (d+1) D hgl
 have c1:=λ(ss:List Str)=>aS (fw:=fw) T.be (d+1) 1 1 (1,1) ss [] rfl ZzD h
 have c2:=λ(x:Pt) (k:Nat) (a:Str) (h1:1<=k) (hk:q.xs[k-1]?=some x)=>xG (fw:=fw) (h:=h) (name:=a) (dd:=done.length+1) T.sv T.lo T.be hf d ok.x1 ZzL ok.x2 h1 hk
 have c3:=λ(x:Pt) (k tw:Nat) (to:List Str) (ht:tw<=20) (h1:1<=k) (hk:q.xs[k-1]?=some x)=>Dx (fw:=fw) (h:=h) (to:=to) (dd:=done.length+1) T.hn T.lo T.be hf d ht ok.x1 ZzL ok.x2 h1 hk
 have c4:=λ(ss:List Str) (hl:G'.length+ss.length<=1000)=>yM (fw:=fw) T.fa T.be T.lo T.he hf d q.xs ss q.ks q.vs G' (gW:=.lst (ss.map W.str)) (.inl rfl) (done.length+1) h ok.x1 ZzL ok.x2 hl
 have pT:ak D.T=true:=by rw[ak];exact iU D (by rw[ak];exact ax _)
 have pd':ah (done++[D.T])=true:=bx pd pT
 have sp:=λ{xs:List Pt}{Gs k2 v2} (hx:∀y∈xs,y.R (n+1))=>jK (h:=h) (kl (xs:=xs) (G:=Gs) (ks:=k2) (vs:=v2) hx pd')
 simp only[AL]at sp ⊢
 rw[af T.ap rfl]
 have so:∀{ss:List Str},ss.length<64->bA .sorted [.lst (ss.map W.str)] h=.ok (.lst ((bp ss).map W.str)) h:=λl=>by show mF _ _=_;simp only[mF,seqA,eK,seqL,Option.or,Option.bind,dE,l];rfl
 cases D with
 |grant ss =>
  obtain⟨_,e1,rfl⟩:=j8 (show cZ R ks q done.length ss=.ok q' from e)
  cases g0 e1
  have s:=sp (Gs:=G') (k2:=q.ks) (v2:=q.vs) ok'.x1
  rw[zO,Zy,sI]at s
  refine⟨?_,rfl⟩
  simp only[Dd.L,Dd.T,Dd.row,Dd.grp,zzf]at td s ⊢
  have c:ae fw tb (d+2) A.be [.tup [],.int 1,.int 1,.tup [.int 1,.int 1],.tup ((bp ss).map W.str)] h=_:=c1 (bp ss)
  simp! [td,jo,c,fZ,s,Dd.gone,sI]
 |sever a z =>
  obtain⟨_,_,_,x,k,rfl,k1,hk,_,rfl⟩:=j4 (show fH R ks q done.length a z=.ok q' from e)
  have s:=sp (Gs:=G') (k2:=q.ks) (v2:=q.vs) ok'.x1
  refine⟨?_,rfl⟩
  simp only[Dd.L,Dd.T,Dd.row,Dd.grp]at td s ⊢
  simp! [td,jo,c2 x k a k1 hk,fZ,show done.length+1<=1000 by lia,s,Dd.gone]
 |hand a z tz ss =>
  obtain⟨_,_,x,k,tw,rfl,rfl,t2,k1,hk,rfl⟩:=lD (show gD R ks q done.length a z tz ss=.ok q' from e)
  have s:=sp (Gs:=G') (k2:=q.ks) (v2:=q.vs) ok'.x1
  refine⟨?_,rfl⟩
  simp only[Dd.L,Dd.T,Dd.row,Dd.grp]at td s ⊢
  simp! [td,jo,so (ss:=ss) hgl,c3 x k tw (bp ss) t2 k1 hk,fZ,show done.length+1<=1000 by lia,s,Dd.gone]
 |follow a b =>
  obtain⟨_,_,rfl⟩:=iH (show dk R ks q done.length a b (v7 q.ks q.vs a b).1 (v7 q.ks q.vs a b).2=.ok q' from e)
  refine⟨?_,rfl⟩
  have u1:=λhh=>bK (h:=hh) (n0:=h.length) (.lst (q.xs.map aI)) (aZ ok.x1)
  have u2:=λhh=>bK (h:=hh) (n0:=h.length) (.lst (G'.map W.str)) (ax _)
  have u3:=λhh=>bK (h:=hh) (n0:=h.length) (.lst (done++[Dd.T (.follow a b)])) pd'
  simp only[Dd.L,Dd.T,Dd.row,Dd.grp]at td u3 ⊢
  simp! [td,jo,fZ,show done.length+1<=1000 by lia,Dd.gone,aY,ax,(sL ok.k1).1,show q.ks.length<16777216 by have:=ok.k2;lia,show ak (.str b)=true from rfl,J.fin,↓u1,↓u2,↓u3,i5,gj,Option.map_some,ZN,List.take_left]
 |die ss =>
  obtain⟨_,_,l3,rfl⟩:=oO (show nQ R ks q done.length ss=.ok q' from e)
  have s:=sp (Gs:=G'++ss) (k2:=q.ks) (v2:=q.vs) ok'.x1
  refine⟨?_,rfl⟩
  have c:=c4 ss ZzL
  rw[wW (dd:=done.length+1) (xs:=q.xs) (λs=>vB (ks:=q.ks) (vs:=q.vs) (G':=G') (G:=q.G) (g1:=ss) (g2:=bp ss) hG (λs=>(gJ s ss).symm) s) (λs=>(gJ s ss).symm)]at c
  simp only[Dd.L,Dd.T,Dd.row,Dd.grp]at td s ⊢
  simp! [td,jo,c,fZ,show done.length+1<=1000 by lia,show G'.length+ss.length<=1000 by lia,<- Zc,s,Dd.gone]
end
noncomputable abbrev sd0:Sd:=⟨.non,[],[],[],[]⟩
theorem HU:sd0.Ok P 0:=⟨rfl,(λx hx=>nomatch hx),ZzS,(λx hx=>nomatch hx),rfl,ZzS,(λx hx=>nomatch hx),(λx hx=>nomatch hx),ZzS⟩
theorem yO(e:bY R ks q nd D=.ok q'):q'.dw=D.T/\nd<200/\(bo q.dw=false->0<q.xs.length->0<q'.xs.length)/\(bo q.dw=true->0<q'.xs.length)/\(∀s,a9 s q'.G=a9 s (D.gone q.G)):=by
 cases D with
 |grant ss=>obtain⟨h1,h2,rfl⟩:=j8 e;exact⟨rfl,h1,λ_ _=>by show 0<1;decide,λ_=>by show 0<1;decide,λ_=>rfl⟩
 |sever a z=>obtain⟨h1,h2,_,x,k,_,_,_,_,rfl⟩:=j4 e;exact⟨rfl,h1,λ_ _=>by rw[uY];lia,λz=>(by rw[h2]at z;cases z),λ_=>rfl⟩
 |hand a z tz ss=>obtain⟨h1,h2,x,k,tw,_,_,_,_,_,rfl⟩:=lD e;exact⟨rfl,h1,λ_ _=>by rw[ku];split<;>lia,λz=>(by rw[h2]at z;cases z),λ_=>rfl⟩
 |follow a b=>obtain⟨h1,h2,rfl⟩:=iH e;exact⟨rfl,h1,λ_ z=>z,λz=>(by rw[h2]at z;cases z),λ_=>rfl⟩
 |die ss=>
  obtain⟨h1,h2,_,rfl⟩:=oO e
  exact⟨rfl,h1,λ_ _=>by rw[pO];lia,λz=>(by rw[h2]at z;cases z),λs=>by
   show a9 s (q.G++bp ss)=a9 s (q.G++ss)
   rw[hV,hV,gJ]⟩
theorem Dd.T_Q{D:Dd}(hl:D.grp.length<64):pA D.T=true/\oZ D.T<=3:=by
 have e:pA (.tup ((bp D.grp).map W.str))=true:=by rw[pA,fq,zo,eF,zX ZzL];rfl
 have e2:oZ (.tup ((bp D.grp).map W.str))<=2:=by rw[oZ,eZ];decide
 unfold Dd.T;generalize W.tup ((bp D.grp).map W.str)=g at *;have p:∀ws,(∀w∈ws,w=g\/pA w=true/\oZ w<=2)->ws.length<=10->pA (.tup ws)=true/\oZ (.tup ws)<=3:=λws hw hl=>by
  have z1:∀ws:List W,(∀w∈ws,w=g\/pA w=true/\oZ w<=2)->dR ws=true/\dS ws<=2:=λws=>by
   induction ws with
   |nil=>intro _;exact⟨rfl,ZQ _⟩
   |cons w ws ih=>
    intro hw;obtain⟨i1,i2⟩:=ih λu hu=>hw u (zB _ hu);have j:pA w=true/\oZ w<=2:=by grind
    rw[dR,dS,j.1,i1];exact⟨rfl,Nat.max_le.mpr ⟨j.2,i2⟩⟩
  obtain⟨z1,z2⟩:=z1 ws hw;rw[pA,oZ,z1,zX ZzL];exact⟨rfl,ZzL⟩
 refine p _ (λw hw=>?_) (by cases D<;>simp[Dd.row]);rcases lb D g w hw with⟨s,rfl⟩|⟨i,rfl⟩|rfl;exact .inr ⟨rfl,ZQ _⟩;exact .inr ⟨rfl,ZQ _⟩;exact .inl rfl
theorem Dd.Fit.len{D:Dd}(fit:D.Fit):D.grp.length<64:=by
 cases D with
 |grant ss=>exact fit.1
 |hand a z tz ss=>exact fit.2.2.2.1
 |die ss=>exact fit.1
 |_=>show 0<64;decide
inductive Ch (R:Rx) (ks:List Str):List Sd->Sd->List Str->List W->List W->Prop
 |nil:Ch R ks [] sd0 [] [] []
 |step {C:List Sd}{q q':Sd}{G:List Str}{Ss dn:List W} (D:Dd):Ch R ks C q G Ss dn->D.Fit->bY R ks q C.length D=.ok q'->Ch R ks (C++[q]) q' (D.gone G) (Ss++[AL q.xs G q.ks q.vs dn]) (dn++[D.T])
structure Rec (P:List Str) (C:List Sd) (q:Sd) (G:List Str) (Ss dn:List W):Prop where
 ok:q.Ok P C.length
 cl:dn.length=C.length
 sl:Ss.length=C.length
 c2:C.length<=200
 pd:ah dn=true
 ps:ah Ss=true
 pc:ah (C.map Sd.W)=true
 hg:bo q.dw=decide (C.length=0)
 hG:∀s,a9 s G=a9 s q.G
 gl:G.length=q.G.length
 x0:0<C.length->0<q.xs.length
 dq:0<C.length->pA q.dw=true/\oZ q.dw<=3
variable {R:Rx}{ks P:List Str}{C:List Sd}{q q':Sd}{G:List Str}{Ss dn:List W}
theorem yf(hG:G.length=q.G.length)(e:bY R ks q nd D=.ok q'):(D.gone G).length=q'.G.length:=by
 cases D with
 |grant ss=>obtain⟨_,_,rfl⟩:=j8 e;exact hG
 |sever a z=>obtain⟨_,_,_,x,k,_,_,_,_,rfl⟩:=j4 e;exact hG
 |hand a z tz ss=>obtain⟨_,_,x,k,tw,_,_,_,_,_,rfl⟩:=lD e;exact hG
 |follow a b=>obtain⟨_,_,rfl⟩:=iH e;exact hG
 |die ss=>obtain⟨_,_,_,rfl⟩:=oO e;show(G++ss).length=(q.G++bp ss).length;rw[zA,zA,eF,hG]
theorem Rec.step(r:Rec P C q G Ss dn)(nP:∀y∈P,aG y)(hk:∀y∈ks,y∈P){D:Dd}(fit:D.Fit)(e:bY R ks q C.length D=.ok q'):Rec P (C++[q]) q' (D.gone G) (Ss++[AL q.xs G q.ks q.vs dn]) (dn++[D.T]):=by
 obtain⟨e1,e2,e3,e4,e5⟩:=yO e;have ok:=kD (R:=R) (nd:=C.length) (D:=D) r.ok nP hk fit;rw[e]at ok;have pT:ak D.T=true:=by rw[ak];exact iU D (by rw[ak];exact ax _)
 have TQ:=D.T_Q fit.len;refine⟨?_,?_,?_,?_,bx r.pd pT,bx r.ps (kl r.ok.x1 r.pd),?_,?_,?_,yf r.gl e,λ_=>?_,λ_=>?_⟩;rw[zA];exact ok.1;rw[zA,zA,r.cl];rfl;rw[zA,zA,r.sl];rfl;rw[zA];exact e2;rw[Zc];exact bx r.pc (Sd.pw r.ok);rw[ok.2,zA,zV (by show ¬ C.length+1=0;lia)];intro s;rw[e5];cases D with
 |die ss=>show a9 s (G++ss)=a9 s (q.G++ss);rw[hV,hV,r.hG]
 |_=>exact r.hG s
 by_cases z:C.length=0;exact e4 (by rw[r.hg,zX z]);exact e3 (by rw[r.hg,zV z]) (r.x0 (zzA z));rw[e1];exact TQ
theorem Ch.rec'(c:Ch R ks C q G Ss dn)(nP:∀y∈P,aG y)(hk:∀y∈ks,y∈P):Rec P C q G Ss dn:=by
 induction c with
 |nil=>exact⟨HU,rfl,rfl,ZQ _,rfl,rfl,rfl,rfl,λ_=>rfl,rfl,λz=>absurd z ZzS,λz=>absurd z ZzS⟩
 |step D _ fit e ih=>exact ih.step nP hk fit e
theorem Ch.back(c:Ch R ks C q G Ss dn)(h:0<C.length):∃C0 q0 G0 S0 dn0,C=C0++[q0]/\Ss=S0++[AL q0.xs G0 q0.ks q0.vs dn0]/\dn=dn0++[q.dw]/\Ch R ks C0 q0 G0 S0 dn0:=by
 cases c with
 |nil=>simp_all
 |step D c fit e=>exact⟨_,_,_,_,_,rfl,rfl,by rw[(yO e).1],c⟩
theorem Rec.g5(r:Rec P C q G Ss dn)(hP:P.length<=30):G.length<=30:=by rw[r.gl];exact zf (dI r.ok.g2 r.ok.g1) hP
end J
set_option Elab.async false
set_option linter.all false
set_option maxRecDepth 100000
set_option maxHeartbeats 4000000
namespace Law
open PySem J
def top(i:Nat):Stmt:=PySem.Challenge.pw_jointhold_k21_sixty_parts.main.body.getD i (.Pass ⟨0,0,0,0⟩)
def mtop(i j:Nat):Stmt:=match top i with
 |.ClassDef _ _ _ body _ _ _ _ _ _ _=>body.getD j (.Pass ⟨0,0,0,0⟩)
 |s=>s
abbrev dD(x:Str)(i k:Nat)(N mu:List Str):Df:=⟨x,top i,N,N.take k,mu,x,0⟩
def d0:Df:=dD "is_name" 20 1 ["text"] []
def d1:Df:=dD "has_one_twice" 21 1 ["names"] []
def d2:Df:=dD "checked_names" 22 1 ["names","name"] []
def d3:Df:=dD "group_of" 23 3 ["names","least","most"] []
def d4:Df:=dD "names_without" 24 2 ["names","gone"] []
def d5:Df:=dD "check_known" 25 2 ["names","known","name"] []
def d6:Df:=dD "check_living" 26 3 ["names","known","dead","name"] []
def d7:Df:=dD "heir_of" 28 3 ["name","follows","dead","passed","at"] ["passed"]
def d8:Df:=dD "common_divisor" 31 2 ["one","other","rest"] []
def d9:Df:=dD "lowest" 32 2 ["top","below","divisor"] []
def QF:Df:=dD "piece_of" 33 3 ["share","many","of"] []
def P8:Df:=dD "part_behind" 36 5 ["trail","deed","number","share","holders"] []
def OX:Df:=dD "first_part" 37 1 ["holders"] []
def Qo:Df:=dD "part_numbered" 38 2 ["parts","number"] []
def PR:Df:=dD "with_part" 39 3 ["parts","number","part","after"] ["after"]
def P9:Df:=dD "checked_many" 40 1 ["parts"] []
def QC:Df:=dD "fallen_parts" 42 4 ["part","numbers","heirs","deed","share"] []
def Pw:Df:=dD "parts_after" 43 5 ["parts","gone","follows","dead","deed","after","number","part","holders","left","heirs","numbers","fallen","all_dead"] ["after"]
def Q4:Df:=dD "whole_handed" 46 4 ["parts","number","receivers","deed","part"] []
def Rf:Df:=dD "piece_handed" 47 5 ["parts","number","twentieths","receivers","deed","part","share","trail","left","rest","given"] []
def Rb:Df:=dD "hand_part" 48 6 ["parts","number","name","twentieths","receivers","deed","part","after"] []
def OP:Df:=dD "sever_part" 50 4 ["parts","number","name","deed","part","share","holders","trail","many","others","rest","taken"] []
def d22:Df:=⟨"__init__",mtop 53 0,["self","deed","part_list","follows","dead"],["self","deed","part_list","follows","dead"],[],"Standing.__init__",2⟩
def d23:Df:=⟨"__init__",mtop 54 0,["self","names"],["self","names"],["standings"],"Register.__init__",3⟩
def OV:Df:=⟨"last",mtop 54 1,["self"],["self"],[],"Register.last",1⟩
def Qc:Df:=⟨"next_number",mtop 54 2,["self"],["self"],[],"Register.next_number",1⟩
def Q3:Df:=⟨"check_people",mtop 54 3,["self","names"],["self","names"],[],"Register.check_people",1⟩
def OM:Df:=⟨"check_granted",mtop 54 5,["self"],["self"],[],"Register.check_granted",1⟩
def P2:Df:=⟨"keep",mtop 54 6,["self","deed","part_list","follows","dead","number"],["self","deed","part_list","follows","dead"],[],"Register.keep",1⟩
def Qw:Df:=⟨"grant",mtop 54 7,["self","names","holders","last"],["self","names"],[],"Register.grant",1⟩
def Qy:Df:=⟨"sever",mtop 54 8,["self","name","number","last","part_list"],["self","name","number"],[],"Register.sever",1⟩
def Py:Df:=⟨"hand",mtop 54 9,["self","name","number","twentieths","receivers","group","last","part_list"],["self","name","number","twentieths","receivers"],[],"Register.hand",1⟩
def QO:Df:=⟨"follow",mtop 54 10,["self","name","follower","last","follows"],["self","name","follower"],[],"Register.follow",1⟩
def Qr:Df:=⟨"die",mtop 54 11,["self","names","gone","last","part_list"],["self","names"],[],"Register.die",1⟩
def Ra:Df:=⟨"back",mtop 54 12,["self"],["self"],[],"Register.back",1⟩
def QV:Df:=⟨"parts",mtop 54 13,["self"],["self"],[],"Register.parts",1⟩
def QG:Df:=⟨"deeds",mtop 54 14,["self"],["self"],[],"Register.deeds",1⟩
def d37:Df:=⟨"follower",mtop 54 17,["self","name"],["self","name"],[],"Register.follower",1⟩
def Qi:Df:=dD "_law_at" 56 2 ["_law_script","_law_k"] []
def Qt:Df:=dD "_law_people" 57 3 ["_law_many","_law_how","_law_shift","_law_letters","_law_fill","_law_ahead","_law_made","_law_k","_law_one","_law_two"] ["_law_made"]
def P6:Df:=dD "_law_group_bad" 58 1 ["_law_deed","_law_group","_law_most"] []
def QI:Df:=dD "_law_persons" 59 1 ["_law_deed"] []
def Pj:Df:=dD "_law_part_due" 60 2 ["_law_held","_law_deed","_law_holders"] []
def Pq:Df:=dD "_law_more" 61 2 ["_law_held","_law_deed","_law_more_here","_law_part"] []
def Pd:Df:=dD "_law_due" 62 3 ["_law_state","_law_deed","_law_people_here","_law_held","_law_named","_law_done","_law_persons_here","_law_word","_law_gone"] []
def PL:Df:=dD "_law_with" 63 5 ["_law_trail","_law_deed","_law_number","_law_share","_law_holders"] []
def Q5:Df:=dD "_law_low" 64 2 ["_law_top","_law_below","_law_a","_law_b"] []
def OW:Df:=dD "_law_severed" 65 4 ["_law_held","_law_number","_law_name","_law_deed","_law_share","_law_holders","_law_trail","_law_many","_law_rest","_law_stays","_law_taken","_law_made"] ["_law_made"]
def Q6:Df:=dD "_law_handed" 66 5 ["_law_held","_law_number","_law_pieces","_law_to","_law_deed","_law_share","_law_holders","_law_trail","_law_made","_law_stays","_law_goes"] ["_law_made"]
def Pf:Df:=dD "_law_heir" 67 3 ["_law_name","_law_named","_law_gone","_law_at_here","_law_turn"] []
def OO:Df:=dD "_law_fallen" 68 5 ["_law_held","_law_group","_law_named","_law_gone","_law_deed","_law_made","_law_new","_law_k","_law_share","_law_holders","_law_trail","_law_left","_law_even","_law_heirs","_law_heir_here","_law_number"] ["_law_made","_law_new"]
def Qv:Df:=dD "_law_told" 69 1 ["_law_deed"] []
def OT:Df:=dD "_law_apply" 70 2 ["_law_state","_law_deed","_law_held","_law_gone","_law_named","_law_done","_law_number","_law_after","_law_to","_law_more_here","_law_fell"] ["_law_more_here"]
def QM:Df:=dD "_law_call" 71 2 ["_law_land","_law_deed","_law_group"] []
def Qm:Df:=dD "_law_do" 72 2 ["_law_land","_law_deed","e","_law_flags","_law_words"] []
def PZ:Df:=dD "_law_same" 73 2 ["_law_found","_law_due_here","_law_alike","_law_k"] []
def Qn:Df:=dD "_law_answer" 74 3 ["_law_found","_law_word","_law_number"] []
def Po:Df:=dD "_law_back" 75 1 ["_law_land","_law_word"] []
def Pc:Df:=dD "_law_holdings" 76 2 ["_law_land","_law_held","_law_found","_law_k"] []
def P0:Df:=dD "_law_crowd" 77 5 ["_law_cell","_law_turn","_law_people_here","_law_gone","_law_held","_law_at_here","_law_some","_law_k","_law_joint","_law_alive","_law_start"] []
def d60:Df:=dD "law" 78 1 ["_law_script","_law_land","_law_rows","_law_size","_law_to","_law_pieces","_law_states","_law_deed","_law_word","_law_k","_law_people_here"] ["_law_rows","_law_states"]
noncomputable def ds:List Df:=[d0,d1,d2,d3,d4,d5,d6,d7,d8,d9,QF,P8,OX,Qo,PR,P9,QC,Pw,Q4,Rf,Rb,OP,d22,d23,OV,Qc,Q3,OM,P2,Qw,Qy,Py,QO,Qr,Ra,QV,QG,d37,Qi,Qt,P6,QI,Pj,Pq,Pd,PL,Q5,OW,Q6,Pf,OO,Qv,OT,QM,Qm,PZ,Qn,Po,Pc,P0,d60]
noncomputable def gl:List (Str×Gk):=("is_name",.fn 0 1)::("has_one_twice",.fn 1 1)::("checked_names",.fn 2 1)::("group_of",.fn 3 3)::("names_without",.fn 4 2)::("check_known",.fn 5 2)::("check_living",.fn 6 3)::("heir_of",.fn 7 3)::("common_divisor",.fn 8 2)::("lowest",.fn 9 2)::("piece_of",.fn 10 3)::("part_behind",.fn 11 5)::("first_part",.fn 12 1)::("part_numbered",.fn 13 2)::("with_part",.fn 14 3)::("checked_many",.fn 15 1)::("fallen_parts",.fn 16 4)::("parts_after",.fn 17 5)::("whole_handed",.fn 18 4)::("piece_handed",.fn 19 5)::("hand_part",.fn 20 6)::("sever_part",.fn 21 4)::("Standing",.ctor 22 5)::("Register",.ctor 23 2)::("last",.mth 24 1)::("next_number",.mth 25 1)::("check_people",.mth 26 2)::("check_granted",.mth 27 1)::("keep",.mth 28 5)::("grant",.mth 29 2)::("sever",.mth 30 3)::("hand",.mth 31 5)::("follow",.mth 32 3)::("die",.mth 33 2)::("back",.mth 34 1)::("parts",.mth 35 1)::("deeds",.mth 36 1)::("follower",.mth 37 2)::("_law_at",.fn 38 2)::("_law_people",.fn 39 3)::("_law_group_bad",.fn 40 1)::("_law_persons",.fn 41 1)::("_law_part_due",.fn 42 2)::("_law_more",.fn 43 2)::("_law_due",.fn 44 3)::("_law_with",.fn 45 5)::("_law_low",.fn 46 2)::("_law_severed",.fn 47 4)::("_law_handed",.fn 48 5)::("_law_heir",.fn 49 3)::("_law_fallen",.fn 50 5)::("_law_told",.fn 51 1)::("_law_apply",.fn 52 2)::("_law_call",.fn 53 2)::("_law_do",.fn 54 2)::("_law_same",.fn 55 2)::("_law_answer",.fn 56 3)::("_law_back",.fn 57 1)::("_law_holdings",.fn 58 2)::("_law_crowd",.fn 59 5)::("law",.fn 60 1)::("CROWN",.con (.str "CROWN"))::("PERSONS_MOST",.con (.int 30))::("LETTERS_MOST",.con (.int 12))::("HOLDERS_MOST",.con (.int 6))::("ONE",.con (.tup [(.int 1),(.int 1)]))::("PARTS_MOST",.con (.int 60))::("TWENTIETHS",.con (.int 20))::("DEEDS_MOST",.con (.int 200))::("BadNames",.cls 0)::("BadGroup",.cls 1)::("Unknown",.cls 2)::("Dead",.cls 3)::("NotGranted",.cls 4)::("GrantedBefore",.cls 5)::("NoPart",.cls 6)::("NotHeld",.cls 7)::("BadPiece",.cls 8)::("TooManyParts",.cls 9)::("TooManyDeeds",.cls 10)::("NothingDone",.cls 11)::("JointholdError",.bas)::[]
theorem made:rP ds gl=true:=by decide +kernel
noncomputable def b0:List S:=fN
noncomputable def b1:List S:=fD
noncomputable def b2:List S:=kd 0 0 1
noncomputable def b3:List S:=sk 1 1
noncomputable def b4:List S:=fk
noncomputable def b5:List S:=tD 2
noncomputable def b6:List S:=ur 3 5
noncomputable def b7:List S:=iy
noncomputable def b8:List S:=oa
noncomputable def b9:List S:=wA 8
noncomputable def PH:List S:=j6 9
noncomputable def Pl:List S:=bE
noncomputable def OZ:List S:=j7 11
noncomputable def Qa:List S:=bZ 6
noncomputable def Pu:List S:=pU
noncomputable def Q0:List S:=pI 9
noncomputable def Qz:List S:=gX 10 11
noncomputable def Rh:List S:=yR 4 7 11 16 [.ret (.call 15 [V5])]
noncomputable def Pk:List S:=vp 14 11
noncomputable def Rc:List S:=tV 10 11 14
noncomputable def Pg:List S:=xI 13 18 19 15 7 8
noncomputable def Q2:List S:=vq 13 4 11 10 15 14 7
noncomputable def QS:List (Bool×E):=[(false,V1),(false,V2),(false,V3),(false,V4)]
noncomputable def Qq:List (Bool×E):=[(false,(.call 2 [V1])),(true,(.lst [(.call 2022 [(.con .non),(.lst []),.dic0,(.lst [])])]))]
noncomputable def OS:List S:=me
noncomputable def Ql:List S:=vj
noncomputable def PX:List S:=qS 6 24
noncomputable def Qg:List S:=qh 24 4
noncomputable def PD:List S:=qE 10 25 22
noncomputable def QW:List S:=rZ 5 3 26 24 28 12
noncomputable def Qx:List S:=yy 26 27 24 21 25 28
noncomputable def QD:List S:=Ej 3 26 27 24 20 25 28
noncomputable def QH:List S:=ua 26 27 24 28
noncomputable def Qj:List S:=Ex 3 26 27 24 17 25 28
noncomputable def PY:List S:=tQ 11 24
noncomputable def Qf:List S:=Bx 24
noncomputable def QX:List S:=Ik
noncomputable def Q1:List S:=Mu
noncomputable def Pb:List S:=kx
noncomputable def P4:List S:=j3
noncomputable def QN:List S:=mj
noncomputable def PQ:List S:=kX
noncomputable def Qb:List S:=xD
noncomputable def Qp:List S:=IW 40 41 42 43
noncomputable def P5:List S:=bE
noncomputable def Pr:List S:=jN
noncomputable def PJ:List S:=lF 46 45
noncomputable def Qu:List S:=oF 46 45
noncomputable def Qd:List S:=iC
noncomputable def Rg:List S:=tj 45 46 49
noncomputable def Q9:List S:=vi
noncomputable def OQ:List S:=AW 51 45 47 48 50
noncomputable def PN:List S:=uv 30 32 29 31 33
noncomputable def Pa:List S:=Ms 53 [0,1,2,3,4,5,6,7,8,9,10,11]
noncomputable def PB:List S:=xF 55
noncomputable def QQ:List S:=[.ret (.call 55 [V0,(.ite (.cmp .Eq V1 (.con (.str ""))) V2 (.tup [V1]))])]
noncomputable def QJ : List S := [.asg 1 (.con (.str "")),
 .tryR (.mth 34 V0 []) [(11,.asg 1 (.str "NothingDone"))],
 .ret (.tup [V1])]
noncomputable def N3 : List S := [.asg 2 (.mth 35 V0 []),
 .if_ (.or_ (.not_ (.isi V2 [.list])) (.cmp .NotEq (.blt .len [V2]) (.blt .len [V1]))) [.ret (.con (.bl false))] [],
 .for_ [3] (.rng [(.blt .len [V1])]) [.if_ (.or_ (.not_ (.isi (.ix V2 V3) [.tuple])) (.cmp .NotEq (.blt .len [(.ix V2 V3)]) (.con (.int 3)))) [.ret (.con (.bl false))] [],
 .if_ (.or_ (.not_ (.call 55 [(.ix (.ix V2 V3) (.con (.int 0))),(.ix (.ix V1 V3) (.con (.int 0)))])) (.not_ (.call 55 [(.ix (.ix V2 V3) (.con (.int 1))),(.ix (.ix V1 V3) (.con (.int 1)))]))) [.ret (.con (.bl false))] []],
 .ret (.con (.bl true))]
noncomputable def b59 : List S := [.asg 9 (.compS [11] 1 V2 [(.cmp .NotIn vf V3)] vf),
 .if_ (.cmp .Eq V9 (.lst [])) [.asg 9 (.blt .list [V2])] [],
 .asg 5 (.bin .Mod (.bin .FloorDiv V0 (.con (.int 8))) (.blt .len [V4])),
 .asg 10 (.bin .Add (.bin .FloorDiv V0 (.con (.int 8))) V1),
 .asg 6 (.compR [7] 0 [(.blt .min [(.con (.int 3)),(.blt .len [V9])])] [] (.ix V9 (.bin .Mod (.bin .Add eC V7) (.blt .len [V9])))),
 .if_ (.cmp .Lt (.bin .Mod V0 (.con (.int 8))) (.con (.int 2))) [.ret (.lst [(.con (.str "hand")),(.ix (.ix (.ix V4 V5) (.con (.int 1))) (.con (.int 0))),(.bin .Add V5 (.con (.int 1))),(.ix (.lst [KR,xq]) (.bin .Mod V0 (.con (.int 8)))),V6])] [],
 .for_ [7] (.rng [(.blt .len [V4])]) [.if_ (.cmp .Gt (.blt .len [(.ix (.ix V4 (.bin .Mod (.bin .Add V5 V7) (.blt .len [V4]))) (.con (.int 1)))]) (.con (.int 1))) [.asg 8 (.bin .Mod (.bin .Add V5 V7) (.blt .len [V4])),
 .if_ (.cmp .Lt (.bin .Mod V0 (.con (.int 8))) (.con (.int 4))) [.ret (.lst [(.con (.str "sever")),(.ix (.ix (.ix V4 V8) (.con (.int 1))) (.con (.int 0))),(.bin .Add V8 (.con (.int 1)))])] [],
 .if_ (.cmp .Eq (.bin .Mod V0 (.con (.int 8))) (.con (.int 4))) [.ret (.lst [(.con (.str "die")),(.blt .list [(.ix (.ix V4 V8) (.con (.int 1)))])])] []] []],
 .if_ (.cmp .Eq (.bin .Mod V0 (.con (.int 8))) (.con (.int 5))) [.ret (.lst [(.con (.str "die")),(.sl V9 none (some (.con (.int 1))))])] [],
 .ret (.lst [(.con (.str "die")), (.sl V9 (some (.con (.int 1))) none)])]
noncomputable def Mw : List S := [.asg 10 (.call 39 [(.bin .Add (.con (.int 7)) (.bin .Mod (.call 38 [V0, (.con (.int 0))]) (.con (.int 4)))), (.bin .Mod (.call 38 [V0, (.con (.int 1))]) (.con (.int 363))), (.bin .Mod (.call 38 [V0, (.con (.int 2))]) (.con (.int 676)))]),
 .asg 1 (.call 2023 [(.blt .list [eC])]),
 .fresh 2 (.lst [(.lst [(.con (.str "grant")),(.lst [(.ix eC (.con (.int 0)))])])]),
 .for_ [9] (.rng [(.bin .Add (.con (.int 50)) (.bin .Mod (.call 38 [V0,(.con (.int 3))]) (.con (.int 10))))]) [.asg 3 (.bin .Add (.con (.int 1)) (.bin .Mod (.bin .Mult (.bin .Add (.call 38 [V0,(.con (.int 4))]) V9) (.bin .Mod (.call 38 [V0,(.con (.int 5))]) (.con (.int 6)))) (.con (.int 6)))),
 .asg 4 (.compR [11] 1 [V3] [] (.ix eC (.bin .Mod (.bin .Add (.bin .Add (.call 38 [V0,(.con (.int 6))]) V9) vf) (.blt .len [eC])))),
 .asg 5 (.lst [(.bin .Add (.con (.int 1)) (.bin .Mod (.bin .Add (.call 38 [V0,(.con (.int 7))]) V9) KR)),(.ix (.lst [(.con (.int 1)),(.con (.int 3)),(.con (.int 7)),(.con (.int 9)),Me,(.con (.int 13)),(.con (.int 17)),KR]) (.bin .Mod (.call 38 [V0,(.con (.int 7))]) (.con (.int 8))))]),
 .exp (.meth .append V2 [(.lst [(.con (.str "hand")),(.ix eC (.con (.int 0))),(.con (.int 1)),(.ix V5 (.bin .Mod (.bin .FloorDiv (.call 38 [V0,(.con (.int 7))]) (.con (.int 8))) (.con (.int 2)))),V4])])],
 .for_ [9] (.rng [(.blt .len [eC])]) [.exp (.meth .append V2 [(.lst [(.con (.str "follow")),(.ix eC V9),(.ix eC (.bin .Mod (.bin .Add V9 (.call 38 [V0,(.con (.int 7))])) (.blt .len [eC])))])])],
 .while_ (.and_ (.cmp .Eq (.bin .Mod (.bin .FloorDiv (.call 38 [V0,(.con (.int 5))]) (.con (.int 6))) (.con (.int 3))) (.con (.int 1))) (.cmp .Lt (.blt .len [V2]) (.bin .Add (.con (.int 195)) (.bin .Mod (.call 38 [V0,(.con (.int 7))]) (.con (.int 6)))))) [.exp (.meth .append V2 [(.lst [(.con (.str "follow")),(.ix eC (.con (.int 0))),(.ix eC (.bin .Mod (.blt .len [V2]) (.blt .len [eC])))])])],
 .fresh 6 (.lst [(.lst [(.lst []),(.lst []),.dic0,(.lst [])])]),
 .for_ [7] (.seq V2) [.exp (.meth .append V6 [(.call 52 [(.ix V6 (.neg (.con (.int 1)))),V7])]),
 .if_ (.not_ (.call 56 [(.call 54 [V1,V7]),(.con (.str "")),(.bin .Sub (.blt .len [V6]) (.con (.int 1)))])) [.ret (.con (.bl false))] []],
 .for_ [9] (.rng [(.con (.int 8)),(.blt .min [(.blt .len [V0]),(.con (.int 16))])]) [.if_ (.cmp .Eq (.bin .Mod (.ix V0 V9) (.con (.int 8))) (.con (.int 7))) [.if_ (.not_ (.call 55 [(.call 57 [V1]),(.ix (.ix (.ix V6 (.neg (.con (.int 1)))) (.con (.int 3))) (.neg (.con (.int 1))))])) [.ret (.con (.bl false))] [],
 .asg 6 (.sl V6 none (some (.neg (.con (.int 1)))))] [.asg 7 (.call 59 [(.ix V0 V9),V9,eC,(.ix (.ix V6 (.neg (.con (.int 1)))) (.con (.int 1))),(.ix (.ix V6 (.neg (.con (.int 1)))) (.con (.int 0)))]),
 .asg 8 (.call 44 [(.ix V6 (.neg (.con (.int 1)))),V7,eC]),
 .if_ (.cmp .Eq V8 (.con (.str ""))) [.fresh 6 (.bin .Add V6 (.lst [(.call 52 [(.ix V6 (.neg (.con (.int 1)))),V7])]))] [],
 .if_ (.not_ (.call 56 [(.call 54 [V1,V7]),V8,(.bin .Sub (.blt .len [V6]) (.con (.int 1)))])) [.ret (.con (.bl false))] []],
 .if_ (.not_ (.call 58 [V1,(.ix (.ix V6 (.neg (.con (.int 1)))) (.con (.int 0)))])) [.ret (.con (.bl false))] []],
 .ret (.call 58 [V1, (.ix (.ix V6 (.neg (.con (.int 1)))) (.con (.int 0)))])]
noncomputable def tb:List Fn:=[⟨1,1,b0,none⟩,⟨1,1,b1,none⟩,⟨1,2,b2,none⟩,⟨3,3,b3,none⟩,⟨2,2,b4,none⟩,⟨2,3,b5,none⟩,⟨3,4,b6,none⟩,⟨3,5,b7,none⟩,⟨2,3,b8,none⟩,⟨2,3,b9,none⟩,⟨3,3,PH,none⟩,⟨5,5,Pl,none⟩,⟨1,1,OZ,none⟩,⟨2,2,Qa,none⟩,⟨3,4,Pu,none⟩,⟨1,1,Q0,none⟩,⟨4,5,Qz,none⟩,⟨5,14,Rh,none⟩,⟨4,5,Pk,none⟩,⟨5,11,Rc,none⟩,⟨6,8,Pg,none⟩,⟨4,12,Q2,none⟩,⟨5,5,[],some (0,QS)⟩,⟨2,2,[],some (1,Qq)⟩,⟨1,1,OS,none⟩,⟨1,1,Ql,none⟩,⟨2,2,PX,none⟩,⟨1,1,Qg,none⟩,⟨5,6,PD,none⟩,⟨2,4,QW,none⟩,⟨3,5,Qx,none⟩,⟨5,8,QD,none⟩,⟨3,5,QH,none⟩,⟨2,5,Qj,none⟩,⟨1,1,PY,none⟩,⟨1,1,Qf,none⟩,⟨1,1,QX,none⟩,(d37.fn gl).getD ⟨0,0,[],none⟩,⟨2,2,Q1,none⟩,⟨3,10,Pb,none⟩,⟨1,3,P4,none⟩,⟨1,1,QN,none⟩,⟨2,3,PQ,none⟩,⟨2,4,Qb,none⟩,⟨3,9,Qp,none⟩,⟨5,5,P5,none⟩,⟨2,4,Pr,none⟩,⟨4,12,PJ,none⟩,⟨5,11,Qu,none⟩,⟨3,5,Qd,none⟩,⟨5,16,Rg,none⟩,⟨1,1,Q9,none⟩,⟨2,11,OQ,none⟩,⟨2,3,PN,none⟩,⟨2,5,Pa,none⟩,⟨2,4,PB,none⟩,⟨3,3,QQ,none⟩,⟨1,2,QJ,none⟩,⟨2,4,N3,none⟩,⟨5,11,b59,none⟩,⟨1,11,Mw,none⟩]
theorem L7:wt ds gl=tb:=by rfl
noncomputable abbrev fW:Nat:=2^2010
theorem IM:2^2010<=fW:=zD _
noncomputable def RX:Rx:={ gc:=8,lo:=9,pi:=10,be:=11,nu:=13,wp:=14,ck:=15,wi:=4,wh:=18,ph:=19,hp:=20,sp:=21,hr:=7,fa:=16,pa:=17,eNP:=6,eNH:=7,eBP:=8,eTP:=9,tw:=1,gp:=3,kn:=5,lv:=6,sf:=22,la:=24,nx:=25,pc:=26,gd:=27,kp:=28,fi:=12,gr:=29,sv:=30,hd:=31,fl:=32,di:=33,eBG:=1,eUn:=2,eDe:=3,eNG:=4,eGB:=5,eTD:=10 }
theorem JC:RX.In tb:=⟨⟨rfl,rfl,rfl,rfl,rfl,rfl,rfl,rfl,rfl,rfl,rfl,rfl⟩,⟨ZzD,rfl,rfl,rfl,rfl,rfl,rfl,rfl,rfl,rfl,rfl⟩,rfl,rfl,rfl,rfl,rfl,rfl⟩
theorem Kk:RX.toIx.Dh tb:=⟨rfl,rfl,rfl⟩
theorem LZ:RX.Std:=⟨rfl⟩
noncomputable def AX:Ax:={ to:=51,be:=45,lo:=46,sv:=47,hn:=48,he:=49,fa:=50,ap:=52 }
theorem Ma:AX.In tb:=⟨rfl,rfl,rfl,rfl,rfl,rfl,rfl,rfl⟩
section
variable {m how shift:Nat}{q:Sd}{h:aa}{C:List Sd}{G:List Str}{Ss dn:List W}
noncomputable abbrev PP(m how shift:Nat):List Str:=B9 m how shift
noncomputable abbrev KK(m how shift:Nat):List Str:=bp (B9 m how shift)
theorem kP:∀y∈KK m how shift,y∈PP m how shift:=λy hy=>srt_mem.mp hy
theorem nP:∀y∈PP m how shift,aG y:=GP
theorem kS(s:Str):a9 s (KK m how shift)=a9 s (PP m how shift):=gJ s _
noncomputable abbrev CH(m how shift:Nat):=Ch RX (KK m how shift)
theorem MH:∀c∈tenL,[0,1,2,3,4,5,6,7,8,9,10,11].contains c=true:=ZzD
theorem same(d:Nat)(w:W)(h:aa)(hd:oZ w<d)(ho:pA w=true):ae fW tb d 55 [w,w] h=.ok (.bl true) h:=ql rfl d w h hd ho
theorem uK(d k:Nat):ae fW tb (d+2) 56 [aq k,.str "",aq k] h=.ok (.bl true) h:=by rw[af  rfl rfl];have s:=same (d+1) (aq k) h (Nat.zero_lt_succ _) rfl;exact eO  (a7 (aQ (cW (ao  rfl) (vm (bD (A6 (x:="")  (ao  rfl) av)) (ao  rfl)) s))) aC
theorem BW(d k:Nat){w:Str}(hw:w≠""):ae fW tb (d+3) 56 [.tup [.str w],.str w,aq k] h=.ok (.bl true) h:=by have s:=same (d+2) (.tup [.str w]) h (by show 1<d+2;lia) rfl;exact eO  (a7 (aQ (cW (U0 rfl) (uT (bD ((A6 (U1 rfl) av).trans (by grind))) (i7 (aj (U1 rfl) ay) ZzS)) s))) aC
theorem KD(d:Nat)(r:Rec (PP m how shift) C q G Ss dn)(hC:0<C.length){ws:List W}(hn:h[0]?=some (.lst (ws++[q.W]))):ae fW tb (d+3) 57 [gn (KK m how shift) 0] h=.ok q.dw (h.set 0 (.lst ws)):=by have c:=As (fw:=fW) (tb:=tb) (f:=34) (c:=11) (la:=24) rfl rfl d (KK m how shift) 0 ws q.dw [.lst (q.xs.map aI),.dic q.ks (q.vs.map W.str),.lst (q.G.map W.str)] h hn (by have:=Sd.pw r.ok;rw[ak]at this;exact this);rw[r.hg,zV ZzL,zM ZzD]at c;refine eO  ((ai (bz av)).trans (a7 (IE (ow (U0 rfl) ay c)))) ?_;unfold J.fin;dsimp only;rw[bK _ r.ok.d2];dsimp only;rw[iV]
noncomputable abbrev Qh : List S := [.if_ (.or_ (.not_ (.isi (.ix V2 V3) [.tuple])) (.cmp .NotEq (.blt .len [(.ix V2 V3)]) (.con (.int 3)))) [.ret (.con (.bl false))] [],
 .if_ (.or_ (.not_ (.call 55 [(.ix (.ix V2 V3) (.con (.int 0))), (.ix (.ix V1 V3) (.con (.int 0)))])) (.not_ (.call 55 [(.ix (.ix V2 V3) (.con (.int 1))), (.ix (.ix V1 V3) (.con (.int 1)))]))) [.ret (.con (.bl false))] []]
theorem u9(d:Nat){P:List Str}{n:Nat}(ok:q.Ok P n){ws:List W}(hn:h[0]?=some (.lst (ws++[q.W]))):ae fW tb (d+4) 58 [gn (KK m how shift) 0,.lst (q.xs.map aI)] h=.ok (.bl true) h:=by
 rw[af (g:=⟨2,4,N3,none⟩) rfl rfl]
 have c:=vL (fw:=fW) (tb:=tb) (f:=35) (la:=24) rfl rfl (d+1) (KK m how shift) 0 ws q.dw (q.xs.map aI) [.dic q.ks (q.vs.map W.str),.lst (q.G.map W.str)] h hn (by have:=Sd.pw ok;rw[ak]at this;exact this)
 obtain⟨r,lp⟩:=pG (i:=3) (body:=aA (ae fW tb (d+3)) fW Qh) (σ:=[some (gn (KK m how shift) 0),some (.lst (q.xs.map aI)),some (.lst (q.xs.map aI)),none]) (h:=h) ((List.range q.xs.length).map λ(k:Nat)=>W.int (0+(k:Int))) none λw hw=>by
  obtain⟨k,hk,rfl⟩:=Zx.mp hw
  have hk:=ZF.mp hk
  have X:=ok.x1 q.xs[k] (ZM hk)
  rw[Int.zero_add]
  simp! [show dC (.lst (q.xs.map aI)) (.int k) h=_ from cy rfl (yC hk),show [Ty.tuple].mapM (bq h (aI q.xs[k]))=some [true] from rfl,show [true].any id=true from rfl,show bA .len [aI q.xs[k]] h=.ok (.int 3) h from rfl,same (d+3) (sh q.xs[k].p q.xs[k].q) h (by show 1<_;lia) rfl,same (d+3) (.tup (q.xs[k].hs.map W.str)) h (by rw[oZ,eZ];lia) (by rw[pA,fq,zo,zX (zf X.h1 ZzD)];rfl)]
 simp_arith at lp
 simp! [N3,c,show [Ty.list].mapM (bq h (.lst (q.xs.map aI)))=some [true] from rfl,show [true].any id=true from rfl,xf (zQ ok.x2 ZzD),lp]
end
theorem oh(D:Dd):ak D.L=true:=iU D (ax _)
theorem l2{cf:CF}{σ:ag}{h:aa}{a b:E}{x y:W}(ea:evE cf a σ h=.ok x h)(eb:evE cf b σ h=.ok y h):evE cf (.lst [a,b]) σ h=.ok (.lst [x,y]) h:=cj (eU ea eb) ZzS
theorem l3{cf:CF}{σ:ag}{h:aa}{a b c:E}{x y z:W}(ea:evE cf a σ h=.ok x h)(eb:evE cf b σ h=.ok y h)(ec:evE cf c σ h=.ok z h):evE cf (.lst [a,b,c]) σ h=.ok (.lst [x,y,z]) h:=cj (aj ea (eU eb ec)) ZzS
theorem Jh{r:Nat}(h:r<2):∃t:Int,t.natAbs<10^100/\∀hh,dC (.lst [W.int 19,W.int 20]) (aq r) hh=.ok (.int t) hh:=by
 match r,h with
 |0,_=>exact⟨19,ZzS,λhh=>rT rfl⟩
 |1,_=>exact⟨20,ZzS,λhh=>rT rfl⟩
noncomputable abbrev QR : List S := [.if_ (.cmp .Gt (.blt .len [(.ix (.ix V4 (.bin .Mod (.bin .Add V5 V7) (.blt .len [V4]))) (.con (.int 1)))]) (.con (.int 1))) [.asg 8 (.bin .Mod (.bin .Add V5 V7) (.blt .len [V4])),
 .if_ (.cmp .Lt (.bin .Mod V0 (.con (.int 8))) (.con (.int 4))) [.ret (.lst [(.con (.str "sever")),(.ix (.ix (.ix V4 V8) (.con (.int 1))) (.con (.int 0))),(.bin .Add V8 (.con (.int 1)))])] [],
 .if_ (.cmp .Eq (.bin .Mod V0 (.con (.int 8))) (.con (.int 4))) [.ret (.lst [(.con (.str "die")), (.blt .list [(.ix (.ix V4 V8) (.con (.int 1)))])])] []] []]
theorem EB{i:Nat}{body:ag->aa->Res Fl}{h:aa}{Q:W->Prop}{Iv:ag->Prop}(st:∀(k:Nat) σ,Iv σ->(∃w,Q w/\body (σ.set i (some (.int k))) h=.ok (.ret w) h)\/∃σ2,body (σ.set i (some (.int k))) h=.ok (.nx σ2) h/\Iv σ2):∀(ks:List Nat) (σ:ag),Iv σ ->
  (∃w,Q w/\fo [i] body (ks.map λ(k:Nat)=>W.int (0+(k:Int))) σ h=.ok (.ret w) h)\/∃σ2,fo [i] body (ks.map λ(k:Nat)=>W.int (0+(k:Int))) σ h=.ok (.nx σ2) h/\Iv σ2
 |[],σ,q=>.inr ⟨σ,by rw[Zy,fo],q⟩
 |k::ks,σ,q=>by rw[zO,Int.zero_add];rcases st k σ q with⟨w,q,e⟩|⟨σ2,e,q⟩;exact .inl ⟨w,q,sD rfl e⟩;rcases EB st ks σ2 q with⟨w,q,z⟩|⟨σ3,z,q⟩;exact .inl ⟨w,q,(cJ rfl e).trans z⟩;exact .inr ⟨σ3,(cJ rfl e).trans z,q⟩
noncomputable abbrev cS(z:Int)(k:Nat)(P G:List Str)(xs:List Pt)(a b c e f g:Option W):ag:=[some (.int z),some (aq k),some (.lst (P.map W.str)),some (.lst (G.map W.str)),some (.lst (xs.map aI)),a,b,c,e,f,g]
theorem K4(d:Nat){P G:List Str}{xs:List Pt}{n:Nat}(z:Int)(k:Nat)(p0:0<P.length)(p30:P.length<=30)(nP:∀y∈P,aG y)(hxs:∀x∈xs,x.R n)(x0:0<xs.length)(x60:xs.length<=60) :
  ∃D:Dd,D.Fit/\D.isG=false/\ae fW tb (d+1) 59 [.int z,aq k,.lst (P.map W.str),.lst (G.map W.str),.lst (xs.map aI)] h=.ok D.L h:=by
 obtain⟨i,ei,hi⟩:=bQ (z.fdiv 8) x0
 obtain⟨r,er,hr⟩:∃r:Nat,z.fmod 8=r/\r<8:=bQ z ZzD
 rw[af (g:=⟨5,11,b59,none⟩) rfl rfl]
 generalize ae fW tb d=cf
 let Q (w:W):Prop:=∃D:Dd,D.Fit/\D.isG=false/\w=D.L
 have M {hh}:ip .Mod (.int z) (.int 8) hh=.ok (.int r) hh:=(eL hh ZzD).trans (by rw[er])
 have I {hh}:ip .FloorDiv (.int z) (.int 8) hh=.ok (.int (z.fdiv 8)) hh:=oN hh ZzD ZzD
 have at_ {j:Nat} (hj:j<xs.length):∃s,aG s/\∀hh,dC (.lst (xs.map aI)) (.int j) hh=.ok (aI xs[j]) hh/\dC (.tup (xs[j].hs.map W.str)) (.int 0) hh=.ok (.str s) hh:=by have X:=hxs _ (ZM hj);exact⟨_,X.nm _ (ZM X.h0),λhh=>⟨cy rfl (yC hj),xZ (k:=0) X.h0 hh⟩⟩
 have big {j:Nat} (hj:j<xs.length):(((j+1:Nat):Int)).natAbs<10^100:=zj (show(((j+1:Nat):Int)).natAbs<100 by lia) ZzD
 have main {A:List Str} (a0:0<A.length) (a30:A.length<=30) (nA:∀y∈A,aG y):∃D:Dd,D.Fit/\D.isG=false/\aA cf fW (b59.drop 2) (cS z k P G xs none none none none (some (.lst (A.map W.str))) none) h=.ok (.ret D.L) h:=by
  suffices hh:∃w,Q w/\aA cf fW (b59.drop 2) (cS z k P G xs none none none none (some (.lst (A.map W.str))) none) h=.ok (.ret w) h by obtain⟨w,⟨D,f,g,rfl⟩,e⟩:=hh;exact⟨D,f,g,e⟩
  have F (j:Nat):∃s,s∈A/\∃i:Nat,(z.fdiv 8+(k:Int)+(j:Int)).fmod (A.length:Int)=(i:Int)/\(A.map W.str)[i]?=some (.str s):=by obtain⟨i,ei,hi⟩:=bQ (z.fdiv 8+(k:Int)+(j:Int)) a0;exact⟨A[i],ZM hi,i,ei,by rw[zT,zJ hi];rfl⟩
  let SS:List Str:=(List.range (min 3 A.length)).map λj=>(F j).choose;have nS:∀s∈SS,aG s:=λs hs=>by obtain⟨j,_,rfl⟩:=Zx.mp hs;exact nA _ (F j).choose_spec.1
  have lS:SS.length<=3:=by show((List.range (min 3 A.length)).map _).length<=3;rw[zo,ZX];lia
  have ss:evE cf (.compR [7] 0 [(.blt .min [(.con (.int 3)),(.blt .len [V9])])] [] (.ix V9 (.bin .Mod (.bin .Add eC V7) (.blt .len [V9])))) (cS z k P G xs (some (.int i)) none none none (some (.lst (A.map W.str))) (some (.int (z.fdiv 8+k)))) h=.ok (.lst (SS.map W.str)) h:=by have len {τ:ag}{hh} (e:τ[9]?=some (some (.lst (A.map W.str)))):evE cf (.blt .len [V9]) τ hh=.ok (aq A.length) hh:=(fR (ao e) rfl).trans (by rw[zo]);refine(qq (m:=min 3 A.length) (F:=λj=>.str (F j).choose) (tX (m:=3) aD (len rfl)) ZzL (λj hj=>⟨rfl,λhh=>?_⟩)).trans (by rw[zzm];rfl);obtain⟨_,i2,e2,e3⟩:=(F j).choose_spec;exact lj rfl (bO (U9 rfl) (dY (jZ (ao (i:=10) rfl) (U7 rfl)) (len rfl) a0 e2) (cy rfl e3))
  generalize SS=SS at *;have JJ:ip .Mod (.int (z.fdiv 8)) (.int xs.length) h=.ok (.int i) h:=(eL h ZzL).trans (by rw[ei]);have lp:=EB (i:=7) (body:=aA cf fW QR) (h:=h) (Q:=Q) (Iv:=λτ=>∃c e,τ=cS z k P G xs (some (.int i)) (some (.lst (SS.map W.str))) c e (some (.lst (A.map W.str))) (some (.int (z.fdiv 8+k)))) (λj0 τ hτ=>by
   obtain⟨c,e,rfl⟩:=hτ
   have hj:(i+j0)%xs.length<xs.length:=ZU _ x0
   have K:ip .Mod (.int ((i+j0:Nat):Int)) (.int xs.length) h=.ok (.int ((i+j0)%xs.length:Nat)) h:=(eL h ZzL).trans (by rw[iO])
   generalize (i+j0)%xs.length=j at *
   obtain⟨s,ns,a⟩:=at_ hj
   have X:=hxs _ (ZM hj)
   by_cases b:1<xs[j].hs.length
   ·by_cases b4:r<4
    ·exact .inl ⟨_,⟨.sever s ((j+1:Nat):Int),⟨ns,big hj⟩,rfl,rfl⟩,by simp! [K,M,a,b,b4];rfl⟩
    ·by_cases b5:r=4
     ·exact .inl ⟨_,⟨.die xs[j].hs,⟨zQ X.h1 ZzD,X.nm⟩,rfl,rfl⟩,by simp! [K,M,a,b,b4,b5];rfl⟩
     ·exact .inr ⟨_,by simp! [K,M,a,b,b4,b5];rfl,_,_,rfl⟩
   ·exact .inr ⟨_,by simp! [K,M,a,b];rfl,_,_,rfl⟩) (List.range xs.length) _ ⟨none,none,rfl⟩
  by_cases b6:r<2;obtain⟨t,ht,pk⟩:=Jh b6;obtain⟨s,ns,a⟩:=at_ hi;exact⟨_,⟨.hand s ((i+1:Nat):Int) t SS,⟨ns,big hi,ht,ZzL,nS⟩,rfl,rfl⟩,by simp! [b59,zzT,zzu,I,JJ,M,ss,a,pk,b6];rfl⟩;rcases lp with⟨w,q,lp⟩|⟨τ,lp,c,e,rfl⟩;exact⟨w,q,by simp! [b59,zzT,zzu,I,JJ,M,ss,b6,xf (show xs.length<2^62 by lia),lp]⟩;have T1:Dg (.lst (A.map W.str)) none (some 1) h=.ok (.lst ((A.take 1).map W.str)) h:=by show Res.ok (W.lst (jB (A.map W.str) none (some ((1:Nat):Int)))) h=_;unfold jB;rw[HT.sIx_none,HT.sIx_nat,zo,Nat.min_eq_left a0];simp
  have T2:Dg (.lst (A.map W.str)) (some 1) none h=.ok (.lst ((A.drop 1).map W.str)) h:=by show Res.ok (W.lst (jB (A.map W.str) (some ((1:Nat):Int)) none)) h=_;unfold jB;rw[HT.sIx_none,HT.sIx_nat,zo,Nat.min_eq_left a0];simp[Z3]
  by_cases b8:r=5;exact⟨_,⟨.die (A.take 1),⟨by rw[Zk];lia,λs hs=>nA s (List.mem_of_mem_take hs)⟩,rfl,rfl⟩,by simp! [b59,zzT,zzu,I,JJ,M,ss,b6,xf (show xs.length<2^62 by lia),lp,b8,T1,show ¬ 5<2 by decide];rfl⟩;exact⟨_,⟨.die (A.drop 1),⟨by rw[List.length_drop];lia,λs hs=>nA s (List.mem_of_mem_drop hs)⟩,rfl,rfl⟩,by simp! [b59,zzT,zzu,I,JJ,M,ss,b6,xf (show xs.length<2^62 by lia),lp,b8,T2];rfl⟩
 have wrap {A:List Str} (a0:0<A.length) (a30:A.length<=30) (nA:∀y∈A,aG y) (s2:aA cf fW b59 (cS z k P G xs none none none none none none) h=aA cf fW (b59.drop 2) (cS z k P G xs none none none none (some (.lst (A.map W.str))) none) h):∃D:Dd,D.Fit/\D.isG=false/\J.fin h.length (aA cf fW b59 (cS z k P G xs none none none none none none) h)=.ok D.L h:=by obtain⟨D,f,g,e⟩:=main a0 a30 nA;exact⟨D,f,g,eO (s2.trans e) (jK (oh D))⟩
 have s1:exS cf fW (.asg 9 (.compS [11] 1 V2 [(.cmp .NotIn vf V3)] vf)) (cS z k P G xs none none none none none none) h=.ok (.nx (cS z k P G xs none none none none (some (.lst ((P.filter λs=>!a9 s G).map W.str))) none)) h :=
  bz (fb (p:=λs=>!a9 s G) (ss:=P) (U2 rfl) rfl ZzL (λs _ hh=>gG (ao (i:=11) rfl) (U3 rfl) rfl rfl) (by show 11<12;decide))
 have t2:=Ih (cf:=cf) (us:=[]) (σ:=cS z k P G xs none none none none (some (.lst ((P.filter λs=>!a9 s G).map W.str))) none) (h:=h) (U9 rfl) (cj ay ZzD) (λs hs=>nP s (zzd.mp hs).1) (λs hs=>nomatch hs)
 by_cases e:P.filter (λs=>!a9 s G)=[]
 ·rw[zX e]at t2
  exact wrap p0 p30 nP ((ai s1).trans (ai ((lz t2).trans (Fq (o3 (U2 rfl))))))
 ·rw[zV e]at t2
  exact wrap (List.length_pos_iff.mpr e) (zf (List.length_filter_le ..) p30) (λy hy=>nP y (zzd.mp hy).1) ((ai s1).trans (ai (fV t2)))
noncomputable abbrev EO : List S := [.if_ (.cmp .Eq (.bin .Mod (.ix V0 V9) (.con (.int 8))) (.con (.int 7))) [.if_ (.not_ (.call 55 [(.call 57 [V1]), (.ix (.ix (.ix V6 (.neg (.con (.int 1)))) (.con (.int 3))) (.neg (.con (.int 1))))])) [.ret (.con (.bl false))] [],
 .asg 6 (.sl V6 none (some (.neg (.con (.int 1)))))] [.asg 7 (.call 59 [(.ix V0 V9),V9,eC,(.ix (.ix V6 (.neg (.con (.int 1)))) (.con (.int 1))),(.ix (.ix V6 (.neg (.con (.int 1)))) (.con (.int 0)))]),
 .asg 8 (.call 44 [(.ix V6 (.neg (.con (.int 1)))),V7,eC]),
 .if_ (.cmp .Eq V8 (.con (.str ""))) [.fresh 6 (.bin .Add V6 (.lst [(.call 52 [(.ix V6 (.neg (.con (.int 1)))),V7])]))] [],
 .if_ (.not_ (.call 56 [(.call 54 [V1,V7]),V8,(.bin .Sub (.blt .len [V6]) (.con (.int 1)))])) [.ret (.con (.bl false))] []],
 .if_ (.not_ (.call 58 [V1, (.ix (.ix V6 (.neg (.con (.int 1)))) (.con (.int 0)))])) [.ret (.con (.bl false))] []]
noncomputable abbrev JK : List S := [.exp (.meth .append V6 [(.call 52 [(.ix V6 (.neg (.con (.int 1)))), V7])]),
 .if_ (.not_ (.call 56 [(.call 54 [V1, V7]), (.con (.str "")), (.bin .Sub (.blt .len [V6]) (.con (.int 1)))])) [.ret (.con (.bl false))] []]
noncomputable abbrev EJ : List S := [.asg 3 (.bin .Add (.con (.int 1)) (.bin .Mod (.bin .Mult (.bin .Add (.call 38 [V0, (.con (.int 4))]) V9) (.bin .Mod (.call 38 [V0, (.con (.int 5))]) (.con (.int 6)))) (.con (.int 6)))),
 .asg 4 (.compR [11] 1 [V3] [] (.ix eC (.bin .Mod (.bin .Add (.bin .Add (.call 38 [V0,(.con (.int 6))]) V9) vf) (.blt .len [eC])))),
 .asg 5 (.lst [(.bin .Add (.con (.int 1)) (.bin .Mod (.bin .Add (.call 38 [V0,(.con (.int 7))]) V9) KR)),(.ix (.lst [(.con (.int 1)),(.con (.int 3)),(.con (.int 7)),(.con (.int 9)),Me,(.con (.int 13)),(.con (.int 17)),KR]) (.bin .Mod (.call 38 [V0,(.con (.int 7))]) (.con (.int 8))))]),
 .exp (.meth .append V2 [(.lst [(.con (.str "hand")), (.ix eC (.con (.int 0))), (.con (.int 1)), (.ix V5 (.bin .Mod (.bin .FloorDiv (.call 38 [V0, (.con (.int 7))]) (.con (.int 8))) (.con (.int 2)))), V4])])]
noncomputable abbrev Lw:List S:=[.exp (.meth .append V2 [(.lst [(.con (.str "follow")),(.ix eC V9),(.ix eC (.bin .Mod (.bin .Add V9 (.call 38 [V0,(.con (.int 7))])) (.blt .len [eC])))])])]
noncomputable def Sts(h:aa)(w:W)(us:List W):Prop:=w=.lst us\/∃n,n≠0/\w=.ref n/\h[n]?=some (.lst us)
section
variable {h:aa}{w x:W}{us:List W}
theorem Sts.seqA(s:Sts h w us):J.seqA h w=some us:=by rcases s with rfl|⟨n,_,rfl,e⟩;rfl;exact gS e
theorem Sts.seqL(s:Sts h w us):J.seqL h w=some us:=by rcases s with rfl|⟨n,_,rfl,e⟩;rfl;unfold J.seqL;simp_all
theorem Sts.seqM(s:Sts h w us):J.seqM h w=some us:=by rcases s with rfl|⟨n,_,rfl,e⟩;rfl;unfold J.seqM;simp_all
theorem Sts.set(s:Sts h w us)(o:Ob):Sts (h.set 0 o) w us:=by rcases s with rfl|⟨n,z,rfl,e⟩;exact .inl rfl;exact .inr ⟨n,z,rfl,by rw[zY (zzi z)];lia⟩
theorem Sts.ix(s:Sts h w (us++[x])):dC w (.int (-1)) h=.ok x h:=by rcases s with rfl|⟨n,_,rfl,e⟩;exact rT (fj);show(match J.seqA h (.ref n) with|some ws=>(match L2.atI ws (-1) with|some w=>Res.ok w h|none=>.stuck)|none=>.stuck)=_;rw[gS e];dsimp only;rw[fj]
variable {cf:CF}{σ:ag}{i:Nat}
theorem Sts.last(s:Sts h w (us++[x]))(e:σ[i]?=some (some w)):evE cf (.ix (.var i) (.neg (.con (.int 1)))) σ h=.ok x h:=bO (ao e) BO s.ix
theorem Sts.cut(s:Sts h w (us++[x])):Dg w none (some (-1)) h=.ok (.lst us) h:=by
 have c:jB (us++[x]) none (some (-((1:Nat):Int)))=us:=by
  unfold jB
  rw[HT.sIx_none,zzu,Nat.sub_zero]
  have:HT.sIx (us++[x]).length (us++[x]).length (some (-((1:Nat):Int)))=us.length:=by
   show(if(-((1:Nat):Int))<0 then((-((1:Nat):Int))+(((us++[x]).length:Nat):Int)).toNat else min (-((1:Nat):Int)).toNat (us++[x]).length)=us.length
   grind
  rw[this,List.take_left]
 have q:Dg w none (some (-((1:Nat):Int))) h=(match J.seqL h w with|some ws=>Res.ok (W.lst (jB ws none (some (-((1:Nat):Int))))) h|none=>.stuck):=by
  rcases s with rfl|⟨n,_,rfl,_⟩<;>rfl
 refine q.trans ?_
 rw[s.seqL]
 dsimp only
 rw[c]
end
section
variable {m how shift:Nat}{q q':Sd}{h:aa}{C:List Sd}{G:List Str}{Ss dn:List W}
noncomputable abbrev RG(m how shift:Nat):W:=gn (KK m how shift) 0
noncomputable abbrev ic(q:Sd)(G:List Str)(dn:List W):W:=AL q.xs G q.ks q.vs dn
theorem FD{P G G':List Str}{xs:List Pt}{nd:Nat}{D:Dd}(hG:∀s,a9 s G=a9 s G'):l7 P G xs nd D=l7 P G' xs nd D:=by unfold l7;simp_all
theorem MG(d:Nat)(r:Rec (PP m how shift) C q G Ss dn)(m30:m<=30){D:Dd}(fit:D.Fit)(hn:h[0]?=some (.lst (C.map Sd.W++[q.W]))):ae fW tb (d+9) 54 [RG m how shift,D.L] h=Ol 0 (C.map Sd.W) q h (bY RX (KK m how shift) q C.length D):=by have:=Pz  (tb:=tb) (f:=54) (cl:=53) (R:=RX)  JC Kk rfl IM d rfl MH rfl D r.ok hn (zf r.c2 ZzD) (by rw[zo];exact zf r.c2 ZzD) (by rw[dm];exact m30) nP kP (t:=D.L)  (.inl rfl) (.inl rfl) fit;simp_all
theorem PU(d:Nat)(r:Rec (PP m how shift) C q G Ss dn){D:Dd}(fit:D.Fit):ae fW tb (d+2) 44 [ic q G dn,D.L,.lst ((PP m how shift).map W.str)] h=.ok (.str ((bY RX (KK m how shift) q C.length D).word)) h:=by have:=NH (fw:=fW) (tb:=tb) (f:=44)  (pe:=41) (pd:=42) (mo:=43) (h:=h) rfl rfl rfl rfl rfl d D (t:=D.L)  (P:=PP m how shift) (G:=G) (ks:=q.ks) (vs:=q.vs)   (.inl rfl) (.inl rfl) fit.len r.ok.x1 fit (by rw[r.cl];exact zf r.c2 ZzD);rw[this,FD r.hG,r.cl,Ay LZ D kS r.hg r.ok.x2]
theorem O8(d:Nat)(r:Rec (PP m how shift) C q G Ss dn)(m30:m<=30){D:Dd}(fit:D.Fit)(e:bY RX (KK m how shift) q C.length D=.ok q'):ae fW tb (d+3) 52 [ic q G dn,D.L] h=.ok (ic q' (D.gone G) (dn++[D.T])) h:=by have ok:=kD (R:=RX)  (nd:=C.length) (D:=D) r.ok nP kP fit;rw[e]at ok;exact(Gr  (tb:=tb) (A:=AX) Ma IM d D r.ok ok.1 (zf r.c2 ZzD) r.hG (zf (r.g5 (by rw[dm];exact m30)) ZzD) (by rw[r.cl];exact zf r.c2 ZzD) r.pd fit (λz=>List.eq_nil_of_length_eq_zero (by rw[r.cl];rw[r.hg]at z;grind)) (by rw[r.cl];exact e)).1
end
section
variable {m how shift:Nat}{q q':Sd}{h:aa}{C:List Sd}{G:List Str}{Ss dn:List W}
noncomputable abbrev mw(ns:List Int)(m how shift:Nat)(r2 r3 r4 r5 r6 r7 r8 r9:Option W):ag:=[some (.scr (ns.map W.int)),some (RG m how shift),r2,r3,r4,r5,r6,r7,r8,r9,some (.lst ((PP m how shift).map W.str))]
theorem Fz:∀c∈tenL,wds.getD (c-1) Str.empty≠(""):=ZzD
theorem BC{D:Dd}{c:Nat}(r:Rec (PP m how shift) C q G Ss dn)(fit:D.Fit)(e:bY RX (KK m how shift) q C.length D=.no c):c∈tenL:=by have ok:=kD (R:=RX)  (nd:=C.length)  r.ok nP kP fit;rw[e]at ok;exact ok
theorem pj{o:Ob}(hn:h[0]?=some o)(o':Ob):(h.set 0 o')[0]?=some o':=zZ (ze.mp hn).1
theorem MY{o o':Ob}(hn:h[0]?=some o):(h++[o'])[0]?=some o:=by rw[zI (ze.mp hn).1];lia
theorem sm(ns:List Int)(k:Nat)(hk:k<ns.length)(m1:0<m)(m30:m<=30){w:W}(r2 r3 r4 r5 r7 r8:Option W)(c:CH m how shift C q G Ss dn)(hC:0<C.length)(s:Sts h w (Ss++[ic q G dn]))(hn:h[0]?=some (.lst (C.map Sd.W++[q.W]))) :
  ∃C' q' G' Ss' dn' w' h' r7' r8',CH m how shift C' q' G' Ss' dn'/\Sts h' w' (Ss'++[ic q' G' dn'])/\h'[0]?=some (.lst (C'.map Sd.W++[q'.W]))/\C.length<=C'.length+1 /\
   aA (ae fW tb 39) fW EO (mw ns m how shift r2 r3 r4 r5 (some w) r7 r8 (some (aq k))) h=.ok (.nx (mw ns m how shift r2 r3 r4 r5 (some w') r7' r8' (some (aq k)))) h':=by
 have r:=c.rec' nP kP
 obtain⟨rr,er,hr⟩:∃r:Nat,ns[k].fmod 8=r/\r<8:=bQ ns[k] ZzD
 have X {hh}:dC (.scr (ns.map W.int)) (.int k) hh=.ok (.int ns[k]) hh:=cy (k:=k) rfl (by rw[zT,zJ hk];rfl)
 have M {hh}:ip .Mod (.int ns[k]) (.int 8) hh=.ok (.int rr) hh:=(eL hh ZzD).trans (by rw[er])
 have S:=s.ix
 by_cases b7:rr=7
 ·have b:=KD 36 r hC hn
  obtain⟨C0,q0,G0,S0,dn0,rfl,rfl,rfl,c0⟩:=c.back hC
  obtain⟨H,eH⟩:∃H,H=h.set 0 (.lst ((C0++[q0]).map Sd.W)):=⟨_,rfl⟩
  rw[<- eH]at b
  have s1:Sts H w (S0++[ic q0 G0 dn0]++[ic q G (dn0++[q.dw])]):=eH▸s.set _
  have n1:H[0]?=some (.lst (C0.map Sd.W++[q0.W])):=by rw[eH,pj hn,Zc];rfl
  have S1:=s1.ix
  refine⟨C0,q0,G0,S0,dn0,.lst (S0++[ic q0 G0 dn0]),H,r7,r8,c0,.inl rfl,n1,by rw[zA];exact zD _,?_⟩
  simp! [X,M,b7,b,S1,show dC (.lst (dn0++[q.dw])) (.int (-1)) H=.ok q.dw H from rT fj,same 39 q.dw H (zQ (r.dq hC).2 ZzD) (r.dq hC).1,s1.cut,show dC (.lst (S0++[ic q0 G0 dn0])) (.int (-1)) H=.ok (ic q0 G0 dn0) H from rT fj,u9 (m:=m) (how:=how) (shift:=shift) 35 (c0.rec' nP kP).ok n1]
 ·obtain⟨D,fit,_,e59⟩:=K4 (h:=h) 38 (P:=PP m how shift) (G:=G) ns[k] k (by rw[dm];exact m1) (by rw[dm];exact m30) nP r.ok.x1 (r.x0 hC) r.ok.x2
  have du:=PU (h:=h) 37 r fit
  have L:bA .len [w] h=.ok (.int (Ss++[ic q G dn]).length) h:=by show hZ _ _=_;simp[hZ,s.seqA,je]
  cases e:bY RX (KK m how shift) q C.length D with
  |no cc =>
   have hw:=Fz cc (BC r fit e)
   refine⟨C,q,G,Ss,dn,w,h,some D.L,some (.str (Out.no cc).word),c,s,hn,ZK _,?_⟩
   simp! [X,M,b7,S,L,show ae fW tb 39 59 [.int ns[k],.int k,.lst ((PP m how shift).map W.str),.lst (G.map W.str),.lst (q.xs.map aI)] h=_ from e59,du,e,show ¬ (Out.no cc).word="" from hw,show ae fW tb 39 54 [RG m how shift,D.L] h=.ok (.tup [.str (Out.no cc).word]) h from(MG 30 r m30 fit hn).trans (by rw[e];rfl),show ae fW tb 39 56 [.tup [.str (Out.no cc).word],.str (Out.no cc).word,.int Ss.length] h=.ok (.bl true) h from BW 36 _ hw,u9 (m:=m) (how:=how) (shift:=shift) 35 r.ok hn]
  |ok q' =>
   have c':=Ch.step D c fit e
   have r':=c'.rec' nP kP
   generalize ev:ic q' (D.gone G) (dn++[D.T])=v
   have pv:ah (Ss++[ic q G dn]++[v])=true:=bx r'.ps (ev▸kl r'.ok.x1 r'.pd)
   have sl:(Ss++[ic q G dn]++[v]).length=C.length+1+1:=by have:=r.sl;simp;lia
   obtain⟨H1,e1⟩:∃H,h++[.lst (Ss++[ic q G dn]++[v])]=H:=⟨_,rfl⟩
   have n1:H1[0]?=some (.lst (C.map Sd.W++[q.W])):=e1▸MY hn
   obtain⟨H2,e2⟩:∃H,H1.set 0 (.lst (C.map Sd.W++[q.W]++[q'.W]))=H:=⟨_,rfl⟩
   have sH:Sts H2 (.ref h.length) (Ss++[ic q G dn]++[v]):=e2▸e1▸Sts.set (.inr ⟨h.length,ZO (ze.mp hn).1,rfl,aR⟩) _
   have n2:H2[0]?=some (.lst ((C++[q]).map Sd.W++[q'.W])):=by rw[<- e2,pj n1,Zc];rfl
   have L2:bA .len [.ref h.length] H2=.ok (.int (C.length+1+1:Nat)) H2:=by show hZ _ _=_;simp only[hZ,sH.seqA,je,sl]
   refine⟨C++[q],q',D.gone G,Ss++[ic q G dn],dn++[D.T],.ref h.length,H2,some D.L,some (.str ""),c',ev▸sH,n2,by rw[zA];lia,?_⟩
   have S2:=sH.ix
   rw[<- ev]at S2
   simp! [X,M,b7,S,show ae fW tb 39 59 [.int ns[k],.int k,.lst ((PP m how shift).map W.str),.lst (G.map W.str),.lst (q.xs.map aI)] h=_ from e59,du,e,show(Out.ok q').word="" from rfl,(O8 36 r m30 fit e).trans (by rw[ev]),s.seqM,show J.seqM h (.lst [v])=some [v] from rfl,show cX (some (Ss++[ic q G dn])) (some [v]) h=.ok (Ss++[ic q G dn]++[v]) h from zF (by rw[Zj];have:=r'.c2;simp at *;lia),pv,e1,show ae fW tb 39 54 [RG m how shift,D.L] H1=.ok (.int (C.length+1:Nat)) H2 from(MG 30 r m30 fit n1).trans (by rw[e,<- e2,<- zo (f:=Sd.W)];rfl),L2,show ae fW tb 39 56 [.int (C.length+1:Nat),.str "",.int (C.length+1:Nat)] H2=.ok (.bl true) H2 from uK 37 _,S2,u9 (m:=m) (how:=how) (shift:=shift) 35 r'.ok n2]
end
theorem Dl{s:Str}:bp [s]=[s]:=List.perm_singleton.mp (cC [s])
theorem Fo(hs us:List Str):E3 hs us=decide (hs=us):=G5 hs us
theorem rj{ks:List Str}{q:Sd}{ss:List Str}{o:Out}(h1:kR ks ss=false)(h2:qX q ss=false)(h3:bo q.dw=false):first RX ks q ss o=o:=by
 unfold first
 grind
theorem nW{q:Sd}{ss:List Str}(h:q.G=[]):qX q ss=false:=by unfold qX;rw[h,zzI];intro s _;rw[bJ];simp
section
variable {m how shift:Nat}{q q':Sd}{h:aa}{C:List Sd}{G:List Str}{Ss dn:List W}
theorem tL{ss:List Str}(h:∀s∈ss,s∈PP m how shift):kR (KK m how shift) ss=false:=by
 unfold kR
 rw[zzI]
 intro s hs
 rw[kS,bJ]
 grind
noncomputable def RowOk(P:List Str)(p0:Str)(A j:Nat):Dd->Prop
 |.grant ss=>j=0/\ss=[p0]
 |.hand a z tz ss=>1<=j/\j<=A/\a=p0/\z=1/\(∃pc:Nat,tz=(pc:Int)/\1<=pc/\pc<20)/\1<=ss.length/\ss.length<=6/\ss.Nodup/\∀s∈ss,s∈P
 |.follow a b=>A<j/\a∈P/\b∈P
 |_=>False
theorem RowOk.fit{p0:Str}{A j:Nat}{D:Dd}(hp:p0∈PP m how shift)(r:RowOk (PP m how shift) p0 A j D):D.Fit:=by
 cases D with
 |grant ss=>obtain⟨_,rfl⟩:=r;exact⟨ZzS,λs hs=>by rw[zP.mp hs];exact nP _ hp⟩
 |hand a z tz ss=>obtain⟨_,_,rfl,rfl,⟨pc,rfl,_,h3⟩,_,h6,_,h8⟩:=r;exact⟨nP _ hp,ZzS,zj (show((pc:Int)).natAbs<100 by lia) ZzS,ZzL,λs hs=>nP _ (h8 s hs)⟩
 |follow a b=>exact⟨nP _ r.2.1,nP _ r.2.2⟩
 |_=>exact r.elim
structure Su (p0:Str) (q:Sd) (a:Nat):Prop where
 G:q.G=[]
 d:bo q.dw=false
 l:q.xs.length=a
 x:∃x,q.xs[0]?=some x/\x.hs=[p0]
theorem sO{p0:Str}{A j:Nat}{D:Dd}(hp:p0∈PP m how shift)(hA:A<=59)(hj:j<200)(r:RowOk (PP m how shift) p0 A j D)(s:j=0->q=sd0)(s1:0<j->Su p0 q (min j (A+1))) :
  ∃q',bY RX (KK m how shift) q j D=.ok q'/\Su p0 q' (min (j+1) (A+1)):=by
 have p1:∀s∈[p0],s∈PP m how shift:=λs hs=>by rw[zP.mp hs];exact hp
 cases D with
 |grant ss =>
  obtain⟨rfl,rfl⟩:=r
  obtain rfl:=s rfl
  refine⟨⟨.tup [.str "grant",.tup ([p0].map W.str)],[pK [] 1 1 (1,1) [p0]],[],[],[]⟩,?_,rfl,rfl,(show 1=min 1 (A+1) by lia),_,rfl,rfl⟩
  show cZ RX (KK m how shift) sd0 0 [p0]=_
  unfold cZ
  rw[zF ⟨zD 1,(show 1<=6 by decide),oI⟩,Dl,tL p1,zM ZzD,nW rfl,zM ZzD,zM (show ¬ bo W.non=false from λz=>by cases z)]
  unfold cV
  rw[zM ZzD]
 |hand a z tz ss =>
  obtain⟨h1,h2,rfl,rfl,⟨pc,rfl,h3,h4⟩,h5,h6,h7,h8⟩:=r
  obtain⟨uG,ud,ul,x,ux,uh⟩:=s1 h1
  have e:E3 x.hs [a]=true:=by rw[Fo,uh,zX rfl]
  have lx:1<=q.xs.length:=ZzL
  refine⟨⟨.tup [.str "hand",.str a,.int 1,.int (pc:Int),.tup ((bp ss).map W.str)],eM q.xs x 1 pc (bp ss) (j+1),q.ks,q.vs,q.G⟩,?_,uG,rfl,?_,?_⟩
  ·show gD RX (KK m how shift) q j a 1 (pc:Int) ss=_
   unfold gD
   rw[zF ⟨h5,h6,h7⟩,rj (tL λs hs=>?_) (nW uG) ud,zM (show ¬ dJ 1 q.xs.length=true by unfold dJ;rw[zzh,Zl,Zl];lia)]
   ·show(match q.xs[(1:Int).toNat-1]? with|none=>_|some x=>_)=_
    rw[show q.xs[(1:Int).toNat-1]?=some x from ux]
    dsimp only
    rw[e,zM ZzD,zM (show ¬ iN (pc:Int)=true by unfold iN;rw[zzh,Zl,Zl];lia),zM ZzL]
    unfold cV
    rw[zM ZzL,Zt]
    rfl
   ·rcases zS.mp hs with rfl|hs
    ·exact hp
    ·exact h8 s (srt_mem.mp hs)
  ·show(eM q.xs x 1 pc (bp ss) (j+1)).length=_
   rw[ku,zM ZzL]
   omega
  ·unfold eM
   dsimp only
   rw[zM ZzL]
   refine⟨pK x.tr (j+1) 1 (jS (x.p*(20-pc)) (x.q*20)) x.hs,?_,uh⟩
   rw[zI (by rw[List.length_set];exact lx),zZ lx]
 |follow a b =>
  obtain⟨h1,h2,h3⟩:=r
  obtain⟨uG,ud,ul,ux⟩:=s1 ZzL
  refine⟨⟨.tup [.str "follow",.str a,.str b],q.xs,(v7 q.ks q.vs a b).1,(v7 q.ks q.vs a b).2,q.G⟩,?_,uG,rfl,by show q.xs.length=_;lia,ux⟩
  show dk RX (KK m how shift) q j a b _ _=_
  unfold dk
  rw[rj (tL λs hs=>?_) (nW uG) ud]
  ·unfold cV
   rw[zM ZzL]
  ·simp only[zS,Zr,zzM]at hs
   rcases hs with rfl|rfl
   ·exact h2
   ·exact h3
 |_=>exact r.elim
theorem um{n i:Nat}{body:ag->aa->Res Fl}{ws:List W}{Iv:Nat->ag->aa->Prop}(st:∀k w σ h,ws[k]?=some w->h[n]?=some (.lst ws)->Iv k σ h->∃σ2 h2,body (σ.set i (some w)) h=.ok (.nx σ2) h2/\h2[n]?=some (.lst ws)/\Iv (k+1) σ2 h2) :
  ∀(r k fu:Nat) (σ:ag) (h:aa),k+r=ws.length->r<fu->h[n]?=some (.lst ws)->Iv k σ h->∃σ2 h2,vD n [i] body fu k σ h=.ok (.nx σ2) h2/\h2[n]?=some (.lst ws)/\Iv ws.length σ2 h2
 |0,k,fu+1,σ,h,e,_,hn,iv=>⟨σ,h,by rw[vD,hn];simp_all,hn,by rw[<- e];exact iv⟩
 |r+1,k,fu+1,σ,h,e,hf,hn,iv=>by have hk:k<ws.length:=ZzL;obtain⟨σ2,h2,b,hn2,iv2⟩:=st k ws[k] σ h (zJ hk) hn iv;obtain⟨σ3,h3,b3,hn3,iv3⟩:=um st r (k+1) fu σ2 h2 ZzL ZzL hn2 iv2;refine⟨σ3,h3,?_,hn3,iv3⟩;rw[vD,hn];dsimp only;rw[zJ hk];dsimp only;rw[dB];dsimp only;rw[b,bnd_ok];exact b3
noncomputable abbrev H3(C:List Sd)(q:Sd)(G:List Str)(Ss dn:List W)(Ds:List Dd):aa:=[.lst (C.map Sd.W++[q.W]),.lst (Ds.map Dd.L),.lst (Ss++[ic q G dn])]
theorem FZ{p0:Str}{A:Nat}{Ds:List Dd}(ns:List Int)(r3 r4 r5 r7 r9:Option W)(m30:m<=30)(hp:p0∈PP m how shift)(hA:A<=59)(c:CH m how shift C q G Ss dn){D:Dd}(hD:Ds[C.length]?=some D)(hj:C.length<200)(ro:RowOk (PP m how shift) p0 A C.length D)(s1:0<C.length->Su p0 q (min C.length (A+1))) :
  ∃C' q' G' Ss' dn',CH m how shift C' q' G' Ss' dn'/\C'.length=C.length+1/\Su p0 q' (min C'.length (A+1))/\aA (ae fW tb 39) fW JK (mw ns m how shift (some (.ref 1)) r3 r4 r5 (some (.ref 2)) (some D.L) none r9) (H3 C q G Ss dn Ds)=.ok (.nx (mw ns m how shift (some (.ref 1)) r3 r4 r5 (some (.ref 2)) (some D.L) none r9)) (H3 C' q' G' Ss' dn' Ds):=by
 have r:=c.rec' nP kP
 have fit:=ro.fit hp
 obtain⟨q',e,su⟩:=sO hp hA hj ro (λz=>by cases c with
  |nil=>rfl
  |step D c fit e=>simp at z) s1
 have c':=Ch.step D c fit e
 have r':=c'.rec' nP kP
 have s:Sts (H3 C q G Ss dn Ds) (.ref 2) (Ss++[ic q G dn]):=.inr ⟨2,ZzD,rfl,rfl⟩
 obtain⟨v,ev⟩:∃v,ic q' (D.gone G) (dn++[D.T])=v:=⟨_,rfl⟩
 obtain⟨H1,e1⟩:∃H:aa,[.lst (C.map Sd.W++[q.W]),.lst (Ds.map Dd.L),.lst (Ss++[ic q G dn]++[v])]=H:=⟨_,rfl⟩
 obtain⟨H2,e2⟩:∃H:aa,[.lst (C.map Sd.W++[q.W]++[q'.W]),.lst (Ds.map Dd.L),.lst (Ss++[ic q G dn]++[v])]=H:=⟨_,rfl⟩
 have s2:Sts H2 (.ref 2) (Ss++[ic q G dn]++[v]):=e2▸.inr ⟨2,ZzD,rfl,rfl⟩
 have L2:bA .len [.ref 2] H2=.ok (.int (C.length+1+1:Nat)) H2:=by show hZ _ _=_;simp only[hZ,s2.seqA,je,show(Ss++[ic q G dn]++[v]).length=C.length+1+1 by have:=r.sl;simp;lia]
 have m1:dG .append (.ref 2) [v] (H3 C q G Ss dn Ds)=.ok .non H1:=by show(if ak v=true/\(Ss++[ic q G dn]).length<sizeLine then Res.ok W.non [.lst (C.map Sd.W++[q.W]),.lst (Ds.map Dd.L),.lst (Ss++[ic q G dn]++[v])] else .stuck)=_;rw[zF ⟨ev▸kl r'.ok.x1 r'.pd,by rw[zA,r.sl,Zj];show C.length+1<_;lia⟩,e1]
 refine⟨C++[q],q',D.gone G,Ss++[ic q G dn],dn++[D.T],c',by rw[zA];rfl,by rw[zA];exact su,?_⟩
 rw[show H3 (C++[q]) q' (D.gone G) (Ss++[ic q G dn]) (dn++[D.T]) Ds=H2 by rw[<- e2,<- ev,H3,Zc];rfl]
 simp! [s.ix,show bR .append (H3 C q G Ss dn Ds) (.ref 2)=true from rfl,(O8 36 r m30 fit e).trans (by rw[ev]),m1,show ae fW tb 39 54 [RG m how shift,D.L] H1=.ok (.int (C.length+1:Nat)) H2 from(MG 30 r m30 fit (e1▸rfl)).trans (by rw[e,<- e2,<- e1,<- zo (f:=Sd.W)];rfl),L2,show ae fW tb 39 56 [.int (C.length+1:Nat),.str "",.int (C.length+1:Nat)] H2=.ok (.bl true) H2 from uK 37 _]
end
theorem yX{cf:CF}{i:Nat}{e:E}{σ:ag}{h:aa}{w:W}(ee:evE cf e σ h=.ok w h)(hp:ak w=true):exS cf fW (.fresh i (.lst [e])) σ h=.ok (.nx (σ.set i (some (.ref h.length)))) (h++[.lst [w]]):=by rw[exS,evF,aj ee ay,bnd_ok,zF (by show 1<=_;decide),bnd_ok,zF (by rw[ah,hp];rfl)]
section
variable {m how shift:Nat}{cf:CF}{ns:List Int}{Ds:List Dd}{A:Nat}{p0:Str}
noncomputable def AllOk(P:List Str)(p0:Str)(A:Nat)(Ds:List Dd):Prop:=∀j D,Ds[j]?=some D->RowOk P p0 A j D
theorem AllOk.snoc{P:List Str}{D:Dd}(a:AllOk P p0 A Ds)(r:RowOk P p0 A Ds.length D):AllOk P p0 A (Ds++[D]):=λj D' e=>by
 by_cases h:j<Ds.length
 ·rw[zI h]at e;exact a j D' e
 ·rw[zK ZzL]at e
  have :=by
   have:=(ze.mp e).1
   simp at this
   omega
  rw[this]at e
  grind
noncomputable abbrev pn(m how shift:Nat)(x:Int):Str:=(PP m how shift).getD (x.fmod (m:Int)).toNat dM
theorem pQ(m1:0<m)(x:Int):pn m how shift x∈PP m how shift/\∃i:Nat,x.fmod (m)=(i)/\i<m/\((PP m how shift).map W.str)[i]?=some (.str (pn m how shift x)):=by
 obtain⟨i,ei,hi⟩:=bQ x m1;have hl:i<(PP m how shift).length:=by rw[dm];exact hi
 exact⟨by simp_all,i,ei,hi,by simp_all⟩
theorem EC{σ:ag}{h:aa}(e:σ[10]?=some (some (.lst ((PP m how shift).map W.str)))):evE cf (.blt .len [eC]) σ h=.ok (aq m) h:=(fR (ao e) rfl).trans (by rw[zo,dm])
theorem Gn{σ:ag}{h:aa}{e:E}{x:Int}(m1:0<m)(e1:σ[10]?=some (some (.lst ((PP m how shift).map W.str))))(e2:evE cf e σ h=.ok (.int x) h):evE cf (.ix eC (.bin .Mod e (.blt .len [eC]))) σ h=.ok (.str (pn m how shift x)) h:=by obtain⟨_,i,ei,_,e3⟩:=pQ   m1 x;exact bO (ao e1) (dY e2 (EC e1) m1 ei) (cy rfl e3)
theorem yY{σ:ag}{h:aa}{e:E}{k:Nat}(hk:k<m)(e1:σ[10]?=some (some (.lst ((PP m how shift).map W.str))))(e2:evE cf e σ h=.ok (aq k) h):evE cf (.ix eC e) σ h=.ok (.str (aH how shift k)) h :=
 bO (ao e1) e2 (cy  rfl (by simp[B9,hk]))
theorem yo{k:Nat}(hk:k<m):aH how shift k∈PP m how shift:=Zx.mpr ⟨k,ZF.mpr hk,rfl⟩
theorem Lb:∀r,r<8->∃p,1<=p/\p<20/\([1,3,7,9,11,13,17,19])[r]?=some p
 |0,_=>⟨1,ZzS,ZzD,rfl⟩
 |1,_=>⟨3,ZzD,ZzD,rfl⟩
 |2,_=>⟨7,ZzD,ZzD,rfl⟩
 |3,_=>⟨9,ZzD,ZzS,rfl⟩
 |4,_=>⟨11,ZzS,ZzS,rfl⟩
 |5,_=>⟨13,ZzD,ZzD,rfl⟩
 |6,_=>⟨17,ZzD,ZzD,rfl⟩
 |7,_=>⟨19,ZzD,ZzD,rfl⟩
 |n+8,h=>by lia
noncomputable abbrev S0:W:=sd0.W
theorem u7{σ:ag}{D:Dd}{e:E}(e2:σ[2]?=some (some (.ref 1)))(hl:Ds.length<=900)(ee:evE cf e σ [.lst [S0],.lst (Ds.map Dd.L)]=.ok D.L [.lst [S0],.lst (Ds.map Dd.L)]) :
  exS cf fW (.exp (.meth .append V2 [e])) σ [.lst [S0],.lst (Ds.map Dd.L)]=.ok (.nx σ) [.lst [S0],.lst ((Ds++[D]).map Dd.L)]:=by
 rw[Zc]
 exact oU (jt  e2 rfl ee (oh D) (by rw[zo];lia))
theorem Nv{D:Dd}(hl:Ds.length<=900):dG .append (.ref 1) [D.L] [.lst [S0],.lst (Ds.map Dd.L)]=.ok .non [.lst [S0],.lst ((Ds++[D]).map Dd.L)]:=by show(if ak D.L=true/\(Ds.map Dd.L).length<sizeLine then Res.ok W.non [.lst [S0],.lst (Ds.map Dd.L++[D.L])] else .stuck)=_;rw[zF ⟨oh D,by rw[zo,Zj];lia⟩,Zc];rfl
theorem Av(hc:∀(k:Nat) (h:aa),cf 38 [.scr (ns.map W.int),.int (k:Int)] h=.ok (.int (cell ns k)) h)(m7:7<=m)(m10:m<=10)(ok:AllOk (PP m how shift) (aH how shift 0) A Ds)(k:Nat)(hl:Ds.length=k+1)(hk:k<A)(hA:A<=59)(r3 r4 r5:Option W) :
  ∃r3' r4' r5' D,RowOk (PP m how shift) (aH how shift 0) A Ds.length D/\aA cf fW EJ (mw ns m how shift (some (.ref 1)) r3 r4 r5 none none none (some (aq k))) [.lst [S0],.lst (Ds.map Dd.L)]=.ok (.nx (mw ns m how shift (some (.ref 1)) r3' r4' r5' none none none (some (aq k)))) [.lst [S0],.lst ((Ds++[D]).map Dd.L)]:=by
 have m1:0<m:=ZzL
 obtain⟨u,eu,hu⟩:∃n:Nat,(cell ns 5).fmod 6=n/\n<6:=bQ _ ZzD
 obtain⟨v,ev,hv⟩:∃n:Nat,((cell ns 4+(k:Int))*(u:Int)).fmod 6=n/\n<6:=bQ _ ZzD
 obtain⟨p,ep,hp⟩:∃n:Nat,(cell ns 7+(k:Int)).fmod 19=n/\n<19:=bQ _ ZzD
 obtain⟨r,er,hr⟩:∃n:Nat,(cell ns 7).fmod 8=n/\n<8:=bQ _ ZzD
 obtain⟨b,eb,hb⟩:∃n:Nat,((cell ns 7).fdiv 8).fmod 2=n/\n<2:=bQ _ ZzD
 obtain⟨p8,q1,q2,e8⟩:=Lb r hr
 obtain⟨pc,c1,c2,ec⟩:∃pc:Nat,1<=pc/\pc<20/\([.int (1+(p:Int)),.int p8]:List W)[b]?=some (.int pc):=by
  match b,hb with
  |0,_=>exact⟨1+p,ZzL,ZzL,rfl⟩
  |1,_=>exact⟨p8,q1,q2,rfl⟩
 let S:Int:=cell ns 6+(k:Int)
 let to:List Str:=(List.range (1+v)).map λ(j:Nat)=>pn m how shift (S+(j:Int))
 have md {x C:Int}{n:Nat}{hh} (e:x.fmod C=n) (c:C≠0):ip .Mod (.int x) (.int C) hh=.ok (.int n) hh:=(eL hh c).trans (by rw[e])
 have s2 {hh}:evE cf (.compR [11] 1 [V3] [] (.ix eC (.bin .Mod (.bin .Add (.bin .Add (.call 38 [V0,(.con (.int 6))]) V9) vf) (.blt .len [eC])))) (mw ns m how shift (some (.ref 1)) (some (.int (1+(v:Int)))) r4 r5 none none none (some (aq k))) hh=.ok (.lst (to.map W.str)) hh:=by refine(qq (m:=1+v) (F:=λj=>.str (pn m how shift (S+(j:Int)))) (U3 rfl) ZzL (λj hj=>⟨rfl,λhh=>?_⟩)).trans (by rw[zzm];rfl);exact lj rfl (Gn m1 rfl (jZ (jZ (vc (i:=0) hc rfl 6) (U9 rfl)) (ao (i:=11) rfl)))
 refine⟨some (.int (1+(v:Int))),some (.lst (to.map W.str)),some (.lst [.int (1+(p:Int)),.int p8]),.hand (aH how shift 0) 1 (pc:Int) to,?_,?_⟩
 rotate_left
 ·simp! [show ∀hh,cf 38 [.scr (ns.map W.int),.int 4] hh=_ from hc 4,show ∀hh,cf 38 [.scr (ns.map W.int),.int 5] hh=_ from hc 5,show ∀hh,cf 38 [.scr (ns.map W.int),.int 7] hh=_ from hc 7,md eu ZzD,md ev ZzD,md ep ZzD,md er ZzD,md eb ZzD,λhh=>oo hh (Br (x:=cell ns 4+(k:Int)) (y:=u) ZzL),s2,λhh=>oN (i:=cell ns 7) hh (show(8:Int)≠0 by decide) ZzD,λhh=>show dC (.lst [.int 1,.int 3,.int 7,.int 9,.int 11,.int 13,.int 17,.int 19]) (.int r) hh=.ok (.int p8) hh from cy rfl (show([1,3,7,9,11,13,17,19].map λ(n:Nat)=>W.int n)[r]?=_ by rw[zT,e8];rfl),λhh=>show dC (.lst [.int (1+(p:Int)),.int p8]) (.int b) hh=.ok (.int pc) hh from cy rfl ec,λhh=>show dC (.lst ((PP m how shift).map W.str)) (.int 0) hh=.ok (.str (aH how shift 0)) hh from cy (k:=0) rfl (by simp[B9,m1]),show bR .append [.lst [S0],.lst (Ds.map Dd.L)] (.ref 1)=true from rfl,show dG .append (.ref 1) [.lst [.str "hand",.str (aH how shift 0),.int 1,.int pc,.lst (to.map W.str)]] [.lst [S0],.lst (Ds.map Dd.L)]=_ from Nv (D:=.hand (aH how shift 0) 1 (pc:Int) to) ZzL]
 refine⟨ZzL,ZzL,rfl,rfl,⟨pc,rfl,c1,c2⟩,?_,?_,?_,λs hs=>?_⟩
 ·show 1<=((List.range (1+v)).map _).length;rw[zo,ZX];lia
 ·show((List.range (1+v)).map _).length<=6;rw[zo,ZX];lia
 ·refine rQ (P:=PP m how shift) (G:=λj=>((S+(j:Int)).fmod (m:Int)).toNat) (Az ZzL) (λj hj=>?_) (λj hj k hk e=>xu m1 ZzL ZzL e)
  obtain⟨_,i,ei,hi,_⟩:=pQ (how:=how) (shift:=shift) m1 (S+(j:Int))
  show((S+(j:Int)).fmod (m:Int)).toNat<_
  rw[ei,dm];exact hi
 ·obtain⟨j,_,rfl⟩:=Zx.mp hs
  exact(pQ m1 _).1
end
section
variable {m how shift:Nat}{cf:CF}{ns:List Int}{Ds:List Dd}{A:Nat}{p0:Str}
noncomputable abbrev hh(Ds:List Dd):aa:=[.lst [S0],.lst (Ds.map Dd.L)]
theorem BI(hc:∀(k:Nat) (h:aa),cf 38 [.scr (ns.map W.int),.int (k)] h=.ok (.int (cell ns k)) h)(k:Nat)(hk:k<m)(hA:A<Ds.length)(hl:Ds.length<=900)(r3 r4 r5:Option W) :
  ∃D,RowOk (PP m how shift) p0 A Ds.length D/\aA cf fW Lw (mw ns m how shift (some (.ref 1)) r3 r4 r5 none none none (some (aq k))) (hh Ds)=.ok (.nx (mw ns m how shift (some (.ref 1)) r3 r4 r5 none none none (some (aq k)))) (hh (Ds++[D])):=by
 have m1:0<m:=ZzL
 have a_ :=λj σ h hs=>vc (h:=h) (σ:=σ) (i:=0) hc hs j
 refine⟨.follow (aH how shift k) (pn m how shift ((k)+cell ns 7)),⟨hA,yo hk,(pQ m1 _).1⟩,(ai (u7  rfl hl (l3 av (yY hk rfl (ao  rfl)) (Gn m1 rfl (jZ (ao  rfl) (a_ 7 _ _ rfl)))))).trans (rfl)⟩
noncomputable abbrev E0:E:=.and_ (.cmp .Eq (.bin .Mod (.bin .FloorDiv (.call 38 [V0,(.con (.int 5))]) (.con (.int 6))) (.con (.int 3))) (.con (.int 1))) (.cmp .Lt (.blt .len [V2]) (.bin .Add (.con (.int 195)) (.bin .Mod (.call 38 [V0,(.con (.int 7))]) (.con (.int 6)))))
noncomputable abbrev Iq:List S:=[.exp (.meth .append V2 [(.lst [(.con (.str "follow")),(.ix eC (.con (.int 0))),(.ix eC (.bin .Mod (.blt .len [V2]) (.blt .len [eC])))])])]
theorem wL(hc:∀(k:Nat) (h:aa),cf 38 [.scr (ns.map W.int),.int (k:Int)] h=.ok (.int (cell ns k)) h)(m1:0<m)(r3 r4 r5 r9:Option W):∀(r fu:Nat) (Ds:List Dd),200<=Ds.length+r->r<fu->A<Ds.length->Ds.length<=200->AllOk (PP m how shift) p0 A Ds ->
  ∃Ds',AllOk (PP m how shift) p0 A Ds'/\A<Ds'.length/\Ds'.length<=200/\wh (λσ h=>iz (evE cf E0 σ h)) (aA cf fW Iq) fu (mw ns m how shift (some (.ref 1)) r3 r4 r5 none none none r9) (hh Ds)=.ok (.nx (mw ns m how shift (some (.ref 1)) r3 r4 r5 none none none r9)) (hh Ds'):=by
 have a_:∀(j:Nat) (σ:ag) (h:aa),σ[0]?=some (some (.scr (ns.map W.int)))->evE cf (.call 38 [.var 0,.con (.int (j:Int))]) σ h=.ok (.int (cell ns j)) h:=λj σ h hs=>vc (h:=h) (σ:=σ) (i:=0) hc hs j
 obtain⟨g,eg,hg⟩:=bQ ((cell ns 5).fdiv 6) (show 0<3 by decide)
 obtain⟨c,ec,hc6⟩:=bQ (cell ns 7) (show 0<6 by decide)
 have l2':∀Ds:List Dd,evE cf (.blt .len [V2]) (mw ns m how shift (some (.ref 1)) r3 r4 r5 none none none r9) (hh Ds)=.ok (aq Ds.length) (hh Ds):=λDs=>(fR (x:=.ref 1) (us:=Ds.map Dd.L) (U2 rfl) rfl).trans (by rw[zo])
 have t:∀Ds:List Dd,bw cf E0 (mw ns m how shift (some (.ref 1)) r3 r4 r5 none none none r9) (hh Ds)=.ok (decide (g=1)&&decide (Ds.length<195+c)) (hh Ds):=λDs =>
  bD (Cg (Cw (n:=1) (dY (C:=3) (cw (a_ 5 _ _ rfl) av (oN _ ZzD ZzD)) aD ZzD eg) aD) (G9 (sS (l2' Ds) (f7 (m:=195) aD (dY (C:=6) (a_ 7 _ _ rfl) aD ZzD ec)))))
 intro r
 induction r with
 |zero =>
  intro fu Ds h1 hf hA h2 ok
  obtain⟨n,rfl⟩:∃n,fu=n+1:=⟨fu-1,ZzL⟩
  have t0:=t Ds
  rw[zV (show ¬ Ds.length<195+c by lia),Bool.and_false]at t0
  exact⟨Ds,ok,hA,h2,jb t0⟩
 |succ r ih =>
  intro fu Ds h1 hf hA h2 ok
  obtain⟨n,rfl⟩:∃n,fu=n+1:=⟨fu-1,ZzL⟩
  have t0:=t Ds
  by_cases b:g=1/\Ds.length<195+c
  ·rw[zX b.1,zX b.2]at t0
   let D:Dd:=.follow (aH how shift 0) (pn m how shift ((Ds.length:Nat):Int))
   have ro:RowOk (PP m how shift) p0 A Ds.length D:=⟨hA,yo m1,(pQ m1 _).1⟩
   have bd  :=
    (ai (u7 (D:=D) rfl ZzL (l3 av (yY m1 rfl (aD (n:=0))) (Gn m1 rfl (l2' Ds))))).trans (by rw[aA])
   obtain⟨Ds',q1,q2,q3,q4⟩:=ih n (Ds++[D]) (by rw[zA];show 200<=Ds.length+1+r;lia) ZzL (by rw[zA];lia) (by rw[zA];show Ds.length+1<=200;lia) (ok.snoc ro)
   exact⟨Ds',q1,q2,q3,(k9 t0 bd).trans q4⟩
  ·have e:(decide (g=1)&&decide (Ds.length<195+c))=false:=by rw[<- Bool.decide_and,zV b]
   rw[e]at t0
   exact⟨Ds,ok,hA,h2,jb t0⟩
theorem Aq{is:List Nat}{a c:E}{b:List S}{σ:ag}{h:aa}{i j:Nat}(ea:evE cf a σ h=.ok (aq i) h)(ec:evE cf c σ h=.ok (aq j) h)(hi:i<=1000)(hj:j<=1000):exS cf fW (.for_ is (.rng [a,c]) b) σ h=fo is (aA cf fW b) ((List.range (j-i)).map λ(k:Nat)=>aq (i+k)) σ h:=by
 rw[exS,eU ea ec,bnd_ok];have z:lQ [aq i,aq j]=some ((List.range (j-i)).map λ(k:Nat)=>aq (i+k)):=by rw[cM];unfold jV;dsimp only;rw[zF ZzL,show((j:Int)-(i:Int)).toNat=j-i by lia];rfl
 rw[z]
theorem xY:1000<fW:=zj (show 1000<2^10 by simp) (z9 ZzS ZzS)
end
theorem run(ns:List Int)(hl:ns.length<=63):ae fW (wt ds gl) 40 60 [.scr (ns.map W.int)] []=.ok (.bl true) []:=by
 rw[L7,af (g:=⟨1,11,Mw,none⟩) rfl rfl];obtain⟨m4,e0,h0⟩:=bQ (cell ns 0) (show 0<4 by decide);obtain⟨how,e1,h1⟩:=bQ (cell ns 1) (show 0<363 by decide);obtain⟨shift,e2,h2⟩:=bQ (cell ns 2) (show 0<676 by decide);obtain⟨c3,e3,h3⟩:=bQ (cell ns 3) (show 0<10 by decide);obtain⟨m,em⟩:∃m,m=7+m4:=⟨_,rfl⟩;have m1:0<m:=ZzL;have m30:m<=30:=ZzL;let A:=50+c3;have hA:A<=59:=by show 50+c3<=59;lia
 let p0:=aH how shift 0;have hp:p0∈PP m how shift:=yo m1;have c:∀(k:Nat) (h:aa),ae fW tb 39 38 [.scr (ns.map W.int),.int (k:Int)] h=.ok (.int (cell ns k)) h:=λk h=>FQ (d:=38) rfl ns k h;have pe:ae fW tb 39 39 [aq m,aq how,aq shift] []=.ok (.lst ((PP m how shift).map W.str)) []:=sG (d:=38) rfl m how shift [] ZzL ZzL;have rn:ae fW tb 39 2023 [.lst ((PP m how shift).map W.str)] []=.ok (RG m how shift) [.lst [IT]]:=CA (fw:=fW) (tb:=tb) (f:=23) (sf:=22) (cn:=2) (c:=0) (isn:=0) (tw:=1) rfl rfl rfl rfl rfl ZzD 36 (.lst ((PP m how shift).map W.str)) (PP m how shift) [] (.inl rfl) (by rw[dm];exact m1) (by rw[dm];lia) By (Az ZzL);have bg:=λ(C:List Sd) (q:Sd) (G:List Str) (Ss dn:List W) (Ds:List Dd) r3 r4 r5 r7 r9 (cc:CH m how shift C q G Ss dn) (D:Dd) (hD:Ds[C.length]?=some D) (hj:C.length<200) ro s1=>FZ (p0:=p0) (A:=A) (Ds:=Ds) ns r3 r4 r5 r7 r9 m30 hp hA cc hD hj ro s1;have tn:=λ(C:List Sd) (q:Sd) (G:List Str) (Ss dn:List W) (h:aa) (w:W) (k:Nat) (hk:k<ns.length) r2 r3 r4 r5 r7 r8 (cc:CH m how shift C q G Ss dn) (hC:0<C.length) s hn=>sm (h:=h) (w:=w) ns k hk m1 m30 r2 r3 r4 r5 r7 r8 cc hC s hn;have ho:=λ(q:Sd) (P:List Str) (n:Nat) (hh:aa) (ok:q.Ok P n) (ws:List W) (e:hh[0]?=some (.lst (ws++[q.W])))=>u9 (m:=m) (how:=how) (shift:=shift) 35 ok e;generalize ae fW tb 39=cf at *;let z:Option W:=some (.scr (ns.map W.int));have a_:∀(j:Nat) (σ:ag) (h:aa),σ[0]?=some (some (.scr (ns.map W.int)))->evE cf (.call 38 [.var 0,.con (.int (j:Int))]) σ h=.ok (.int (cell ns j)) h:=λj σ h hs=>vc (h:=h) (σ:=σ) (i:=0) c hs j;let n':Option W:=none;let P:Option W:=some (.lst ((PP m how shift).map W.str));show J.fin 0 (aA cf fW Mw [z,n',n',n',n',n',n',n',n',n',n'] [])=_;suffices H:∃h,aA cf fW Mw [z,n',n',n',n',n',n',n',n',n',n'] []=.ok (.ret (.bl true)) h by obtain⟨h,H⟩:=H;rw[H];rfl
 let D0:Dd:=.grant [p0];have ok0:AllOk (PP m how shift) p0 A [D0]:=λj D e=>by have:j<1:=(ze.mp e).1;have:j=0:=ZzL;subst this;cases e;exact⟨rfl,rfl⟩
 obtain⟨σ4,h4,f4,r3,r4,r5,r9,Ds4,e4,eh4,ll4,ok4⟩:=rM (i:=9) (n:=A) (body:=aA cf fW EJ) (σ:=mw ns m how shift (some (.ref 1)) n' n' n' n' n' n' n') (h:=hh [D0])
  (Iv:=λk σ h=>∃r3 r4 r5 r9 Ds,σ=mw ns m how shift (some (.ref 1)) r3 r4 r5 n' n' n' r9/\h=hh Ds/\Ds.length=k+1/\AllOk (PP m how shift) p0 A Ds) (λk σ h hk iv=>by
   obtain⟨r3,r4,r5,r9,Ds,rfl,rfl,hl,ok⟩:=iv
   obtain⟨r3',r4',r5',D,ro,e⟩:=Av c ZzL ZzL ok k hl hk hA r3 r4 r5
   exact⟨_,_,e,r3',r4',r5',some (aq k),Ds++[D],rfl,rfl,by rw[zA,hl];rfl,ok.snoc ro⟩) ⟨n',n',n',n',[D0],rfl,rfl,rfl,ok0⟩
 subst e4 eh4
 obtain⟨σ5,h5,f5,r95,Ds5,e5,eh5,l5',ok5⟩:=rM (i:=9) (n:=m) (body:=aA cf fW Lw) (σ:=mw ns m how shift (some (.ref 1)) r3 r4 r5 n' n' n' r9) (h:=hh Ds4)
  (Iv:=λk σ h=>∃r9 Ds,σ=mw ns m how shift (some (.ref 1)) r3 r4 r5 n' n' n' r9/\h=hh Ds/\Ds.length=A+1+k/\AllOk (PP m how shift) p0 A Ds) (λk σ h hk iv=>by
   obtain⟨r9,Ds,rfl,rfl,hl,ok⟩:=iv
   obtain⟨D,ro,e⟩:=BI (p0:=p0) (A:=A) (Ds:=Ds) c k hk ZzL ZzL r3 r4 r5
   exact⟨_,_,e,some (aq k),Ds++[D],rfl,rfl,by rw[zA,hl];show A+1+k+1=_;lia,ok.snoc ro⟩) ⟨r9,Ds4,rfl,rfl,ll4,ok4⟩
 subst e5 eh5;obtain⟨Ds,ok,hD,l200,f6⟩:=wL (A:=A) (p0:=p0) (how:=how) (shift:=shift) c m1 r3 r4 r5 r95 200 fW Ds5 ZzL (zzk ZzD xY) ZzL ZzL ok5
 obtain⟨σ8,h8,f8,_,C8,q8,G8,S8,n8,r7,e8,eh8,hc8,l8⟩:=um (n:=1) (i:=7) (body:=aA cf fW JK) (ws:=Ds.map Dd.L)
  (Iv:=λk σ h=>∃C q G Ss dn r7,σ=mw ns m how shift (some (.ref 1)) r3 r4 r5 (some (.ref 2)) r7 n' r95/\h=H3 C q G Ss dn Ds/\CH m how shift C q G Ss dn/\C.length=k/\(0<k->Su p0 q (min k (A+1)))) (λk w σ h hw _ iv=>by
   obtain⟨C,q,G,Ss,dn,r7,rfl,rfl,cc,hk,su⟩:=iv
   rw[zT]at hw
   obtain⟨D,eD,rfl⟩:=Zg.mp hw
   have hkl:k<Ds.length:=(ze.mp eD).1
   subst hk
   obtain⟨C',q',G',Ss',dn',cc',hl',su',e⟩:=bg C q G Ss dn Ds r3 r4 r5 r7 r95 cc D eD ZzL (ok _ _ eD) su
   exact⟨_,_,e,rfl,C',q',G',Ss',dn',some D.L,rfl,rfl,cc',hl',λ_=>by rw[<- hl'];exact su'⟩) (Ds.map Dd.L).length 0 fW (mw ns m how shift (some (.ref 1)) r3 r4 r5 (some (.ref 2)) n' n' r95) (H3 [] sd0 [] [] [] Ds) (ZV _) (by rw[zo];exact zQ (show Ds.length<=1000 by lia) xY) rfl ⟨[],sd0,[],[],[],n',rfl,rfl,.nil,rfl,λz=>absurd z ZzD⟩
 subst e8 eh8;rw[zo]at l8
 obtain⟨σ9,h9,f9,w9,r79,r89,r99,C,q,G,Ss,dn,e9,cc,st9,hn9,l9⟩:=oy (is:=[9]) (body:=aA cf fW EO)
  (Iv:=λk σ h=>∃w r7 r8 r9 C q G Ss dn,σ=mw ns m how shift (some (.ref 1)) r3 r4 r5 (some w) r7 r8 r9/\CH m how shift C q G Ss dn/\Sts h w (Ss++[ic q G dn])/\h[0]?=some (.lst (C.map Sd.W++[q.W]))/\51<=C.length+k) ((List.range (min ns.length 16-8)).map λ(k:Nat)=>aq (8+k)) 0 (mw ns m how shift (some (.ref 1)) r3 r4 r5 (some (.ref 2)) r7 n' r95) (H3 C8 q8 G8 S8 n8 Ds) (λk w σ h hw iv=>by
   obtain⟨w6,r7,r8,r9,C,q,G,Ss,dn,rfl,cc,st,hn,hl⟩:=iv
   rw[zT]at hw
   obtain⟨k',ek,rfl⟩:=Zg.mp hw
   have hk:k<min ns.length 16-8:=by have:=(ze.mp ek).1;simpa using this
   have:k'=k:=by rw[List.getElem?_range hk]at ek;exact(zW ek).symm
   subst this
   obtain⟨C',q',G',Ss',dn',w',h',r7',r8',cc',st',hn',hl',e⟩:=tn C q G Ss dn h w6 (8+k') ZzL (some (.ref 1)) r3 r4 r5 r7 r8 cc ZzL st hn
   exact⟨mw ns m how shift (some (.ref 1)) r3 r4 r5 (some w6) r7 r8 (some (aq (8+k'))),_,_,rfl,e,w',r7',r8',some (aq (8+k')),C',q',G',Ss',dn',rfl,cc',st',hn',ZzL⟩) ⟨.ref 2,r7,n',r95,C8,q8,G8,S8,n8,rfl,hc8,.inr ⟨2,ZzD,rfl,rfl⟩,rfl,ZzL⟩
 subst e9;have ln:∀(σ:ag) (h:aa),σ[0]?=some (some (.scr (ns.map W.int)))->evE cf (.blt .len [V0]) σ h=.ok (aq ns.length) h:=λσ h e=>(fR (x:=.scr (ns.map W.int)) (us:=ns.map W.int) (ao e) rfl).trans (by rw[zo]);have r:=cc.rec' nP kP;refine⟨h9,(ai (bz (hW (aj (f7 (m:=7) aD (dY (C:=4) (a_ 0 _ _ rfl) aD ZzD e0)) (aj (dY (C:=363) (a_ 1 _ _ rfl) aD ZzD e1) (aj (dY (C:=676) (a_ 2 _ _ rfl) aD ZzD e2) ay))) (by rw[<- em];exact pe)))).trans ((ai (bz (lW (o3 (ao (i:=10) rfl)) rn))).trans ((ai (yX (l2 av (cj (aj (yY m1 rfl (aD (n:=0))) ay) (by show 1<=1000;decide))) (oh D0))).trans ((ai ((mf (n:=A) (f7 (m:=50) aD (dY (C:=10) (a_ 3 _ _ rfl) aD ZzD e3)) ZzL).trans f4)).trans ((ai ((mf (n:=m) (EC rfl) ZzL).trans f5)).trans ((ai (by rw[exS];exact f6)).trans ((ai (yX (w:=ic sd0 [] []) (l4 (cj ay ZzD) (cj ay ZzD) (by rw[evE];rfl) (cj ay ZzD)) rfl)).trans ((ai (by rw[exS,ao (w:=.ref 1) rfl,bnd_ok];exact f8)).trans ((ai ((Aq (i:=8) (j:=min ns.length 16) aD (tX (n:=16) (ln _ _ rfl) aD) ZzD ZzL).trans f9)).trans (a7 (aQ (cW (U1 rfl) (bO (st9.last (i:=6) rfl) av (rT rfl)) (ho q _ _ h9 r.ok _ hn9))))))))))))⟩
end Law
namespace PySem.W.Fast
def tw6993614220874292896:=0
def tw2666986768147011182:=0
def tw15145597471604842693:=0
def tw13312301058061821040:=0
def tw5890552672665341632:=0
def tw7250876873949992211:=0
def tw11771308730398854181:=0
def tw4633866072471731321:=0
def tw9281039387060516191:=0
def tw4633788900059846378:=0
def tw816596252063339145:=0
def tw5331863065173716540:=0
def tw1297004137583719842:=0
def tw6543493870433956898:=0
def tw17391919628259118207:=0
def tw1207375030977816622:=0
def tw12522406407012605987:=0
def tw9634087142289294858:=0
def tw251833099367576208:=0
def tw4458985907607618674:=0
def tw4880951526205144363:=0
def tw17859610025417135288:=0
def tw2520377681450613619:=0
def tw6046325362384500831:=0
def tw2542794198694165884:=0
def tw9202217349857986332:=0
def tw5443976773216119262:=0
def tw7003645529697376067:=0
def tw15003672387646710633:=0
def tw6370721632047246796:=0
def tw2895041408944432925:=0
def tw2143060618356086622:=0
def tw12584926852719862241:=0
def tw952600120120520666:=0
def tw13181563212057911919:=0
def tw10607000405100429316:=0
def tw5254639510209494418:=0
def tw11578629429853400651:=0
def tw16657694948012175708:=0
def tw13638521907506132679:=0
def tw8631381734764771794:=0
def tw18057924531684720337:=0
def tw11284058825693068236:=0
def tw9469958345635949363:=0
def tw7432728323853567660:=0
def tw745060852760652206:=0
def tw9876078570072155027:=0
def tw18021707098466314727:=0
def tw15351191609354626457:=0
def tw6859987326607283700:=0
def tw6683782317695145450:=0
def tw7560074224152024708:=0
def tw11495388624824581872:=0
def tw11121274532112827700:=0
def tw5244148340723843816:=0
def tw8313358861934545975:=0
def tw16438727884143788012:=0
def tw3413371600577719610:=0
def tw6958068390022843774:=0
def tw17840005427257692025:=0
def tw17314469054797531755:=0
def tw10738774095944302785:=0
def tw11595803062864916238:=0
def tw13044323550117597715:=0
def tw8115932362215439632:=0
def tw10394203419968101991:=0
def tw7185470802821292053:=0
def tw15618268706308080207:=0
def tw8572648836033551539:=0
def tw10669889228200182381:=0
def tw4703795756589688815:=0
def tw10803557647587361492:=0
def tw9995269218064784977:=0
def tw10041497996303688692:=0
def tw15944635124806188594:=0
def tw12012230647689928491:=0
def tw10803247596702759404:=0
def tw8707804416952351320:=0
def tw2496679342165703705:=0
def tw15858620323319661189:=0
def tw5000022690854423971:=0
def tw4912761826129495976:=0
def tw7575159560451499744:=0
def tw17089380667546388869:=0
def tw7768291266356109616:=0
def tw12421361351961164014:=0
def tw9146397109862249169:=0
def tw12416052197323456308:=0
def tw4404131299749617476:=0
def tw9349621363961049068:=0
def tw15178839901931815713:=0
def tw9029419845883605663:=0
def tw5545362688877175944:=0
def tw4183407671925309444:=0
def tw13943500126928582636:=0
def tw8211185819269241073:=0
def tw10509837875761599953:=0
def tw15208241783655463810:=0
def tw10059411904863114358:=0
def tw16750737373585893842:=0
def tw1503331670150629665:=0
def tw303400685425147002:=0
def tw6149454717842683782:=0
def tw7434744935861444926:=0
def tw7111538352353597009:=0
def tw549477672427385556:=0
def tw13274962150416241474:=0
def tw12613106153188579171:=0
def tw11678626691007793368:=0
def tw7569120476684653232:=0
def tw11422802239767842791:=0
def tw13731077698982333914:=0
def tw236550780124661374:=0
def tw14919504119079866424:=0
def tw18175578885816775720:=0
def tw18242833225913214328:=0
def tw6728381219785095931:=0
def tw2071625643018753468:=0
def tw4728373446374333064:=0
def tw15299058110817113859:=0
def tw9370350887235936919:=0
def tw2365647943110534397:=0
def tw13614906545960399833:=0
def tw11669629929334145705:=0
def tw15922310259519990361:=0
def tw4298214287616940592:=0
def tw9436212224998475850:=0
def tw6418547116848606778:=0
def tw4010673277554439047:=0
def tw13034458317242637256:=0
def tw4244603628470896174:=0
def tw4920217212579054884:=0
def tw15420217954955066075:=0
def tw11959329779609735151:=0
def tw11081402522741080064:=0
def tw16042518061235304315:=0
def tw4266187793471230878:=0
def tw607730783210733279:=0
def tw211254156002777339:=0
def tw8197838890157370344:=0
def tw17909274369740246639:=0
def tw2550153634899503741:=0
def tw7865751370084128545:=0
def tw6885674283209948593:=0
def tw3584145623266373305:=0
def tw6081684434546683194:=0
def tw15050919887950411989:=0
def tw11627743169454698946:=0
def tw11883050060063652917:=0
def tw9417792129377555584:=0
def tw4608965876705879255:=0
def tw14225134093568100855:=0
def tw11197193190523292118:=0
def tw17427112023780652582:=0
def tw3873041018169526401:=0
def tw16266567267321673608:=0
def tw16290288439752348741:=0
def tw8269853273188843744:=0
def tw10015298066074266650:=0
def tw195041713305816904:=0
def tw16599508059443007450:=0
def tw5821285269205971111:=0
def tw3266886544473468882:=0
def tw10196543720701006200:=0
def tw18271530182797324906:=0
def tw13257187644278347863:=0
def tw4461992910646407683:=0
def tw4267856974615435549:=0
def tw16940574639475325530:=0
def tw10753174780344531340:=0
def tw3493060668188754357:=0
def tw385295348801635068:=0
def tw11091416109987379639:=0
def tw11467947685568109775:=0
def tw7407427087178328309:=0
def tw15337718127688064758:=0
def tw10288937855288767773:=0
def tw16794059045197236399:=0
def tw6656287611096569158:=0
def tw14426379591514826671:=0
def tw15390931925717799330:=0
def tw14478763197088501251:=0
def tw7486486972469176822:=0
def tw15157764117334733918:=0
def tw12912476754916177843:=0
def tw6194382509993431072:=0
def tw10564818296389524528:=0
def tw4598520033599411461:=0
def tw8620054805915132011:=0
def tw10399189894121554643:=0
def tw7932062527937480564:=0
def tw6473000730717622065:=0
def tw15658794922498916937:=0
def tw1531114358394500026:=0
def tw2868457665641668122:=0
def tw13693621252873910547:=0
def tw2514157478059659335:=0
def tw4433695347633593977:=0
def tw13679052740503017674:=0
def tw11668463792688524909:=0
def tw13746491649948608591:=0
def tw8179966374318729390:=0
def tw969605741580568745:=0
def tw6860856919747395037:=0
def tw6721506788145831683:=0
def tw16171211915076855232:=0
def tw12942457737095081297:=0
def tw1087612709427962656:=0
def tw10514091149323982882:=0
def tw9666376966757497124:=0
def tw17983517105796036544:=0
def tw11934345845335319533:=0
def tw2448188056891028306:=0
def tw11158715404143848510:=0
def tw10822834428951085672:=0
def tw7638912038588476613:=0
def tw16941043863984696275:=0
def tw10928539406278768662:=0
def tw15273686468369233903:=0
def tw7563612518652588383:=0
def tw9618036164249908915:=0
def tw6046950666355486627:=0
def tw3904802428646289893:=0
def tw17155622081181007518:=0
def tw12472958214112846296:=0
def tw10356531287473613319:=0
def tw7018946697283153538:=0
def tw6987113153279260515:=0
def tw4392709607133798350:=0
def tw4331373914923640155:=0
def tw17441202886153104970:=0
def tw1416871137012334667:=0
def tw4047723479666782196:=0
def tw13243605043384429551:=0
def tw11582288644232826861:=0
def tw10508239475173324952:=0
def tw17669084652158215501:=0
def tw14821485249040045576:=0
def tw2937890203406458649:=0
def tw3659538207379111368:=0
def tw3251529358798301891:=0
def tw14851391830600692701:=0
def tw12056125961283933774:=0
def tw1179115140979865763:=0
def tw13705732038705629763:=0
def tw11090976188259529517:=0
def tw8446313565253893763:=0
def tw628107243818852285:=0
def tw5605540066808416314:=0
def tw3762062835536089752:=0
def tw2882210954522463574:=0
def tw11577407128567074831:=0
def tw360475620408778848:=0
def tw8774703265349036338:=0
def tw7601192188066229618:=0
def tw11374367618076268588:=0
def tw9641480937737695899:=0
def tw7164372702023209195:=0
def tw5908902520772800741:=0
def tw1587448658475244476:=0
def tw15113665625055639895:=0
def tw11986024259834709293:=0
def tw15048189721637542597:=0
def tw9019508878801796628:=0
def tw3577911729649731822:=0
def tw17491786171980833162:=0
def tw14524024521903933580:=0
def tw12819899490355030311:=0
def tw1169863572237196286:=0
def tw3723885431136410838:=0
def tw2554033778241466830:=0
def tw8179113288638153078:=0
def tw16114020400310126093:=0
def tw4183918061290582292:=0
def tw6538618719386701842:=0
def tw8616439682002996:=0
def tw17969316497699200262:=0
def tw1633264016294791874:=0
def tw14990458471174470436:=0
def tw15439699451884563556:=0
def tw14481394010369996345:=0
def tw12448900037942443025:=0
def tw16190239574135147291:=0
def tw8689890761526530789:=0
def tw7324516287098726218:=0
def tw69840313815261454:=0
def tw6489814714063691137:=0
def tw5539614151506776675:=0
def tw11927352461801537530:=0
def tw6253179430547410487:=0
def tw12025919987201639132:=0
def tw3118093427124438716:=0
def tw10140556972144239213:=0
def tw8641077387457343751:=0
def tw3245505945198629507:=0
def tw6103074621079281674:=0
def tw3008686092110542254:=0
def tw2360990697337093622:=0
def tw14861153543767513074:=0
def tw546096249301032426:=0
def tw14799685876901234254:=0
def tw14128529642246974914:=0
def tw8023607688709176367:=0
def tw5480482161589915653:=0
def tw4828920468830684043:=0
def tw4306810860611149497:=0
def tw4093301687086435964:=0
def tw2092147778625752378:=0
def tw16168307014485964857:=0
def tw15011016374847510572:=0
def tw11568409002351778309:=0
def tw746855966956031723:=0
def tw16638815486513912708:=0
def tw18359674208212168798:=0
def tw14518687449292102747:=0
def tw7334138798768091185:=0
def tw9798335481819004852:=0
def tw5509602226884483201:=0
def tw4825050278326987066:=0
def tw16644071679251186805:=0
def tw16197489862631448541:=0
def tw11739491003814599811:=0
def tw10906152566013819111:=0
def tw10502517515936201435:=0
def tw14004234251839335254:=0
def tw9598039560356298698:=0
def tw899079011296562077:=0
def tw9267645536438715938:=0
def tw6018042074956288540:=0
def tw3462442851445824783:=0
def tw2798590085705336941:=0
def tw18167056602254120288:=0
def tw9639075250497343158:=0
def tw7781225956757161515:=0
def tw6263348671130569966:=0
def tw5851483692439849590:=0
def tw5846988147524281900:=0
def tw4460584381007308686:=0
def tw4417263973896323724:=0
def tw2278934171743959423:=0
def tw2192445635661905025:=0
def tw2137554866121805795:=0
def tw17520535980316185141:=0
def tw17049858737184220009:=0
def tw15931579529849347877:=0
def tw14858225358536640578:=0
def tw14520671860043445807:=0
def tw13895203351343298577:=0
def tw13662974861867850941:=0
def tw12727551641655524793:=0
def tw11569182852711331523:=0
def tw18072807145170030317:=0
def tw9041272310245018371:=0
def tw8958794444030942976:=0
def tw9030488755372239408:=0
def tw8792623124231365714:=0
def tw802999838353814357:=0
def tw6792923165168542153:=0
def tw6483276347822559222:=0
def tw5482885425906557105:=0
def tw5436613270395803950:=0
def tw501722566295206115:=0
def tw2855531756945366644:=0
def tw21333465699093410:=0
def tw1882126481409009610:=0
def tw15791165595681566544:=0
def tw15584112110868468099:=0
def tw1551409421310973045:=0
def tw1517599412047695987:=0
def tw1487072330276209230:=0
def tw14427612509762371889:=0
def tw13318307743531605743:=0
def tw1317325317998625778:=0
def tw12569885745281322772:=0
def tw10609806613917401561:=0
def tw14612492087241862136:=0
def tw14593237399575182408:=0
def tw15441964826469162164:=0
def tw13576585567944379800:=0
def tw11404720229354590083:=0
def tw4491014034619396540:=0
def tw3771505666436697321:=0
def tw353537880583867038:=0
def tw15801859284126553435:=0
def tw6461114796825220576:=0
def tw9259331895464759227:=0
def tw4906571287397589954:=0
def tw17876665078257429330:=0
def tw16768144144300090910:=0
def tw9354652623951204554:=0
def tw9218618181218734723:=0
def tw14584271927914777987:=0
def tw12729732804019001:=0
def tw12554265170546485821:=0
def tw10620953158237531557:=0
def tw6322923763939260949:=0
def tw14038399724856985624:=0
def tw6415945855641423111:=0
def tw3157976269213923050:=0
def tw2920547052021367706:=0
def tw14981144806195485475:=0
def tw10965103667855274856:=0
def tw15955432829939670116:=0
def tw11857658137486684787:=0
def tw13552759166668582428:=0
def tw4040550616030258286:=0
def tw6328181441588742544:=0
def tw9240020325340384115:=0
def tw560596283850690471:=0
def tw14347698135680195435:=0
def tw9499721404267535326:=0
def tw6843510518509625391:=0
def tw489155922308807773:=0
def tw827885193173368336:=0
def tw8192087998825808130:=0
def tw6437431600371210311:=0
def tw5882929741013659637:=0
def tw18407615490683714833:=0
def tw13663551377787781635:=0
def tw12580742593367517345:=0
def tw7554548516947879887:=0
def tw2177373005212510190:=0
def tw6219954773911941374:=0
def tw267032148736636757:=0
def tw6122738608941479129:=0
def tw5821204067435553059:=0
def tw3678886466940874335:=0
def tw3297321601766604968:=0
def tw2796514187854233725:=0
def tw18067372856696817065:=0
def tw15769150896064684286:=0
def tw15217141179115960562:=0
def tw13202804519517569168:=0
def tw11528997358366728438:=0
def tw10705126277564177521:=0
def tw8237008187896249653:=0
def tw4069817047846340018:=0
def tw3868065054576511947:=0
def tw2893399764599036528:=0
def tw2825438274057261940:=0
def tw17908173424676868818:=0
def tw1688233727799132546:=0
def tw1653532646898645426:=0
def tw16440580984719281318:=0
def tw13094461515318874620:=0
def tw12975326787173047550:=0
def tw12089917321434483151:=0
def tw2785664858898439047:=0
def tw12368152790166439439:=0
def tw4315141863111703864:=0
end PySem.W.Fast
open PySem PySem.W PyProof.Rows
set_option maxRecDepth 100000 in
set_option maxHeartbeats 0 in
theorem PySem.Challenge.cw_jointhold_k21_sixty_parts_holds : PySem.Challenge.rw_jointhold_k21_sixty_parts.Holds := by
  w_on;o_law;k_head;(case hw=>w_witness2)
  k_fill
  refine J.walk (l:=PySem.Challenge.rw_jointhold_k21_sixty_parts) (i:=60) (df:=Law.d60) rfl rfl (fun w h Y=>PySem.W.kIn_of Y) (J.made_ok Law.made) rfl rfl rfl rfl ?L (fun ns hl=>Law.run ns hl)
  intro w mg fa h KX G hmg
  refine' J.with_ocl KX (J.ocl0 ?zn ?zi ?zh ?zp ?zs ?zf0 ?zf1 ?zf2 ?zf3) fun O0=>?M0;(case zn=>k_is);(case zi=>k_is);(case zh=>k_is);(case zp=>k_is);(case zs=>k_is);(case zf0=>k_is);(case zf1=>k_is);(case zf2=>k_is);(case zf3=>k_is)
  refine' J.with_ocl KX (J.ocl1 ?zn ?zi ?zh ?zp ?zs ?zf0 ?zf1) fun O1=>?M1;(case zn=>k_is);(case zi=>k_is);(case zh=>k_is);(case zp=>k_is);(case zs=>k_is);(case zf0=>k_is);(case zf1=>k_is)
  refine' J.laid_all (Cs:=[_,_,_,_,_,_,_,_,_,_,_,_]) KX G ?D ?Z ?zg ?zu
  (case D=>simp only [Law.ds,J.AllP,and_true];refine' ⟨?_,?_,?_,?_,?_,?_,?_,?_,?_,?_,?_,?_,?_,?_,?_,?_,?_,?_,?_,?_,?_,?_,?_,?_,?_,?_,?_,?_,?_,?_,?_,?_,?_,?_,?_,?_,?_,?_,?_,?_,?_,?_,?_,?_,?_,?_,?_,?_,?_,?_,?_,?_,?_,?_,?_,?_,?_,?_,?_,?_,?_⟩;(iterate 22 (refine' J.laid_mk KX G rfl ?zb ?za ?zl ?zc ?zk;(case za=>k_is);(case zl=>k_is);(case zc=>k_is);(case zk=>k_is);(case zb=>first | exact J.bo1 rfl (by intros;rfl) | exact J.bo2 rfl (by intros;rfl) | exact J.bo3 rfl (by intros;rfl) | exact J.bo4 rfl (by intros;rfl) | exact J.bo5 rfl (by intros;rfl) | exact J.bo6 rfl (by intros;rfl))));(refine' J.laid_ini KX G (d:=Law.d22) O0 (by decide) ?zm ?zi ?zb ?za ?zl ?zc ?zk ?zt;(case zm=>k_is);(case zi=>k_is);(case za=>k_is);(case zl=>k_is);(case zc=>k_is);(case zk=>k_is);(case zb=>first | exact J.bo1 rfl (by intros;rfl) | exact J.bo2 rfl (by intros;rfl) | exact J.bo3 rfl (by intros;rfl) | exact J.bo4 rfl (by intros;rfl) | exact J.bo5 rfl (by intros;rfl) | exact J.bo6 rfl (by intros;rfl));(case zt=>k_is));(refine' J.laid_ini KX G (d:=Law.d23) O1 (by decide) ?zm ?zi ?zb ?za ?zl ?zc ?zk ?zt;(case zm=>k_is);(case zi=>k_is);(case za=>k_is);(case zl=>k_is);(case zc=>k_is);(case zk=>k_is);(case zb=>first | exact J.bo1 rfl (by intros;rfl) | exact J.bo2 rfl (by intros;rfl) | exact J.bo3 rfl (by intros;rfl) | exact J.bo4 rfl (by intros;rfl) | exact J.bo5 rfl (by intros;rfl) | exact J.bo6 rfl (by intros;rfl));(case zt=>k_is));(iterate 14 (refine' J.laid_mth O1 rfl (by decide +kernel) ?zb ?za ?zl ?zc ?zk ?zt;(case za=>k_is);(case zl=>k_is);(case zc=>k_is);(case zk=>k_is);(case zb=>first | exact J.bo1 rfl (by intros;rfl) | exact J.bo2 rfl (by intros;rfl) | exact J.bo3 rfl (by intros;rfl) | exact J.bo4 rfl (by intros;rfl) | exact J.bo5 rfl (by intros;rfl) | exact J.bo6 rfl (by intros;rfl));(case zt=>k_is)));(iterate 23 (refine' J.laid_mk KX G rfl ?zb ?za ?zl ?zc ?zk;(case za=>k_is);(case zl=>k_is);(case zc=>k_is);(case zk=>k_is);(case zb=>first | exact J.bo1 rfl (by intros;rfl) | exact J.bo2 rfl (by intros;rfl) | exact J.bo3 rfl (by intros;rfl) | exact J.bo4 rfl (by intros;rfl) | exact J.bo5 rfl (by intros;rfl) | exact J.bo6 rfl (by intros;rfl)))))
  (case Z=>simp only [J.bltNames,J.AllP,and_true];refine' ⟨?_,?_,?_,?_,?_,?_,?_,?_,?_,?_,?_,?_,?_,?_,?_,?_,?_,?_,?_⟩ <;> k_is)
  (case zg=>simp only [Law.gl,J.AllP,J.GlAt,and_true,true_and,List.getD_cons_zero,List.getD_cons_succ];refine' ⟨?_,?_,?_,?_,?_,?_,?_,?_,?_,?_,?_,?_,?_,?_,?_,?_,?_,?_,?_,?_,?_⟩;(refine' J.con_str (PySem.W.mg_of KX G ?zq);(case zq=>k_is));(iterate 3 (refine' J.con_int (PySem.W.mg_of KX G ?zq);(case zq=>k_is)));(refine' J.con_tup (is:=[1,1]) (PySem.W.mg_of KX G ?zq) ?zp ?zv ?zz;(case zq=>k_is);(case zp=>k_is);(case zv=>exact .cons ⟨_,rfl⟩ (.cons ⟨_,rfl⟩ (.nil)));(case zz=>decide));(iterate 3 (refine' J.con_int (PySem.W.mg_of KX G ?zq);(case zq=>k_is)));(iterate 12 (refine' ⟨Nat.le_of_ble_eq_true rfl,J.err_mk KX G ?zx ?zy ?zv ?zw,?zr,?zs,?zt⟩;(case zx=>k_is);(case zy=>k_is);(case zv=>k_exc);(case zw=>rfl);(case zr=>unfold J.FE;k_is);(case zs=>unfold J.FE;k_is);(case zt=>unfold J.FE;k_is)));(refine' J.bas_mk KX G ?zx ?zy ?zv ?zw;(case zx=>k_is);(case zy=>k_is);(case zv=>k_exc);(case zw=>rfl)))
  (case zu=>decide)
